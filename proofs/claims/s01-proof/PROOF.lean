import PyProof.Rows.All
import Wide.All
import OpenK.AllK
import Wide.FinOn
import PyProof.EqAt
import PyProof.EqKinds
import PyProof.TupleCall
import Open.SpecLaws
import KE.OsHead
import KE.OsGo
import KE.BitLaws
import PyProof.ExcArgsOwn
import PyProof.InstStoreFacts
import PyProof.ExcInit
import PyFlatLaws
import PyWrlnth
import PySem.Challenge.RW_bitsound_s01_answers
set_option Elab.async false
set_option linter.all false
set_option maxRecDepth 100000
set_option maxHeartbeats 2000000
local macro_rules|`(tactic|trivial)=>`(tactic|first|exact .inl rfl|exact .inr rfl|exact .inr (.inl rfl)|exact .inr (.inr rfl)|assumption|(intro _;rfl)|(intro _ _;rfl)|(rintro _ _ _ _ ⟨⟩;(try(rename_i h;cases h));subst_vars;first|rfl|simp_all))
theorem Z_t0(h:0=0:=by trivial):True:=trivial
abbrev Z_t:=Z_t0._auto_1
theorem Z_d0(h:0=0:=by decide):True:=trivial
abbrev Z_d:=Z_d0._auto_1
theorem Z_r0(h:0=0:=by rfl):True:=trivial
abbrev Z_r:=Z_r0._auto_1
structure PySem.W.Fast:Prop where(tw8256245648484206717 tw9399178890980683162 tw1830535409818086102 tw12693338348525676261 tw6859849530914829435 tw8574867627347597754 tw4145198594198293142 tw13154604929675388542 tw17794633934827577416 tw10023315416023983629 tw1028808957072235236 tw10372315189068924271 tw4599720034580353330 tw14391461883232013126 tw3275711389900809143 tw11290895339009915951 tw1278422238869337620 tw11537968553001842879 tw5042659232773921016 tw6416518920283067072 tw18443949970477094308 tw7690083131353433929 tw7082059432004333460 tw2004336759188459008 tw1466633292256340602 tw10046867098673389611 tw11167992946421382510 tw7885329340846714358 tw7746665937625987269 tw16277758844188859159 tw14608627685443910507 tw4887697162679621731 tw3635081289727510460 tw10895316096091609006 tw2898951619619289932 tw2196599376126829602 tw17858511472702616044 tw11684803086732540217 tw917886177229272630 tw6751338010174389122 tw13582466866513617791 tw493216558455261226 tw6792923030372214620 tw6114910356753176040 tw5005268778073020568 tw7087730078008858882 tw10695850819928587877 tw14725781180136897466 tw10264437530278167271 tw4803088226626907745 tw1149016062185578525 tw14879867888403783514 tw7845730452220280369 tw8329432196804607772 tw12003131630723853275 tw18300792812830533291 tw6294244305609715358 tw5049005496869473449 tw12002880071920253044 tw8312908004317905656 tw8054157936643673432 tw3062155804570679872 tw896922179790591292 tw9953366584347664601 tw15390331692554845781 tw926974943447625955 tw18289338644207163710 tw3104119552712883144 tw4379446819239774695 tw17134195654506806525 tw8226598109459121570 tw2975714970038985572 tw4564243728005681650 tw10422530309160635779 tw12737286386761936101 tw12688230552179113327 tw10234102207253771337 tw131767001915086013 tw16931859357235900351 tw3921857653331622220 tw13875356796280211689 tw4175204642424917290 tw16994795177045268079 tw6696394039017009927 tw10652097706043431977 tw11308015851213017893 tw7473458847920652504 tw9184215627969344110 tw14456124177343396758 tw9447135920687357363 tw14391381684969311433 tw12252407421645773830 tw16284224274002859831 tw9013109276113917615 tw3512939491427133167 tw5576594075721598490 tw6973419030934350839 tw14697399535176621708 tw418526613546366037 tw2773525446750586318 tw18345052080244834582 tw9419535386822563434 tw1600513094463383697 tw4381932924495785935 tw13869450404874991982 tw1887566072603883172 tw5450042335292288720 tw13494013937502626486 tw11434923761937710230 tw2079708502561878057 tw16200150540050032884 tw16151429436136928913 tw16257033183162044991 tw7197226631165256258 tw8949160441978719124 tw5852977411955144530 tw5611092261649564432 tw5941623117764613893 tw5761357443989059170 tw1423480948235205116 tw11277795851075349143 tw9197901769692926814 tw13324058608412042894 tw1153856262702458431 tw161594913311195187 tw7001848395626145878 tw17825763608149234701 tw4087041188285414067 tw17383884308519350768 tw5072516992913654047 tw12273761600359272334 tw18245822341372079017 tw3401616785857679308 tw4288573625461327543 tw15183297674608255420 tw3115446781537957210 tw2088384860139505948 tw16510456723613821004 tw15044080155953142987 tw10340646197023072816 tw15349021188952630332 tw6468019352614254260 tw11396856089662577501 tw18129365871655986840 tw17428697436554406788 tw6664861176809239232 tw16683943837729311608 tw4892958888989940073 tw10470368272084288037 tw330856588985669698 tw1839062325288686304 tw5657592873702357691 tw6851732551657199550 tw4843597913140495087 tw11041471671036224399 tw8282510152175696563 tw9546214071207082033 tw6644350842967826101 tw17992517015506169914 tw558626994067319852 tw14897460321794972597 tw18086868528876673232 tw6272653554902101022 tw15864024774459923433 tw5883042718260016439 tw9830392441171756431 tw11797563201310028122 tw4861021125759701638 tw3330803846435053598 tw15434014166848338509 tw8161963963419363903 tw633935894809501876 tw8726828915187732992 tw7158233613134430567 tw12515169993943394911 tw3505629358039198795 tw6716887503919710112 tw2476376912059465113 tw10616450293665256604 tw8006867031851676893 tw10634945874398271810 tw1813617734547382602 tw6574454224502191163 tw7064740889553649485 tw4759318540111148810 tw696510089192697743 tw2472756100775765033 tw16499237322558894202 tw2147567127529624223 tw18207833502682792398 tw3475365570223431531 tw442471978110213672 tw12325568830270174604 tw11394440463104314210 tw1036348891968812981 tw16016142537717186259 tw3069097532945918438 tw295938260261611365 tw5729663932506571289 tw10832535584264911783 tw5101259901033356795 tw15075122937913663815 tw11010119122378536935 tw10928356693351930404 tw17114170044556314128 tw8667160100720729727 tw12324997305480717626 tw3602318273905222172 tw1076805273436395785 tw17472686467414741113 tw12192894549688980399 tw10581959442930156505 tw16871244935875059023 tw12589997898217573614 tw12966373226999655670 tw15332671892907361364 tw17749292291528499675 tw16660274047591906257 tw5257880287801964206 tw12566852413107434922 tw4158024025607797311 tw16474609879817724333 tw12314936052253190775 tw15381771178461162382 tw9148890026876820041 tw1128409734448622774 tw16548023203611242205 tw14250750409898420308 tw8716203972646804854 tw16405877404286910754 tw8417175989786899764 tw4328229104178542824 tw18280016347808933225 tw13610335056005075602 tw16603197736201421824 tw7225111519769357171 tw7635871876242031892 tw2316474656227235188 tw14860281027563646854 tw4573313327004777968 tw14991634726368858923 tw544818992830599913 tw10791671234214721801 tw12288120106308222235 tw12145403376580623996 tw6700985502335599584 tw13275386260549900032 tw11981892926529998313 tw11862936986525267825 tw5757711669694376459 tw13942494757061668964 tw13551679982244496926 tw5991963907474831843 tw3366640372760455495 tw17429065771942909498 tw196013202523580333 tw11511820407376597369 tw6163627638236248444 tw274638500010537401 tw1617021111850697355 tw7667263693436382537 tw6903282928899407712 tw15570566014573627213 tw6318034081288134324 tw14976446752856181216 tw17306179977777020219 tw10063052840639418325 tw12579532712757463437 tw6971235856460377314 tw8653656180650033578 tw12820038131095286977 tw10052963305894839317 tw14957215059629683547 tw8551070795506954474 tw12731874224853761582 tw1988905506307182019 tw3749890264789142559 tw898604072953674382 tw16760729167280156733 tw14070944065133301767 tw6146088752389749655 tw15131635402251376961 tw8832346879805018242 tw3814489066150186392 tw2326407311615550781 tw1303335785605032851 tw6309670947967980523 tw3297613450443182328 tw10857878418965349820 tw153279208589554675 tw15349293134975455026 tw402789118073039383 tw10421767989981117028 tw4578514539818132116 tw6578456132673124903 tw13123931808108326368 tw4222248281233435164 tw13785845560592295533 tw12567828762147700318 tw12341834659303118954 tw6261246555727071860 tw12352962220537776698 tw6926265102871454281 tw11531544291642259574 tw16553213099545014254 tw15693464417488004153 tw1316873837499448579 tw6274395046738631112 tw14093503228103685540 tw11659946331417658946 tw9283006317638681198 tw6424767949956261301 tw5116411287962345691 tw9504071889383509659 tw13542593023045229537 tw13833344107953864971 tw7480829618396658356 tw18114868378254878897 tw17564859138947373408 tw15813193285503001844 tw7715876364549297183 tw16764811000302772959 tw6687668890139916116 tw10500713488289622805 tw673291841112883910 tw17100339983805718919 tw4047247720807971295 tw5717354544156989635 tw9914741907946258689 tw4396560665414852993 tw6004849686513641845 tw115633033101295824 tw7626633215665738583 tw5165782841587818694 tw3865309197008188038 tw7131522789510135298 tw13317962533907387064 tw8539650544476426469 tw4811586621832732498 tw4224557169231412442 tw16429767522018778741 tw3741245502604483477 tw15516599390826690586 tw1750293466485131447 tw15052886651056437227 tw13462383174467468934 tw10466605635698395919 tw17124504411502252147 tw113699611659281033 tw16994610522617677848 tw13984790868107859952 tw1755731899562161489 tw13859462635572245857 tw11136657241636464866 tw10540255660630460147 tw7600039784104447886 tw16915220190462116744 tw5051748029988221289 tw2472796577548276372 tw13615118085846294618 tw8976498800011555663 tw7825436067966441961 tw9333791328715577030 tw18114250417052627532 tw8686775830322146194 tw6116973796485497428 tw2499889596597831615 tw18243793588812750163 tw1793149854061917414:True)
theorem kW1:PySem.Challenge.rw_bitsound_s01_answers.wellSaid=true:=by decide+kernel
def Z.{u}{a:Sort u}{b:a}:b=b:=rfl
def aj.{u}{c:Prop}{d:Decidable c}(h:c){a:Sort u}{t e:a}:ite c t e=t:=if_pos h
def ah.{u}{c:Prop}{d:Decidable c}(h:¬c){a:Sort u}{t e:a}:ite c t e=e:=if_neg h
def ae{c:Prop}{d:Decidable c}(h:¬c):decide c=false:=decide_eq_false h
def ag{c:Prop}{d:Decidable c}(h:c):decide c=true:=decide_eq_true h
abbrev bX:=List Int
abbrev ie:=List Nat
abbrev ly:=List (List Int)
open PySem.W renaming Frag->au,nsIn->fi,emptyDict->gB,findIn->ik,keepIn->il,instObj->jL,callWith_K->lg,methodCall_KW->qf,callWith_K0->rY,fnOf->sL,plainGet->vK,cellsFrom_some->xi,isFn->xj,lookIn->zG,plainGet_of->AO,hasDictIn->DF,methodObj->DG,length_le_weightAllW->G_,takerIn->He,codeIn->J7,codeRec_of->UR,plainOver->Wu,WRecords->W_,handedIn->Xa,makesIn->aaw,WalkOS->abc,nsOkIn->abd,typeIn->abe
open List renaming getElem?_map->aw,mem_of_getElem?->az,length_map->aB,getElem?_eq_getElem->aD,getD_eq_getElem?_getD->aG,range->aK,replicate->aM,getElem?_eq_some_iff->aN,length_append->aO,mem_cons_of_mem->aP,mem_cons_self->aU,length_cons->aZ,mem_map->bj,mem_cons->bo,size_toArray->bB,getElem?_range->bD,foldl_cons->bR,mem_range->cb,flatMap_cons->cn,take_of_length_le->cq,map_cons->cz,append_assoc->cD,length_take->cN,drop_eq_getElem_cons->cT,mem_append->c_,range_succ->de,eq_nil_of_length_eq_zero->di,foldl_append->dB,mem_iff_getElem?->dJ,zipWith->dO,length_nil->dW,length_drop->dY,getElem?_set_self->eF,mem_append_right->eQ,mem_of_mem_take->e_,mem_replicate->fb,length_set->fc,all_eq_true->fz,map_congr_left->fM,replicate_succ->fN,append_nil->fX,mem_singleton->gc,take_length->gk,drop_of_length_le->gJ,getElem?_append_right->gK,getElem?_zip_eq_some->hG,getElem?_eq_none->ia,length_replicate->ib,drop_zero->iD,getElem?_set_ne->iE,nodup_cons->iT,map_map->jg,lookup_cons->jn,getElem?_append_left->jR,map_append->jU,flatten_cons->jX,forall_mem_cons->jY,getElem?_of_mem->jZ,length_range->j4,mem_of_mem_drop->j5,map_take->kg,flatMap_append->kK,length->lA,lookup->lB,map_drop->lY,mem_append_left->mY,any_cons->oH,find?_cons->oU,mem_filter->oV,getElem?_replicate->pG,ext_getElem?->qd,range_succ_eq_map->qe,getElem?_zipWith->qV,take_append_drop->qW,drop_length->rn,getElem?_modify->rX,nil_append->tF,drop_drop->uK,zip_cons_cons->uL,all_cons->wJ,getElem?_take_of_lt->wK,cons_append->xw,drop_eq_nil_of_le->yT,map_nil->yU,of_mem_zip->zB,contains_iff_mem->Aa,foldl_nil->By,nodup_nil->Bz,filterMap_cons->Dr,flatten_append->Ds,sum_cons->DC,contains_cons->Es,find?_eq_none->Et,not_mem_nil->JL,length_zip->KZ,take_left->NS,take_zero->NT,getElem?_cons_succ->QH,dropLast_eq_take->UH,eq_replicate_iff->UI,getElem?_reverse->UJ,contains_eq_mem->Wl,length_pos_iff->WV,take_succ_cons->WW,foldl->aam,getElem?_drop->aan,length_modify->aao,map_replicate->aap,mem_filterMap->aaq,getElem?_set->aa3,any_eq_true->adn,filter_cons->ado,getElem_inj->adp,getElem_mem->adq,mem_flatMap->ads,drop_left->ag5,forIn_nil->ag6,set->ag7,all_map->ak2,map_set->ak3
open PySem renaming sizeLine_eq->aE,Shared->aL,wpAny_bind->aR,sizeLine->bu,wpAny->bw,model->bA,Program->bJ,Spec->bK,wpAny_loadPart_at->bU,wpAny_pure->bV,mem_of_lookup->cw,World->cA,starEach->dv,wpAny_mono->dI,FuncData->eN,cellsFrom->fm,wpAny_Call_Name_kw->fC,wpAny_standAt->fG,excClassObj->fW,compEnvC->iB,wpAny_typeLookup_exc->iX,compareOp->je,wpAny_truthy_bool->kr,typeLookup->kW,wpAny_isSubtype_exc->lE,mainGlobals->mn,wpAny_field->mq,wpAny_passesOwn->mJ,attributeBase->mT,swapsWith->mU,wpAny_holding->mV,backTo->m9,Scope->nz,foldedSetIterable->nA,binaryOp->oy,keywordEach->oz,sysModules->oA,behindInMarks->pR,bootBuiltins->rK,assignEach->tJ,ExceptHandler->tM,sliceBounds->t9,unbindBehindTheSuite->t_,wpAny_execs_nil->uQ,codeAny->vq,holding->vt,getMethod->wC,pushCells->wD,backToKw->w_,wpAny_setField->xc,GenState->AF,noteFrame->AG,ExcBaseFacts->BK,cameBackBy->BL,codeAny_mono->BM,standAt->BN,wpAny_call->BO,letOwnedTupleGo->Dj,pushCells_keeps->Dl,frameOf->Dt,arm_exec_Raise->Fp,callWith->Fq,codeAny_call_builtin->Fs,Within->Fz,notedBy->Gv,setFlight->Gw,Params->JY,tupleKind_room_in1->JZ,BindsTo->LZ,cLine->L0,valueAt->L1,wpAny_newObj_type->L3,plainObj_wpAny_Assign_Attribute->NO,tupleKind->N3,IsRangeIter->Qv,subscripted->Qw,passOn->QK,OsState->SQ,callerA->SS,getItem->SU,Operator->Uv,assign->Uw,atKey->Ux,call_meets->Uy,recursionLimit->Uz,wpAny_newFunctionEnv_cells->UA,codeAny_call_builtin_code->Wd,wpAny_check_type_call_sub->We,wpAny_update'->WR,Drawn->aad,bindC->aae,bindL->aaf,codeAny_call_builtin_at->aag,raiseStmt->aah,Keyword->aaU,getAttr->aaV,isTrue->aaW,seqIndex_neg->aaX,wpAny_pyIter_rangeiter->aaY,wpAny_pyNext_range_end->aaZ,builtinLookup_eq_fast->adi,codeAny_call_function->adj,wpAny_isTrue_Compare1->adk,bindName->aew,compPost->aex,handleBy->aey,seqIndex_of->aez,wpAny_loadName_local->aeA,wpAny_pyIter_revIter->aeB,codeAny_exc_new_sub->ag1,wpAny_check_new_sub->ag2,wpAny_loadName_cell->ag3,builtinsNs->ahV,typeIs_int->ahW,wpAny_Name->ahX,wpAny_pyIter_range->ahY,wpAny_assign_Name->akW,wpAny_pyIter_enum->akX,wpAny_pyIter_list->akY,pastItsLine_dict->amg,wpAny_execs_cons->ami,wpAny_lookBehind->amj,wpAny_madeBy_exc->amk,wpAny_pyIter_zip->aml,call->amO,Addr->lQ,Value->kc
open SoundNeutral renaming step->aQ,bytes->aV,nats->dj,callOf->eu,natural->gZ,long->jr,asked1->jN,toldInts->kR,S->aqV,asked->aqW,start->aqX
open LwSound renaming State->aW,RowWay->bL,Form->bN,chunk->bS,RowLearnt->bT,written->dt,backThrough->dG,cutRows->dH,checked->eJ,Stage->eO,foretold->ff,readHead->fh,storedCheck->fD,models->fO,through->gL,readValues->hJ,readRow->iI,fixedTold->jd,modelOf->jK,held->jM,joinRows->jT,joinRows->ki,newState->km,two->kP,backOf->kU,byte->k8,allRows->lD,fixedTold->lT,backThrough->mm,through->mx,learns->mB,newRow->mC,firstBad->mI,restOf->m8,alongBy->nv,spots->n8,ordered->om,Head->pH,Learnt->pI,stagesAt->rJ,join->sJ,blockBytes->tK,newLearnt->uM,readValues->w9,itemsOf->xx,outside->xy,cutOne->zu,cutRow->zw,headOf->zx,sgn->zC,unjoin->zE,jointAt->BJ,formBytes->DD,headBytes->DE,chunk->JI,unjoin->JX,cutRows->LX,foretold->LY,shown->L8,rightForm->N1,rowsAt->N2,MOST->N8,okLanes->SO,stageBytes->UL,rowBytes->WX,newLearnt->aab,shown->aac,allRows->aat,STAGES->aaQ,crcBit->aaR,crcByte->aaS,bitsIn->aa4,cutRow->aa5,COUNT->adu,Bad->ag8
open Nat renaming lt_of_lt_of_le->bc,le_refl->bq,le_trans->bt,lt_irrefl->b8,ne_of_lt->cG,le_of_lt->cY,zero_le->eT,min_le_left->fu,xor->fE,le_of_eq->f7,min_eq_left->f9,mod_two_eq_zero_or_one->gN,lt_succ_self->ij,mul_le_mul_right->iJ,le_of_succ_le->iU,not_lt->iY,add_sub_cancel'->i5,mul_comm->jk,le_succ->jo,le_add_right->jt,lt_of_le_of_lt->jG,sub_add_cancel->jH,pow_le_pow_right->j9,add_sub_cancel_left->k9,min_eq_right->k_,mul_add->lG,lt_of_lt_of_eq->lM,pos_of_ne_zero->lN,sub_le->lO,sub_self->lP,mod_lt->nh,mod_eq_of_lt->n9,mul_le_mul_left->oE,two_pow_pos->pE,lt_or_ge->uo,sub_zero->uq,add_right_comm->uU,mul_le_mul->uV,pow_add->wL,div_eq_of_lt->xI,testBit_zero->xJ,add_le_add_right->BR,add_sub_cancel->Fx,one_le_two_pow->Fy,lt_succ_of_lt->G5,sub_pos_of_lt->G6,succ_mul->G7,add_mul->K1,mul_add_div->L9,mul_add_mod->L_,add_le_add->N_,not_le->Oa,sub_add_eq->Ob,add_comm->UM,div_div_eq_div_mul->UN,ne_of_gt->UO,zero_add->UP,add_lt_of_lt_sub'->Wo,div_lt_iff_lt_mul->Wq,le_of_ble_eq_true->Wr,sub_eq_zero_of_le->Ws,le_sub_one_of_lt->W3,log2_lt->W4,min_def->W5,one_mul->W6,sub_eq_of_eq_add->W7,div_mul_le_self->aau,lt_of_le_of_ne->aba,le_of_lt_succ->adv,lt_of_succ_lt->adw,succ_sub_succ->ady,log2_self_le->aeN,min_le_right->aeO,div_add_mod->aha,div_le_self->ahb,testBit_xor->ahc,add_assoc->ak5,mul_assoc->ak6,mul_succ->amz,pow_succ->amA,xor_zero->amB,zero_mul->amC
open Option.some renaming inj->bh
open Int renaming toNat_natCast->bF,fdiv_eq_ediv_of_nonneg->cv,toNat_of_nonneg->cV,natCast_add->fq,toNat_le->gM,natCast_mul->gY,ofNat_inj->jm,natCast_nonneg->jF,mul_nonneg->kZ,ofNat_sub->mr,natCast_ediv->nZ,one_mul->pL,natCast_emod->rP,mul_le_mul_of_nonneg_left->sI,ofNat_le->uk,add_sub_cancel->uR,fdiv->uS,toNat_le_toNat->uT,toNat_sub->xg,zero_add->zA,natCast_pow->z_,add_mul->BP,mul_le_mul->BQ,mul_ediv_cancel->DB,not_lt->Fv,mul_add->KW,mul_sub->KY,natCast_sub->L7,mul_assoc->QG,eq_ofNat_of_zero_le->S0,add_comm->UC,mul_comm->UD,ne_of_gt->UE,ofNat_lt->UG,toNat_eq_zero->adm,le_total->ams,lt_or_le->amt
open Bool renaming false_ne_true->bH,and_eq_true->cM,noConfusion->dX,and_eq_true_iff->eZ,eq_iff_iff->zy,or_true->Gy,or_eq_true->KU,false_eq_true->aaj,true_and->ah0
open LwBits renaming Model->b9,Bytes->cf,Reader->cE,pushAll->dP,rowFault->eW,pairs->ft,numberItems->fY,zag->fZ,even->gi,le->gH,valueOf->iu,Reader->iF,push->i4,zig->j6,plainParts->lZ,plainRead->mZ,Item->oW,readNumber->pM,plainRead->qL,pop->qM,sawAll->qX,ofLe->rq,Bytes->rH,readNumber->w8,Models->BG,plainParts->BH,sawAll->BI,pushAll->Gq,code->G1,Want->S4,sharesIn->Uu,ALL->Wm,sawItem->aaO,valueOf->aaP,Models->aeI,opened->aeJ,LOW->ak4
open SoundCalls renaming fits->cB,sameForm->cC,step->gC,given->gP,shapeOk->nJ,tells->uN,answered->Og,parted->QM,BAD->Wv
open Option renaming isSome_iff_exists->cX,map_some->eX,map_eq_some_iff->iZ,bind_some->m5,bind_eq_some_iff->wM,isNone_iff_eq_none->Ma,isSome_some->Wt,isSome_map->W9,getD_none->aav,none->aid
open PySem.F renaming plainAttrs_list->df,slot_list_extend->dC,type_list_extend->dD,excBase_Exception->m6,store_Exception->NU
open False renaming elim->dU
open PyProof.Rows renaming callWith_type1->eK,envOfC->tI,boot_min->AE,callWith_builtin1->BB,AllBare->Gr,boot_list->Gu,Constant_none->JJ,subscriptTail->WQ,subscriptTail_builtinR->aaT,boot_sum->aev,Subscript_->ahT,boot_range->ahU,iadd_int->aqC
open Ne renaming symm->eP
open Array renaming getElem?_setIfInBounds_ne->eV,size_setIfInBounds->oB,getElem?_eq_getElem->NP,length_toList->Wf,find?_toList->WS,toList->ahZ
open Classical renaming byContradiction->gI
open PyWrlnth renaming shape->jh,answers->Ew,whole->JM,answers_asked->NV
open LwBits.Item renaming share->lr
open Except renaming ok->mW,map->Dq
open True renaming intro->m7
open PyFlat renaming calls->tG,told->Ae,played->BS,put1->G9,call->S8,putRows->adA,putRow->aeP
open Decidable renaming not_not->tT
open List.cons renaming inj->um
open ForInStep renaming yield->wH
open Prod.mk renaming inj->zF,injEq->adz
open Or renaming inl->Ad,inr->Qx
open UInt8 renaming ofNat->AQ,toNat_ofNat'->Xc
open Sum renaming inl->Hh,inr->Hi
open LwBits.Reader renaming ended->K0
open PyProof renaming noPylong_small->Oe
open Except.ok renaming injEq->Wg
open Nat.succ renaming inj->adx
open PySem.Challenge renaming rw_bitsound_s01_answers->aih
open PySem.EqMixed renaming eq_bool_str->amF,eq_int_str->amG,eq_str_bool->amH,eq_str_int->amI,ne_bool_str->amJ,ne_int_str->amK,ne_str_bool->amL,ne_str_int->amM
open PySem.W.Looks renaming here->amN
open LwBits.Model renaming begin_->aqw,n->aqx,rate->aqy,share->aqz
open PySem.EqNone renaming eq_bool_none->aqD,eq_int_none->aqE,eq_none_bool->aqF,eq_none_int->aqG,eq_none_none->aqH,eq_none_str->aqI,eq_str_none->aqJ,ne_bool_none->aqK,ne_int_none->aqL,ne_none_bool->aqM,ne_none_int->aqN,ne_none_none->aqO,ne_none_str->aqP,ne_str_none->aqQ
open PySem.Within renaming cons->aqR
namespace L2
open PySem PySem.Spec PyProof.Rows
abbrev jw:=List (lQ×Obj)
abbrev j_:=kc->aL->Prop
abbrev sM:=Str->Option kc
abbrev gS:=List kc
abbrev mX:=List Str
abbrev pF:=List lQ
abbrev Fw:=List Expr
abbrev Key:=Sum Int Str
def Lw:Key->kc->Bool
 |.inl k,v=>Value.isInt k v
 |.inr x,v=>Value.isStrOf x v
def aoX (w:cA):Key->Int
 |.inl k=>hashInt k
 |.inr x=>hashStr w x
def jI:∀{k:Key} {v:kc},Lw k v=true->(∃i t,k=Hh i/\v=Value.int i t)\/(∃x t,k=Hi x/\v=Value.str x t)
 |.inl i,v,h=>by
  obtain⟨t,e⟩:=Value.isInt_shape (k:=i) (v:=v) h;exact .inl ⟨i,t,Z,e⟩
 |.inr x,v,h=>by
  obtain⟨t,e⟩:=Value.isStrOf_shape (x:=x) (v:=v) h;exact .inr ⟨x,t,Z,e⟩
def Vs (i:Int)(t:Tok):Lw (.inl i) (.int i t)=true:=by simp[Lw,Value.isInt]
def Vt (x:Str)(t:Tok):Lw (.inr x) (.str x t)=true:=by simp[Lw,Value.isStrOf]
def afO (a b:Int):decide ((Hh a:Key)=Hh b)=(a==b):=by
 by_cases e:a=b
 .subst e;simp
 .have h:¬(Hh a:Key)=Hh b:=λq=>e (Sum.inl.inj q);rw[ae h];exact(beq_eq_false_iff_ne.mpr e).symm
def afR (a b:Str):decide ((Hi a:Key)=Hi b)=decide (a=b):=by
 by_cases e:a=b
 .subst e;simp
 .have h:¬(Hi a:Key)=Hi b:=λq=>e (Sum.inr.inj q);rw[ae h,ae e]
def afP (a:Int)(b:Str):decide ((Hh a:Key)=Hi b)=false:=ae (λq=>nomatch q)
def afQ (a:Str)(b:Int):decide ((Hi a:Key)=Hh b)=false:=ae (λq=>nomatch q)
def lK (prog:bJ)(w:cA):PySem.KeyKind prog w Key where
 is:=Lw
 hash:=aoX w
 inj:=λv a b ha hb=>by
  rcases jI ha with⟨i,t,rfl,rfl⟩|⟨x,t,rfl,rfl⟩
  .rcases jI hb with⟨j,u,rfl,e⟩|⟨y,u,rfl,e⟩
   .injection e with e1 _;rw[e1]
   .exact nomatch e
  .rcases jI hb with⟨j,u,rfl,e⟩|⟨y,u,rfl,e⟩
   .exact nomatch e
   .injection e with e1 _;rw[e1]
 byValue:=λk v h=>by
  rcases jI h with⟨i,t,rfl,rfl⟩|⟨x,t,rfl,rfl⟩<;>rfl
 pyHash:=λhv h=>by
  rcases jI hv with⟨i,t,rfl,rfl⟩|⟨x,t,rfl,rfl⟩
  .exact wpAny_pyHash_int h
  .exact wpAny_pyHash_str h
 eqBool:=λhu hv h=>by
  rcases jI hu with⟨i,t,rfl,rfl⟩|⟨x,t,rfl,rfl⟩
  .rcases jI hv with⟨j,u,rfl,rfl⟩|⟨y,u,rfl,rfl⟩
   .rw[afO] at h;exact wpAny_eqBool_int h
   .rw[afP] at h;exact SeqAt.EqAt.int_str i t y u _ _ _ _ h
  .rcases jI hv with⟨j,u,rfl,rfl⟩|⟨y,u,rfl,rfl⟩
   .rw[afQ] at h;exact SeqAt.EqAt.str_int x t j u _ _ _ _ h
   .rw[afR] at h;exact wpAny_eqBool_str h
 «strs»:=λk x t v h=>by
  rcases jI h with⟨i,u,rfl,e⟩|⟨y,u,rfl,e⟩
  .exact nomatch e
  .injection e with e1 _
   subst e1;cases v<;>rfl
def Po (prog:bJ)(w:cA)(i:Int)(t:Tok):(lK prog w).is (.inl i) (.int i t)=true:=Vs i t
def Pp (prog:bJ)(w:cA)(x:Str)(t:Tok):(lK prog w).is (.inr x) (.str x t)=true:=Vt x t
open PySem PySem.Spec PyProof.Rows
inductive V where
 |gQ|bl (b:Bool)|int (i:Int)|str (x:Str)|EC (b:Array UInt8)|flt (b:UInt64)|ref (a:lQ)|ty (n:String)
 deriving DecidableEq
abbrev b_:=List V
def RelV:V->kc->Prop
 |.gQ,u=>u=Value.none
 |.bl b,u=>u=Value.bool b
 |.int i,u=>∃t,u=Value.int i t
 |.str x,u=>∃t,u=Value.str x t
 |.EC b,u=>∃t,u=Value.bytes b t
 |.flt b,u=>∃t,u=Value.float b t
 |.ref a,u=>u=Value.ref a
 |.ty n,u=>u=Value.type n
abbrev Vals:b_->gS->Prop:=Paired RelV
def Vals.length {xs:b_}{us:gS}(r:Vals xs us):xs.length=us.length:=Paired.length r
theorem Vals.get:∀{xs:b_} {us:gS} {i:Nat} {x:V},Vals xs us->xs[i]? =some x->∃u,us[i]? =some u/\RelV x u
 |_,_,_,_,.nil,e=>by simp at e
 |_,_,0,_,.cons r _,e=>by simp at e;subst e;exact⟨_,Z,r⟩
 |_,_,i+1,x,.cons _ t,e=>by
  obtain⟨u,h1,h2⟩:=Vals.get (i:=i) (x:=x) t (by simpa using e);exact⟨u,by simpa using h1,h2⟩
theorem Vals.set {x:V}{u:kc}(r:RelV x u):∀{xs:b_} {us:gS} (i:Nat),Vals xs us->Vals (xs.set i x) (us.set i u)
 |_,_,_,.nil=>.nil
 |_,_,0,.cons _ t=>.cons r t
 |_,_,i+1,.cons q t=>.cons q (Vals.set r i t)
theorem Vals.append:∀{xs ys:b_} {us ws:gS},Vals xs us->Vals ys ws->Vals (xs++ys) (us++ws)
 |_,_,_,_,.nil,s=>s
 |_,_,_,_,.cons r t,s=>.cons r (Vals.append t s)
theorem Vals.take:∀{xs:b_} {us:gS} (n:Nat),Vals xs us->Vals (xs.take n) (us.take n)
 |_,_,0,_=>.nil
 |_,_,_+1,.nil=>.nil
 |_,_,n+1,.cons r t=>.cons r (Vals.take n t)
theorem Vals.drop:∀{xs:b_} {us:gS} (n:Nat),Vals xs us->Vals (xs.drop n) (us.drop n)
 |_,_,0,r=>r
 |_,_,_+1,.nil=>.nil
 |_,_,n+1,.cons _ t=>Vals.drop n t
def ur:Option V->Option kc->Prop
 |some v,some u=>RelV v u
 |none,none=>True
 |_,_=>False
def KV {κ:Type}:List (κ×V)->List (κ×kc)->Prop:=Paired λ(p:κ×V) (q:κ×kc)=>p.1=q.1/\RelV p.2 q.2
def kV:Key->V
 |.inl i=>.int i
 |.inr x=>.str x
inductive HO where
 |lst (xs:b_)
 |tup (xs:b_)
 |dK (cg:List (Key×V))|dT (cg:List (List Key×V))
 |set (S:Int->Bool) (n:Nat)
 |ins (C dx:lQ) (fs:List (Str×V))
 |own (x:lQ)
 |xd (fs:List (Str×V))
 |met (f x:lQ)
 |rng (lo hi:Int)
 |MP (o:Obj) (u:HO)
 |tbl (ps:Array kc)
 |ext (φ:Heap->Prop)
abbrev Hp:=lQ->Option HO
def upd (H:Hp)(a:lQ)(o:HO):Hp:=λb=>if b=a then some o else H b
def aq {H:Hp}{a:lQ}{o:HO}:upd H a o a=some o:=by unfold upd;rw[aj rfl]
def aF {H:Hp}{a b:lQ}{o:HO}(h:b≠a):upd H a o b=H b:=by unfold upd;rw[ah h]
def eG {H:Hp}{a:lQ}{o u:HO}:upd (upd H a o) a u=upd H a u:=by
 funext b;unfold upd;split<;>rfl
def g_ {H:Hp}{a b:lQ}{o u:HO}(h:H a=some o)(h':H b=some u)(d:o≠u):a≠b:=by
 intro e;subst e;rw[h] at h';exact d (bh h')
def aI {H:Hp}{a b:lQ}{o:HO}(h:H a=some o)(h':H b=none):a≠b:=by
 intro e;subst e;rw[h] at h';cases h'
section
variable(P:bJ)(w:cA)
def jq (H:Hp)(h:Heap)(a:lQ):HO->Prop
 |.lst xs=>xs.length<=bu/\∃(dg:gS) (n:Nat),Vals xs dg/\h.get? a=some {cls:=.type "list",data:=.seq dg.toArray n}
 |.tup xs=>xs.length<=bu/\∃dg:gS,Vals xs dg/\IsTup h a dg.toArray
 |.dK cg=>cg.length<=bu/\(a==oA)=false/\∃vs,KV cg vs/\h.DictOf (lK P w) a vs
 |.dT cg=>cg.length<=bu/\(a==oA)=false/\∃xs:List (List Key×lQ×kc),
   Paired (λ(p:List Key×V) (q:List Key×lQ×kc)=>p.1=q.1/\H q.2.1=some (.tup (p.1.map kV))/\RelV p.2 q.2.2) cg xs/\
   ∃o es ep,h.get? a=some o/\o.ExactDict/\o.data=.dict es ep/\es.toList=xs.map (entryOfKey (N3 (lK P w)))/\(xs.map (·.1)).Nodup
 |.set S n=>h.SetOf (intKind P w) a S n
 |.ins C dx fs=>H dx=some (.own a)/\fs.length<=1000/\dx≠a/\h.get? a=some (jL C dx)/\
   ∃mA,h.Ns1 dx mA/\(∀f,ur (fs.lookup f) (mA f))/\Fz mA (fs.map (·.1))
 |.own _=>∃o,h.get? a=some o
 |.xd fs=>∃mA,h.Ns1 a mA/\∀f,ur (fs.lookup f) (mA f)
 |.rng lo hi=>∃t u v,h.get? a=some {cls:=.type "range",data:=.fields #[.int lo t,.int hi u,.int 1 v]}
 |.MP o u=>h.get? a=some o/\jq H h a u
 |.tbl ps=>h.get? a=some {cls:=.none,data:=.fields ps}
 |.met f x=>h.get? a=some (DG (.ref f) (.ref x))
 |.ext φ=>φ h/\(∃o,h.get? a=some o)/\∀h1 h2:Heap,φ h1->(∀o,h1.get? a=some o->h2.get? a=some o)->φ h2
def wI (H:Hp)(h:Heap):Prop:=∀a o,H a=some o->jq P w H h a o
end
section
variable{P:bJ}{w:cA}{H H':Hp}{h h':Heap}{a:lQ}{o:HO}
theorem jq.lt (x:jq P w H h a o):a<h.objs.size:=by
 cases o with
 |lst xs=>obtain⟨_,_,_,_,e⟩:=x;exact Heap.lt_size e
 |tup xs=>obtain⟨_,_,_,p⟩:=x;exact p.lt
 |dK cg=>obtain⟨_,_,_,_,o,_,_,e,_⟩:=x;exact Heap.lt_size e
 |dT cg=>obtain⟨_,_,_,_,o,_,_,e,_⟩:=x;exact Heap.lt_size e
 |set S n=>obtain⟨o,_,_,_,e,_⟩:=x;exact Heap.lt_size e
 |ins C dx fs=>obtain⟨_,_,_,e,_⟩:=x;exact Heap.lt_size e
 |own y=>obtain⟨_,e⟩:=x;exact Heap.lt_size e
 |xd fs=>obtain⟨_,⟨_,_,_,e,_⟩,_⟩:=x;exact Heap.lt_size e
 |rng lo hi=>obtain⟨_,_,_,e⟩:=x;exact Heap.lt_size e
 |MP ob u=>obtain⟨e,_⟩:=x;exact Heap.lt_size e
 |tbl ps=>exact Heap.lt_size (show h.get? a=some _ from x)
 |met f y=>exact Heap.lt_size (show h.get? a=some _ from x)
 |ext φ=>obtain⟨_,⟨_,e⟩,_⟩:=x;exact Heap.lt_size e
theorem Paired.lR {α β:Type}{F G:α->β->Prop}:∀{ajM:List α} {ajN:List β},Paired F ajM ajN->(∀a b,F a b->G a b)->Paired G ajM ajN
 |_,_,.nil,_=>.nil
 |_,_,.cons r t,f=>.cons (f _ _ r) (Paired.lR t f)
def jq.zZ (x:jq P w H h a o)(k:∀b u,(b=a\/H b=some (.own a))->h.get? b=some u->h'.get? b=some u)
  (ho:∀b,H b=some (.own a)->H' b=some (.own a)) (ht:∀b xs,H b=some (.tup xs)->H' b=some (.tup xs)):jq P w H' h' a o:=by
 induction o with
 |lst xs=>obtain⟨z,dg,n,r,e⟩:=x;exact⟨z,dg,n,r,k _ _ (.inl rfl) e⟩
 |tup xs=>obtain⟨z,dg,r,ob,e,c⟩:=x;exact⟨z,dg,r,ob,k _ _ (.inl rfl) e,c⟩
 |dK cg=>obtain⟨z,y,vs,r,ob,es,ep,e,c⟩:=x;exact⟨z,y,vs,r,ob,es,ep,k _ _ (.inl rfl) e,c⟩
 |dT cg=>
  obtain⟨z,y,xs,r,ob,es,ep,e,c⟩:=x;exact⟨z,y,xs,Paired.lR r λp q z=>⟨z.1,ht _ _ z.2.1,z.2.2⟩,ob,es,ep,k _ _ (.inl rfl) e,c⟩
 |set S n=>obtain⟨ob,es,ep,t,e,c⟩:=x;exact⟨ob,es,ep,t,k _ _ (.inl rfl) e,c⟩
 |ins C dx fs=>
  obtain⟨d,z,ne,e,mA,⟨od,es,ep,e2,c⟩,r⟩:=x;exact⟨ho _ d,z,ne,k _ _ (.inl rfl) e,mA,⟨od,es,ep,k _ _ (.inr d) e2,c⟩,r⟩
 |own y=>obtain⟨ob,e⟩:=x;exact⟨ob,k _ _ (.inl rfl) e⟩
 |xd fs=>obtain⟨mA,⟨od,es,ep,e,c⟩,r⟩:=x;exact⟨mA,⟨od,es,ep,k _ _ (.inl rfl) e,c⟩,r⟩
 |rng lo hi=>obtain⟨t,u,v,e⟩:=x;exact⟨t,u,v,k _ _ (.inl rfl) e⟩
 |MP ob u ih=>obtain⟨e,q⟩:=x;exact⟨k _ _ (.inl rfl) e,ih q⟩
 |tbl ps=>
  have e:h.get? a=some {cls:=.none,data:=.fields ps}:=x;show h'.get? a=some {cls:=.none,data:=.fields ps};exact k a _ (.inl rfl) e
 |met f y=>
  have e:h.get? a=some (DG (.ref f) (.ref y)):=x;show h'.get? a=some (DG (.ref f) (.ref y));exact k a _ (.inl rfl) e
 |ext φ=>obtain⟨p,⟨o,e⟩,st⟩:=x;exact⟨st _ _ p λo q=>k _ _ (.inl rfl) q,⟨o,k _ _ (.inl rfl) e⟩,st⟩
def wI.lt (x:wI P w H h)(e:H a=some o):a<h.objs.size:=(x a o e).lt
def wI.fresh (x:wI P w H h)(e:h.objs.size<=a):H a=none:=by
 cases q:H a with
 |none=>rfl
 |some u=>exact absurd (bc (x.lt q) e) (b8 _)
def wI.kept (x:wI P w H h)(k:∀b u,h.get? b=some u->h'.get? b=some u):wI P w H h':=λa o e=>
 (x a o e).zZ (λb u _ q=>k b u q) (λ_ q=>q) λ_ _ q=>q
def wI.laid (x:wI P w H h)(k:∀b u,h.get? b=some u->h'.get? b=some u)(hp:h.objs.size<=a)(new:jq P w (upd H a o) h' a o):wI P w (upd H a o) h':=λb u e=>by
 have hn:=x.fresh hp;by_cases hb:b=a
 .subst hb;rw[aq] at e;cases e;exact new
 .rw[aF hb] at e;exact(x b u e).zZ (λc v _ q=>k c v q) (λc q=>by rw[aF (aI q hn)];exact q) λc xs q=>by rw[aF (aI q hn)];exact q
end
def Rd (H:Hp)(a:lQ)(u:HO):Prop:=H a=some u\/∃o,H a=some (.MP o u)
def Rd.ok {P:bJ}{w:cA}{H:Hp}{h:Heap}{a:lQ}{u:HO}(r:Rd H a u)(x:wI P w H h):jq P w H h a u:=by
 rcases r with r|⟨o,r⟩
 .exact x a u r
 .obtain⟨_,q⟩:=x a _ r;exact q
def Mut:Option HO->Prop
 |some (.lst _)=>True
 |some (.dK _)=>True
 |some (.dT _)=>True
 |some (.set _ _)=>True
 |some (.ins _ _ _)=>True
 |some (.ext _)=>True
 |_=>False
section
variable{P:bJ}{w:cA}{H:Hp}{h h':Heap}{x e:lQ}{o':HO}
def wI.write (ok:wI P w H h)(mu:Mut (H x))(he:e=x\/H e=some (.own x))(k:∀b u,b≠e->h.get? b=some u->h'.get? b=some u)(heo:∃u,h'.get? e=some u)
  (new:jq P w (upd H x o') h' x o'):wI P w (upd H x o') h':=λb u q=>by
 have aj4:∀c y,H c=some (.own y)->c≠x:=λc y r z=>by subst z;rw[r] at mu;exact mu
 have apq:∀c xs,H c=some (.tup xs)->c≠x:=λc xs r z=>by subst z;rw[r] at mu;exact mu
 by_cases hb:b=x
 .subst hb;rw[aq] at q;cases q;exact new
 .rw[aF hb] at q;by_cases hbe:b=e
  .have q':H b=some (.own x):=by
    rcases he with z|z
    .exact absurd (hbe.trans z) hb
    .rw[hbe];exact z
   rw[q] at q';cases q';obtain⟨v,hv⟩:=heo;exact⟨v,by rw[hbe];exact hv⟩
  .refine(ok b u q).zZ (λc v hc r=>k c v ?_ r) (λc r=>by rw[aF (aj4 c b r)];exact r) λc xs r=>by rw[aF (apq c xs r)];exact r
   rcases hc with rfl|hc
   .exact hbe
   .rintro rfl;rcases he with z|z
    .exact aj4 c b hc z
    .rw[hc] at z;cases z;exact hb rfl
end
structure Un (fs ex:pF)(H H':Hp)(h h':Heap):Prop where
 keep:∀b o,h.get? b=some o->H b=none->b∉fs->b∉ex->h'.get? b=some o
 slot:∀b o,h.get? b=some o->H b=none->b∈fs->b∉ex->∃sl,h'.get? b=some {o with slots:=sl}
 free:∀b o,h.get? b=some o->H b=none->b∉ex->H' b=none
 there:∀b o,h.get? b=some o->b∉ex->∃o',h'.get? b=some o'
 tups:∀b xs,H b=some (.tup xs)->H' b=some (.tup xs)
 frzs:∀b o u,H b=some (.MP o u)->H' b=some (.MP o u)
 tbls:∀b ps,H b=some (.tbl ps)->∃more,H' b=some (.tbl (ps++more))
section
variable{fs fs' ex ex':pF}{H H1 H2:Hp}{h h1 h2 h':Heap}{a x e:lQ}{o:HO}
def Un.any (u:Un fs ex H H1 h h1){b:lQ}{ob:Obj}(q:h.get? b=some ob)(n:H b=none)(hx:b∉ex):∃sl,h1.get? b=some {ob with slots:=sl}:=by
 by_cases hb:b∈fs
 .exact u.slot b ob q n hb hx
 .exact⟨ob.slots,u.keep b ob q n hb hx⟩
def Un.kept (k:∀b u,h.get? b=some u->h'.get? b=some u):Un fs ex H H h h':=
 ⟨λb ob q _ _ _=>k b ob q,λb ob q _ _ _=>⟨ob.slots,k b ob q⟩,λ_ _ _ n _=>n,λb ob q _=>⟨ob,k b ob q⟩,λ_ _ q=>q,λ_ _ _ q=>q,λ_ ps q=>⟨#[],by rw[q];simp⟩⟩
def Un.refl:Un fs ex H H h h:=Un.kept λ_ _ q=>q
def Un.laid (k:∀b u,h.get? b=some u->h'.get? b=some u)(hp:h.objs.size<=a)(hn:H a=none):Un fs ex H (upd H a o) h h' where
 keep:=λb u q _ _ _=>k b u q
 slot:=λb u q _ _ _=>⟨u.slots,k b u q⟩
 free:=λb u q n _=>by rw[aF (cG (bc (Heap.lt_size q) hp))];exact n
 there:=λb u q _=>⟨u,k b u q⟩
 tups:=λb xs q=>by rw[aF (aI q hn)];exact q
 frzs:=λb u xs q=>by rw[aF (aI q hn)];exact q
 tbls:=λb ps q=>⟨#[],by rw[aF (aI q hn),q];simp⟩
def Un.write (mu:Mut (H x))(he:e=x\/H e=some (.own x))(k:∀b u,b≠e->h.get? b=some u->h'.get? b=some u)(heo:∃u,h'.get? e=some u):Un fs ex H (upd H x o) h h':=by
 have hx:∀b,H b=none->b≠x:=λb n z=>by subst z;rw[n] at mu;exact mu
 have hb:∀b,H b=none->b≠e:=λb n z=>by
  subst z;rcases he with r|r
  .exact hx b n r
  .rw[n] at r;cases r
 have hm:∀b u,H b=some u->¬Mut (some u)->b≠x:=λb u q nm z=>by subst z;rw[q] at mu;exact nm mu
 refine⟨λb u q n _ _=>k b u (hb b n) q,λb u q n _ _=>⟨u.slots,k b u (hb b n) q⟩,λb u q n _=>by rw[aF (hx b n)];exact n,λb u q _=>?_,
  λb xs q=>by rw[aF (hm b _ q λz=>z)];exact q,λb u xs q=>by rw[aF (hm b _ q λz=>z)];exact q,λb ps q=>⟨#[],by rw[aF (hm b _ q λz=>z),q];simp⟩⟩
 by_cases hbe:b=e
 .subst hbe;exact heo
 .exact⟨u,k b u hbe q⟩
end
def trk (h:Heap)(H:Hp):pF:=(aK h.objs.size).filter λa=>(H a).isSome
def MT (h:Heap)(H:Hp):Heap:=PySem.W.hideAll h (trk h H)
def Vq (h:Heap)(H:Hp):(MT h H).objs.size=h.objs.size:=PySem.W.hideAll_size _ _
def Ya {h:Heap}{H:Hp}{b:lQ}{o:Obj}(e:h.get? b=some o)(n:H b=none):(MT h H).get? b=some o:=
 PySem.W.hideAll_get _ e λhm=>by
  have q:(H b).isSome=true:=(oV.mp hm).2;rw[n] at q;simp at q
def ab7 {h:Heap}{H:Hp}{b:lQ}{o:Obj}(e:(MT h H).get? b=some o):h.get? b=some o/\H b=none:=by
 have e':h.get? b=some o:=PySem.W.of_hideAll (trk h H) e;refine⟨e',?_⟩;cases q:H b with
 |none=>rfl
 |some x=>
  have hm:b∈trk h H:=oV.mpr ⟨cb.mpr (Heap.lt_size e'),by simp[q]⟩;have z:(MT h H).get? b=none:=PySem.W.hideAll_none (trk h H) hm;rw[z] at e;cases e
open PySem PySem.Spec PyProof.Rows
structure Mod (K:au)(mg:sM)(rZ:Heap):Prop where
 uC:K.In rZ
 glob:rZ.Ns mn mg
 blt:∃mb,rZ.Ns ahV mb/\∀x:Str,x≠"__name__"->mb x=rK x
 nolimit:rZ.NoLimit
structure Cx where
 prog:bJ
 w:cA
 K:au
 mg:sM
 rZ:Heap
 A:Around
 N:mX
 s_0:aL
 H_0:Hp
 env:Env
 outer:List Env
 stack:List Env
 ex:pF
 fn:Str->Bool
 calm:Bool
 pn:jw
 xe:j_
abbrev Sm (X:Cx)(e:Expr)(es:List Expr):Prop:=dv (e::es) X.env=(false,eval e X.env)::dv es X.env
abbrev sHb (X:Cx)(p:Pos)(es:List Expr):Prop:=(m9 p (dv es X.env)).any (·.1)=false
abbrev Dy (x:Str):Prop:=(x==("__debug__":Str))=false
abbrev Ui (X:Cx)(x:Str):Prop:=X.fn x=true\/X.env.scope.names.lookup x=some .local
def F9 (l:List Env):pF:=l.filterMap (·.frame)
abbrev Cx.fs (X:Cx):pF:=F9 X.outer
def Vis (sc:nz)(x:Str):Prop:=sc.names.lookup x=some .local\/sc.names.lookup x=some .cell\/sc.names.lookup x=some .free
def Loc (sc:nz)(x:Str):Prop:=sc.names.lookup x=some .local\/sc.names.lookup x=some .cell
def Look (env:Env)(h:Heap)(m:sM)(x:Str)(u:kc):Prop:=
 (env.kindOf x=some .local/\m x=some u)\/((env.kindOf x=some .cell\/env.kindOf x=some .free)/\∃c,env.cells.lookup x=some c/\h.IsCell c (some u))
structure Cx.Ok (X:Cx):Prop where
 mod:Mod X.K X.mg X.rZ
 kind:X.env.scope.kind=.function
 glob:X.env.globals=mn
 blt:X.env.builtins=ahV
 above:X.s_0.heap.objs.size<=X.env.locals
 inj:∀x y c,X.env.cells.lookup x=some c->X.env.cells.lookup y=some c->x=y
 has:∀x,(X.env.kindOf x=some .cell\/X.env.kindOf x=some .free)->∃c,X.env.cells.lookup x=some c
 cab:∀x c,X.fn x=true->X.env.cells.lookup x=some c->X.s_0.heap.objs.size<=c
 hd:X.calm=true->X.A.handled=none
 frames:X.A.frames=some X.stack
 stk:X.stack=X.outer\/(X.stack=X.env::X.outer/\X.env.frame=some X.env.locals)
 exf:∀b∈X.ex,b≠X.env.locals/\∀x c,X.env.cells.lookup x=some c->c≠b
 bs:∀b o,X.rZ.get? b=some o->X.s_0.heap.get? b=some o/\X.H_0 b=none
 QR:X.rZ.objs.size<=X.s_0.heap.objs.size
 Px:∀b o,X.rZ.get? b=some o->b∉X.ex
 OU:∀b∈X.ex,b∉X.fs
 yq:X.s_0.heap.FunFrames X.rZ X.outer
 Qy:∀b∈X.fs,X.H_0 b=none
structure Inv (X:Cx)(aA:jw)(σ:List (Option V))(H:Hp)(s:aL):Prop where
 ok:X.Ok
 os:s.os=X.s_0.os
 bare:Gr s.gens
 rZ:Un X.fs X.ex X.H_0 H X.s_0.heap s.heap
 loc:∃m,s.heap.Ns X.env.locals m/\∀(i:Nat) (x:Str) (v:V),X.N[i]? =some x->σ[i]? =some (some v)->Vis X.env.scope x->∃u,RelV v u/\Look X.env s.heap m x u
 cell:∀x c,X.env.cells.lookup x=some c->∃v,s.heap.IsCell c v
 free:H X.env.locals=none
 pO:∀x c,X.env.cells.lookup x=some c->H c=none
 pin:∀p∈X.pn++aA,s.heap.get? p.1=some p.2/\H p.1=none/\p.1≠X.env.locals/\p.1∉X.fs/\∀v,p.2.data≠.cell v
 fV:wI X.prog X.w H s.heap
 len:σ.length=X.N.length
section
variable{X:Cx}{aA:jw}{σ:List (Option V)}{H H':Hp}{s:aL}{h':Heap}
def Cx.Ok.apg (ok:X.Ok){b:lQ}{o:Obj}(e:X.rZ.get? b=some o):b∉X.fs:=λhb=>by
 have:=(ok.yq.mem hb).1;rw[e] at this;cases this
def Inv.bs (I:Inv X aA σ H s):∀b o,X.rZ.get? b=some o->s.heap.get? b=some o/\H b=none:=λb o e=>
 ⟨I.rZ.keep b o (I.ok.bs b o e).1 (I.ok.bs b o e).2 (I.ok.apg e) (I.ok.Px b o e),I.rZ.free b o (I.ok.bs b o e).1 (I.ok.bs b o e).2 (I.ok.Px b o e)⟩
def Inv.bk (I:Inv X aA σ H s):∀b o,X.rZ.get? b=some o->s.heap.get? b=some o:=λb o e=>(I.bs b o e).1
def Inv.mod (I:Inv X aA σ H s):Mod X.K X.mg X.rZ:=I.ok.mod
def Inv.zb (I:Inv X aA σ H s):X.K.In s.heap:=I.ok.mod.uC.keeps I.bk
def Inv.fr (I:Inv X aA σ H s):∃m,Fr X.rZ X.env.locals s.heap m:=
 let ⟨m,hn,_⟩:=I.loc
 ⟨m,hn,I.bk,bt I.ok.QR I.ok.above⟩
def Inv.lt (I:Inv X aA σ H s):X.env.locals<s.heap.objs.size:=let ⟨_,hn,_⟩:=I.loc;hn.lt
def Inv.sz (I:Inv X aA σ H s):X.s_0.heap.objs.size<=s.heap.objs.size:=bt I.ok.above (cY I.lt)
def Inv.aph (I:Inv X aA σ H s){a:lQ}(h:s.heap.objs.size<=a):a∉X.fs:=λhb=>by
 obtain⟨_,o,ho,_⟩:=I.ok.yq.mem hb;exact absurd (bc (Heap.lt_size ho) (bt I.sz h)) (b8 _)
def Inv.cne (I:Inv X aA σ H s):∀x c,X.env.cells.lookup x=some c->c≠X.env.locals:=λx c e z=>by
 obtain⟨v,o,ho,hd⟩:=I.cell x c e;obtain⟨m,⟨o',es,ep,WD,hd',_⟩,_⟩:=I.loc;rw[z,WD] at ho;cases ho;rw[hd'] at hd;cases hd
theorem Inv.yq (I:Inv X aA σ H s):s.heap.FunFrames X.rZ X.outer:=by
 have all:∀(l:List Env),(∀b∈F9 l,b∈X.fs)->X.s_0.heap.FunFrames X.rZ l->s.heap.FunFrames X.rZ l:=by
  intro l;induction l with
  |nil=>intro _ _;trivial
  |cons env r ih=>
   intro hs hl;obtain⟨hk,⟨L,o,hf,hn,ho,hd⟩,hr⟩:=hl;have hL:L∈X.fs:=hs L (by unfold F9;rw[Dr,hf];exact aU);obtain⟨sl,e⟩:=I.rZ.slot L o ho (I.ok.Qy L hL) hL λz=>I.ok.OU L z hL;exact⟨hk,⟨L,_,hf,hn,e,hd⟩,ih (λb hb=>hs b (by unfold F9;rw[Dr,hf];exact aP _ hb)) hr⟩
 exact all X.outer (λ_ hb=>hb) I.ok.yq
def Inv.stack (I:Inv X aA σ H s):s.heap.FunFrames X.rZ X.stack:=by
 rcases I.ok.stk with e|⟨e,hf⟩
 .rw[e];exact I.yq
 .rw[e];obtain⟨m,hn,_⟩:=I.loc;refine .cons (by rw[I.ok.kind];decide) hf hn ?_ I.yq;exact Heap.get?_none_of_le (bt I.ok.QR I.ok.above)
def Inv.NH (I:Inv X aA σ H s):∀b∈F9 X.stack,b∈X.env.locals::X.fs:=λb hb=>by
 rcases I.ok.stk with e|⟨e,hf⟩
 .rw[e] at hb;exact aP _ hb
 .rw[e] at hb;unfold F9 at hb;rw[Dr,hf] at hb;exact hb
def Inv.NG (I:Inv X aA σ H s):∀b∈F9 X.stack,H b=none:=λb hb=>by
 rcases bo.mp (I.NH b hb) with e|hb
 .rw[e];exact I.free
 .obtain⟨_,o,ho,_⟩:=I.ok.yq.mem hb;exact I.rZ.free b o ho (I.ok.Qy b hb) λz=>I.ok.OU b z hb
def Inv.step {g':Array AF}{t':Nat}{d':aad}{ch:pF}(I:Inv X aA σ H s)
  (hch:∀b∈ch,(b∈X.ex\/X.s_0.heap.objs.size<=b)/\b≠X.env.locals/\(∀x c,X.env.cells.lookup x=some c->c≠b)/\∀p∈X.pn++aA,p.1≠b)
  (keep:∀b o,b≠X.env.locals->b∉X.fs->b∉ch->s.heap.get? b=some o->H b=none->h'.get? b=some o)
  (slot:∀b o,b≠X.env.locals->b∈X.fs->b∉ch->s.heap.get? b=some o->H b=none->∃sl,h'.get? b=some {o with slots:=sl}) (free:∀b o,b∉ch->s.heap.get? b=some o->H b=none->H' b=none)
  (there:∀b o,b∉ch->s.heap.get? b=some o->∃o',h'.get? b=some o')
  (tups:∀b xs,H b=some (.tup xs)->H' b=some (.tup xs)) (frzs:∀b o u,H b=some (.MP o u)->H' b=some (.MP o u)) (tbls:∀b ps,H b=some (.tbl ps)->∃more,H' b=some (.tbl (ps++more)))
  (ns:∀m,s.heap.Ns X.env.locals m->h'.Ns X.env.locals m) (fV:wI X.prog X.w H' h') (hg:Gr g'):
  Inv X aA σ H' {s with heap:=h',gens:=g',drawn:=d',toks:=t'}:=by
 have neL:∀b o,X.s_0.heap.get? b=some o->b≠X.env.locals:=λb o e=>cG (bc (Heap.lt_size e) I.ok.above);have VB:∀b o,X.s_0.heap.get? b=some o->b∉X.ex->b∉ch:=λb o e hx hb=>by
  rcases(hch b hb).1 with z|z
  .exact hx z
  .exact absurd (bc (Heap.lt_size e) z) (b8 _)
 have cellK:∀x c,X.env.cells.lookup x=some c->∀v,s.heap.IsCell c v->h'.IsCell c v:=λx c e v ⟨o,ho,hd⟩=>by
  have nch:c∉ch:=λz=>(hch c z).2.2.1 x c e rfl;by_cases hc:c∈X.fs
  .obtain⟨sl,q⟩:=slot c o (I.cne x c e) hc nch ho (I.pO x c e);exact⟨_,q,hd⟩
  .exact⟨o,keep c o (I.cne x c e) hc nch ho (I.pO x c e),hd⟩
 refine⟨I.ok,I.os,hg,⟨λb o e n hb hx=>?_,λb o e n hb hx=>?_,λb o e n hx=>?_,λb o e hx=>?_,λb xs e=>tups b xs (I.rZ.tups b xs e),λb o xs e=>frzs b o xs (I.rZ.frzs b o xs e),λb ps e=>?_⟩,?_,λx c e=>?_,?_,λx c e=>?_,λp hp=>?_,fV,I.len⟩
 .exact keep b o (neL b o e) hb (VB b o e hx) (I.rZ.keep b o e n hb hx) (I.rZ.free b o e n hx)
 .obtain⟨sl,e1⟩:=I.rZ.slot b o e n hb hx;obtain⟨sl',e2⟩:=slot b _ (neL b o e) hb (VB b o e hx) e1 (I.rZ.free b o e n hx);exact⟨sl',e2⟩
 .obtain⟨o',e1⟩:=I.rZ.there b o e hx;exact free b o' (VB b o e hx) e1 (I.rZ.free b o e n hx)
 .obtain⟨o',e1⟩:=I.rZ.there b o e hx;exact there b o' (VB b o e hx) e1
 .obtain⟨m1,e1⟩:=I.rZ.tbls b ps e;obtain⟨m2,e2⟩:=tbls b _ e1;exact⟨m1++m2,by rw[e2,Array.append_assoc]⟩
 .obtain⟨m,hn,hl⟩:=I.loc;refine⟨m,ns m hn,λi x v e1 e2 e3=>?_⟩;obtain⟨u,r,l⟩:=hl i x v e1 e2 e3;refine⟨u,r,?_⟩;rcases l with l|⟨k,c,e,z⟩
  .exact .inl l
  .exact .inr ⟨k,c,e,cellK x c e _ z⟩
 .obtain⟨v,z⟩:=I.cell x c e;exact⟨v,cellK x c e v z⟩
 .obtain⟨m,⟨o,_,_,ho,_⟩,_⟩:=I.loc;exact free _ o (λz=>(hch _ z).2.1 rfl) ho I.free
 .obtain⟨v,o,ho,hd⟩:=I.cell x c e;exact free c o (λz=>(hch c z).2.2.1 x c e rfl) ho (I.pO x c e)
 .obtain⟨e,n,ne,nf,d⟩:=I.pin p hp;have nch:p.1∉ch:=λz=>(hch p.1 z).2.2.2 p hp rfl;exact⟨keep p.1 p.2 ne nf nch e n,free p.1 p.2 nch e n,ne,nf,d⟩
def Inv.un {t':Nat}(I:Inv X aA σ H s)(u:Un X.fs [] H H' s.heap h')(fV:wI X.prog X.w H' h'):Inv X aA σ H' {s with heap:=h',toks:=t'}:=by
 obtain⟨m,⟨o,es,ep,ho,r⟩,_⟩:=id I.loc;obtain⟨sl,hL⟩:=u.any ho I.free (by simp);exact I.step (g':=s.gens) (d':=s.drawn) (ch:=[]) (λ_ z=>nomatch z) (λb o _ hb _ e n=>u.keep b o e n hb (by simp)) (λb o _ hb _ e n=>u.slot b o e n hb (by simp)) (λb o _ e n=>u.free b o e n (by simp)) (λb o _ e=>u.there b o e (by simp)) u.tups u.frzs u.tbls (λm' hm=>by
  obtain⟨o',es',ep',WD,r'⟩:=hm;rw[ho] at WD;cases WD;exact⟨_,es',ep',hL,r'⟩) fV I.bare
def Inv.call {g':Array AF}{t':Nat}{d':aad}{ch:pF}(I:Inv X aA σ H s)(u:Un (F9 X.stack) ch H H' s.heap h')(fV:wI X.prog X.w H' h')(hg:Gr g')
  (hch:∀b∈ch,(b∈X.ex\/X.s_0.heap.objs.size<=b)/\b≠X.env.locals/\(∀x c,X.env.cells.lookup x=some c->c≠b)/\∀p∈X.pn++aA,p.1≠b):
  Inv X aA σ H' {s with heap:=h',gens:=g',drawn:=d',toks:=t'}:=by
 obtain⟨m,⟨o,es,ep,ho,r⟩,_⟩:=id I.loc;obtain⟨sl,hL⟩:=u.any ho I.free λz=>(hch _ z).2.1 rfl;exact I.step (ch:=ch) hch (λb o hL hb hc e n=>u.keep b o e n (λz=>(bo.mp (I.NH b z)).elim hL hb) hc) (λb o _ _ hc e n=>u.any e n hc) (λb o hc e n=>u.free b o e n hc) (λb o hc e=>u.there b o e hc) u.tups u.frzs u.tbls (λm' hm=>by
  obtain⟨o',es',ep',WD,r'⟩:=hm;rw[ho] at WD;cases WD;exact⟨_,es',ep',hL,r'⟩) fV hg
def Inv.turned {t':Nat}{it:lQ}(I:Inv X aA σ H s)(k:∀b o,b≠it->s.heap.get? b=some o->h'.get? b=some o)(hn:H it=none)(hL:it≠X.env.locals)
  (h1:it∈X.ex\/X.s_0.heap.objs.size<=it) (h2:∀x c,X.env.cells.lookup x=some c->c≠it) (h3:∀p∈X.pn++aA,p.1≠it):Inv X aA σ H {s with heap:=h',toks:=t'}:=by
 have nit:∀b u,H b=some u->b≠it:=λb u e z=>by rw[z,hn] at e;cases e
 refine I.step (g':=s.gens) (d':=s.drawn) (ch:=[it]) (λb hb=>?_) (λb o _ _ hc e _=>k b o (λz=>hc (by simp[z])) e) (λb o _ _ hc e _=>⟨o.slots,k b o (λz=>hc (by simp[z])) e⟩) (λ_ _ _ _ n=>n)
  (λb o hc e=>⟨o,k b o (λz=>hc (by simp[z])) e⟩) (λ_ _ e=>e) (λ_ _ _ e=>e) (λb ps e=>⟨#[],by rw[e];simp⟩) (λm hm=>?_) (λb u e=>?_) I.bare
 .have e:b=it:=by simpa using hb
  subst e;exact⟨h1,hL,h2,h3⟩
 .obtain⟨o,es,ep,ho,r⟩:=hm;exact⟨o,es,ep,k _ o (eP hL) ho,r⟩
 .refine(I.fV b u e).zZ (λc v hc q=>k c v ?_ q) (λ_ q=>q) λ_ _ q=>q;rcases hc with z|z
  .rw[z];exact nit b u e
  .exact nit c _ z
def Inv.tok (I:Inv X aA σ H s)(t:Nat):Inv X aA σ H {s with toks:=t}:=I.un (h':=s.heap) (t':=t) Un.refl I.fV
def Inv.kept {t':Nat}(I:Inv X aA σ H s)(k:∀b u,s.heap.get? b=some u->h'.get? b=some u):Inv X aA σ H {s with heap:=h',toks:=t'}:=I.un (Un.kept k) (I.fV.kept k)
def Inv.laid {a:lQ}{o:HO}{t':Nat}(I:Inv X aA σ H s)(k:∀b u,s.heap.get? b=some u->h'.get? b=some u)(hp:s.heap.objs.size<=a)(new:jq X.prog X.w (upd H a o) h' a o):
  Inv X aA σ (upd H a o) {s with heap:=h',toks:=t'}:=I.un (Un.laid k hp (I.fV.fresh hp)) (I.fV.laid k hp new)
def Inv.write {x e:lQ}{o:HO}{t':Nat}(I:Inv X aA σ H s)(mu:Mut (H x))(he:e=x\/H e=some (.own x))(k:∀b u,b≠e->s.heap.get? b=some u->h'.get? b=some u)(heo:∃u,h'.get? e=some u)
  (new:jq X.prog X.w (upd H x o) h' x o):Inv X aA σ (upd H x o) {s with heap:=h',toks:=t'}:=I.un (Un.write mu he k heo) (I.fV.write mu he k heo new)
def Inv.weak {gz:List (Option V)}(I:Inv X aA σ H s)(hl:gz.length=σ.length)(w:∀(i:Nat) v,gz[i]? =some (some v)->σ[i]? =some (some v)):Inv X aA gz H s:=
 ⟨I.ok,I.os,I.bare,I.rZ,let ⟨m,hn,hl'⟩:=I.loc;⟨m,hn,λi x v e1 e2 e3=>hl' i x v e1 (w i v e2) e3⟩,I.cell,I.free,I.pO,I.pin,I.fV,hl.trans I.len⟩
def Inv.Ua {LI:jw}(I:Inv X aA σ H s)(h:∀p∈LI,s.heap.get? p.1=some p.2/\H p.1=none/\p.1≠X.env.locals/\p.1∉X.fs/\∀v,p.2.data≠.cell v):Inv X LI σ H s:=
 ⟨I.ok,I.os,I.bare,I.rZ,I.loc,I.cell,I.free,I.pO,λp hp=>(c_.mp hp).elim (λz=>I.pin p (mY _ z)) (h p),I.fV,I.len⟩
def IL {N:mX}(hN:N.Nodup){i j:Nat}{x:Str}(a:N[i]? =some x)(b:N[j]? =some x):i=j:=by
 obtain⟨h1,e1⟩:=aN.mp a;obtain⟨h2,e2⟩:=aN.mp b;exact(adp hN).mp (e1.trans e2.symm)
def LQ {M:Model}{A:Around}{E:j_}{i:Nat}{x:Str}{v:V}{u:kc}{Q:Unit->aL->Prop}(I:Inv X aA σ H s)(hN:X.N.Nodup)(hi:X.N[i]? =some x)(hx:Loc X.env.scope x)(r:RelV v u)
  (h:∀s',Inv X aA (σ.set i (some v)) H s'->(∃a,Heap.SameBut a s.heap s'.heap/\(a=X.env.locals\/X.env.cells.lookup x=some a))->Q () s') (hf:autoParam (Ui X x) Z_t):bw M A (storeName X.env x u) Q E s:=by
 obtain⟨m,hn,hl⟩:=id I.loc;have afn:(X.env.scope.kind==.class||(X.env.scope.kind==.module&&X.env.locals !=X.env.globals))=false:=by rw[I.ok.kind];rfl
 have ai6:i<σ.length:=by rw[I.len];exact(aN.mp hi).1
 have cne:=I.cne;have tracked:∀{a:lQ} {h':Heap},(∃o,s.heap.get? a=some o/\H a=none)->Heap.SameBut a s.heap h'->wI X.prog X.w H h':=λ{a h'} ha hs b ob e=>by
  obtain⟨_,_,EK⟩:=ha;refine(I.fV b ob e).zZ (λc w' hc q=>(hs.2 c ?_).trans q) (λ_ q=>q) λ_ _ q=>q;rintro rfl;rcases hc with rfl|hc
  .rw[EK] at e;cases e
  .rw[EK] at hc;cases hc
 rcases hx with hk|hk
 .refine wpAny_storeName_local hk hn (λh' hn' hs=>?_) afn;obtain⟨oL,_,_,hoL,_⟩:=id hn;refine h _ ⟨I.ok,I.os,I.bare,⟨λb o e n hb hx=>?_,λb o e n hb hx=>?_,I.rZ.free,λb o e hx=>?_,I.rZ.tups,I.rZ.frzs,I.rZ.tbls⟩,⟨_,hn',λj y v' e1 e2 e3=>?_⟩,λy c e=>?_,I.free,I.pO,λp hp=>?_,tracked ⟨oL,hoL,I.free⟩ hs,by simpa using I.len⟩ ⟨_,hs,.inl rfl⟩
  .exact(hs.2 b (cG (bc (Heap.lt_size e) I.ok.above))).trans (I.rZ.keep b o e n hb hx)
  .obtain⟨sl,e1⟩:=I.rZ.slot b o e n hb hx;exact⟨sl,(hs.2 b (cG (bc (Heap.lt_size e) I.ok.above))).trans e1⟩
  .obtain⟨o',e1⟩:=I.rZ.there b o e hx;exact⟨o',(hs.2 b (cG (bc (Heap.lt_size e) I.ok.above))).trans e1⟩
  .by_cases hj:j=i
   .subst hj;rw[hi] at e1;cases e1;rw[eF ai6] at e2;cases e2;exact⟨u,r,.inl ⟨hk,by simp⟩⟩
   .rw[iE (eP hj)] at e2;obtain⟨u',r',q⟩:=hl j y v' e1 e2 e3;refine⟨u',r',?_⟩;rcases q with⟨k,e⟩|⟨k,c,e,z⟩
    .refine .inl ⟨k,?_⟩;have:y≠x:=λe=>hj (IL hN e1 (e ▸ hi));simp[this,e]
    .exact .inr ⟨k,c,e,z.sameBut hs (cne y c e)⟩
  .obtain⟨w',z⟩:=I.cell y c e;exact⟨w',z.sameBut hs (cne y c e)⟩
  .obtain⟨e,n,ne,nf,d⟩:=I.pin p hp;exact⟨(hs.2 p.1 ne).trans e,n,ne,nf,d⟩
 .have hfn:X.fn x=true:=by
   rcases hf with z|z
   .exact z
   .rw[z] at hk;cases hk
  obtain⟨c,hc⟩:=I.ok.has x (.inl hk);obtain⟨w',z⟩:=I.cell x c hc;refine wpAny_storeName_cell I.ok.kind hk hc z (λh' hc' hs=>?_);obtain⟨oc,hoc,aoh⟩:=id z;refine h {s with heap:=h'} ⟨I.ok,I.os,I.bare,⟨λb o e n hb hx=>?_,λb o e n hb hx=>?_,I.rZ.free,λb o e hx=>?_,I.rZ.tups,I.rZ.frzs,I.rZ.tbls⟩,⟨m,hn.sameBut hs (eP (cne x c hc)),λj y v' e1 e2 e3=>?_⟩,λy c' e=>?_,I.free,I.pO,λp hp=>?_,tracked ⟨oc,hoc,I.pO x c hc⟩ hs,by simpa using I.len⟩ ⟨c,hs,.inr hc⟩
  .exact(hs.2 b (cG (bc (Heap.lt_size e) (I.ok.cab x c hfn hc)))).trans (I.rZ.keep b o e n hb hx)
  .obtain⟨sl,e1⟩:=I.rZ.slot b o e n hb hx;exact⟨sl,(hs.2 b (cG (bc (Heap.lt_size e) (I.ok.cab x c hfn hc)))).trans e1⟩
  .obtain⟨o',e1⟩:=I.rZ.there b o e hx;exact⟨o',(hs.2 b (cG (bc (Heap.lt_size e) (I.ok.cab x c hfn hc)))).trans e1⟩
  .by_cases hj:j=i
   .subst hj;rw[hi] at e1;cases e1;rw[eF ai6] at e2;cases e2;exact⟨u,r,.inr ⟨.inl hk,c,hc,hc'⟩⟩
   .rw[iE (eP hj)] at e2;obtain⟨u',r',q⟩:=hl j y v' e1 e2 e3;refine⟨u',r',?_⟩;rcases q with q|⟨k,c',e,z'⟩
    .exact .inl q
    .refine .inr ⟨k,c',e,z'.sameBut hs ?_⟩;rintro rfl;exact hj (IL hN e1 (I.ok.inj _ _ _ e hc ▸ hi))
  .by_cases hcc:c'=c
   .subst hcc;exact⟨_,hc'⟩
   .obtain⟨w2,z2⟩:=I.cell y c' e;exact⟨w2,z2.sameBut hs hcc⟩
  .obtain⟨e,n,ne,nf,d⟩:=I.pin p hp;refine⟨(hs.2 p.1 ?_).trans e,n,ne,nf,d⟩;intro q;rw[q,hoc] at e;have q':oc=p.2:=bh e;exact d w' (by rw[<-q'];exact aoh)
def C8 {M:Model}{A:Around}{E:j_}{i:Nat}{x:Str}{v:V}{u:kc}{Q:Unit->aL->Prop}(I:Inv X aA σ H s)(hN:X.N.Nodup)(hi:X.N[i]? =some x)(hx:Loc X.env.scope x)(r:RelV v u)
  (h:∀s',Inv X aA (σ.set i (some v)) H s'->Q () s') (hf:autoParam (Ui X x) Z_t):bw M A (storeName X.env x u) Q E s:=
 LQ I hN hi hx r (λs' I' _=>h s' I') hf
def Inv.Xn {s':aL}{ch:pF}(I:Inv X aA σ H s)(ho:s'.os=s.os)(u:Un (F9 X.stack) ch H H' s.heap s'.heap)(fV:wI X.prog X.w H' s'.heap)(hg:Gr s'.gens)
  (hch:∀b∈ch,(b∈X.ex\/X.s_0.heap.objs.size<=b)/\b≠X.env.locals/\(∀x c,X.env.cells.lookup x=some c->c≠b)/\∀p∈X.pn++aA,p.1≠b):Inv X aA σ H' s':=by
 obtain⟨h',g',d',t',o'⟩:=s';have e:o'=s.os:=ho;subst e;exact I.call (g':=g') (t':=t') (d':=d') u fV hg hch
end
abbrev XK:=kc->Option lQ->Hp->Prop
abbrev St:=List (Option V)
abbrev VK:=V->Hp->Prop
abbrev TE:=St->Hp->VK->Prop
abbrev TT:=St->Hp->(Bool->Hp->Prop)->Prop
abbrev TA:=St->Hp->(b_->Hp->Prop)->Prop
structure Ends where
 nx:St->Hp->Prop
 rt:VK
 bk:St->Hp->Prop:=λ_ _=>False
 ct:St->Hp->Prop:=λ_ _=>False
abbrev TS:=Ends->St->Hp->Prop
inductive EP (X:Cx)(aA:jw)(σ:St)(Q:VK)(u:kc)(s':aL):Prop|i v H'(_:Inv X aA σ H' s')(_:RelV v u)(_:Q v H')
inductive TP (X:Cx)(aA:jw)(σ:St)(Q:Bool->Hp->Prop)(b:Bool)(s':aL):Prop|i H'(_:Inv X aA σ H' s')(_:Q b H')
inductive AP (X:Cx)(aA:jw)(σ:St)(Q:b_->Hp->Prop)(us:gS)(s':aL):Prop|i vs H'(_:Inv X aA σ H' s')(_:Vals vs us)(_:Q vs H')
inductive GP (X:Cx)(aA:jw)(Q:St->Hp->Prop)(s:aL):Prop|i σ H(_:Inv X aA σ H s)(_:Q σ H)
inductive RP (X:Cx)(aA:jw)(Q:VK)(u:kc)(s:aL):Prop|i v σ H(_:Inv X aA σ H s)(_:RelV v u)(_:Q v H)
def SP (X:Cx)(aA:jw)(D:Ends)(f:Flow)(s':aL):Prop:=
 match f with
 |.next=>GP X aA D.nx s'
 |.brk=>GP X aA D.bk s'
 |.cont=>GP X aA D.ct s'
 |.ret u=>RP X aA D.rt u s'
def PE (X:Cx)(e:Expr)(t:TE):Prop:=
 ∀(aA:jw) (s:aL) (σ:St) (H:Hp) (Q:VK),Inv X aA σ H s->t σ H Q->bw (bA X.prog X.w) X.A (eval e X.env) (EP X aA σ Q) X.xe s
def PT (X:Cx)(e:Expr)(t:TT):Prop:=
 ∀(aA:jw) (s:aL) (σ:St) (H:Hp) (Q:Bool->Hp->Prop),Inv X aA σ H s->t σ H Q->bw (bA X.prog X.w) X.A (aaW e X.env (eval e X.env)) (TP X aA σ Q) X.xe s
def PW (X:Cx)(e:Expr)(t:TT):Prop:=
 ∀(JG:Sem kc) (aA:jw) (s:aL) (σ:St) (H:Hp) (Q:Bool->Hp->Prop),Inv X aA σ H s->t σ H Q->bw (bA X.prog X.w) X.A (aaW e X.env JG) (TP X aA σ Q) X.xe s
def PW.pt {X:Cx}{e:Expr}{t:TT}(h:PW X e t):PT X e t:=h _
def PA (X:Cx)(es:Fw)(t:TA):Prop:=
 ∀(cJ:Pos) (aA:jw) (s:aL) (σ:St) (H:Hp) (Q:b_->Hp->Prop),Inv X aA σ H s->t σ H Q->bw (bA X.prog X.w) X.A (spliced (m9 cJ (dv es X.env))) (AP X aA σ Q) X.xe s
def PS (X:Cx)(st:Stmt)(t:TS):Prop:=
 ∀(aA:jw) (s:aL) (σ:St) (H:Hp) (D:Ends),Inv X aA σ H s->t D σ H->bw (bA X.prog X.w) X.A (exec st X.env) (SP X aA D) X.xe s
def J6 (X:Cx)(st:List Stmt)(t:TS):Prop:=
 ∀(aA:jw) (s:aL) (σ:St) (H:Hp) (D:Ends),Inv X aA σ H s->t D σ H->bw (bA X.prog X.w) X.A (execs st X.env) (SP X aA D) X.xe s
def jc {α:Type}{t:Sem α}{Q Q':α->aL->Prop}{M:Model}{A:Around}{E:j_}{s:aL}(h:bw M A t Q E s)(hQ:∀a s,Q a s->Q' a s):bw M A t Q' E s:=dI h hQ λ_ _ x=>x
open PySem PySem.Spec PyProof.Rows
section
variable{X:Cx}
def bin {a b:Expr}{ta tb:TE}(ha:PE X a ta)(hb:PE X b tb){aA:jw}{s:aL}{σ:St}{H:Hp}{R:V->V->Hp->Prop}(I:Inv X aA σ H s)(h:ta σ H λx H1=>tb σ H1 λy H2=>R x y H2)
  {α:Type} {Q:α->aL->Prop} {f:kc->kc->Sem α}
  (hf:∀v u s2 x y H2,Inv X aA σ H2 s2->RelV x v->RelV y u->R x y H2->bw (bA X.prog X.w) X.A (f v u) Q X.xe s2):
  bw (bA X.prog X.w) X.A (eval a X.env) (λv ip=>bw (bA X.prog X.w) X.A (eval b X.env) (λu mR=>bw (bA X.prog X.w) X.A (f v u) Q X.xe mR) X.xe ip) X.xe s:=by
 refine jc (ha aA s σ H _ I h) λv s1 ⟨x,H1,I1,r1,q1⟩=>?_;refine jc (hb aA s1 σ H1 _ I1 q1) λu s2 ⟨y,H2,I2,r2,q2⟩=>?_;exact hf v u s2 x y H2 I2 r1 r2 q2
inductive Em (i:Nat)(σ:St)(H:Hp)(Q:VK):Prop|i v(_:σ[i]? =some (some v))(_:Q v H)
def tC (v:V):TE:=λ_ H Q=>Q v H
def af9 {i:Nat}{x:Str}{cJ:Pos}(hN:X.N[i]? =some x)(hv:Vis X.env.scope x)(hd:autoParam (Dy x) Z_d)(Wz:autoParam ((x==("__classdict__":Str))=false) Z_d):PE X (.Name x cJ) (Em i):=by
 intro aA s σ H Q I h;obtain⟨v,e,h⟩:=h;obtain⟨m,hn,hl⟩:=I.loc;obtain⟨u,r,l⟩:=hl i x v hN e hv;have fin:EP X aA σ Q u s:=⟨v,H,I,r,h⟩;rcases l with⟨hk,hm⟩|⟨hk,c,hc,TC⟩
 .exact ahX (aeA I.ok.kind hk hn hm fin) hd
 .rcases hk with hk|hk
  .exact ahX (ag3 I.ok.kind hk hc TC fin) hd
  .exact ahX (wpAny_loadName_free I.ok.kind hk hc TC fin Wz) hd
def aJ {i j cJ}:PE X (.Constant (.int i) j cJ) (tC (.int i)):=λ_ _ _ H _ I h=>wpAny_Constant_int ⟨.int i,H,I.tok _,⟨_,Z⟩,h⟩
def Y2 {b j cJ}:PE X (.Constant (.bool b) j cJ) (tC (.bl b)):=λ_ _ _ H _ I h=>Constant_bool ⟨.bl b,H,I,Z,h⟩
def R6 {j cJ}:PE X (.Constant .none j cJ) (tC .gQ):=λ_ _ _ H _ I h=>JJ ⟨.gQ,H,I,Z,h⟩
def Gl (X:Cx)(x:Str):Prop:=X.env.kindOf x=some .globalImplicit
def rT {E:j_}{aA:jw}{s:aL}{σ:St}{H:Hp}{x:Str}{u:kc}{cJ:Pos}{Q:j_}(I:Inv X aA σ H s)(hg:Gl X x)(hm:X.mg x=some u)(h:Q u s)
  (hd:autoParam (Dy x) Z_d):bw (bA X.prog X.w) X.A (eval (.Name x cJ) X.env) Q E s:=
 Calls.Name_function_global I.ok.kind hg (Calls.loadGlobal_global (by rw[I.ok.glob];exact I.mod.glob.keeps I.bk) hm h) hd
def wm {E:j_}{aA:jw}{s:aL}{σ:St}{H:Hp}{x:Str}{u:kc}{cJ:Pos}{Q:j_}(I:Inv X aA σ H s)(hg:Gl X x)(hm:X.mg x=none)(hv:rK x=some u)(h:Q u s)
  (hn:autoParam (x≠"__name__") Z_d) (hd:autoParam (Dy x) Z_d):bw (bA X.prog X.w) X.A (eval (.Name x cJ) X.env) Q E s:=by
 obtain⟨mb,h1,h2⟩:=I.mod.blt;exact Calls.Name_function_global I.ok.kind hg (Calls.loadGlobal_builtin (by rw[I.ok.glob];exact I.mod.glob.keeps I.bk) hm (by rw[I.ok.blt];exact h1.keeps I.bk) ((h2 x hn).trans hv) h) hd
def tZ {x:Str}{v:V}{u:kc}{cJ:Pos}(hg:Gl X x)(hm:X.mg x=some u)(r:RelV v u)(hd:autoParam (Dy x) Z_d):PE X (.Name x cJ) (tC v):=
 λ_ _ _ H _ I h=>rT I hg hm ⟨v,H,I,r,h⟩ hd
variable{a b:Expr}{ta tb:TE}{cJ:Pos}
def PC (X:Cx)(op:CmpOp)(a b:Expr)(t:TE):Prop:=
 ∀(aA:jw) (s:aL) (σ:St) (H:Hp) (Q:VK),Inv X aA σ H s->t σ H Q->
  bw (bA X.prog X.w) X.A (eval a X.env) (λv ip=>bw (bA X.prog X.w) X.A (eval b X.env) (λu mR=>bw (bA X.prog X.w) X.A (je op v u) (EP X aA σ Q) X.xe mR) X.xe ip) X.xe s
def YM (b:Expr){op:CmpOp}(h:op≠.In)(h2:op≠.NotIn):pR op b=false:=by
 have e1:(op==CmpOp.In)=false:=by cases op<;>first|rfl|exact absurd rfl h
 have e2:(op==CmpOp.NotIn)=false:=by cases op<;>first|rfl|exact absurd rfl h2
 cases b<;>simp[pR,e1,e2]
def aqb (ta:TE):TE:=λσ H Q=>ta σ H λx H1=>Q (.bl (decide (x=.gQ))) H1
def RelV.YN {x:V}{v:kc}(r:RelV x v):(v==Value.none)=decide (x=.gQ):=by
 cases x with
 |gQ=>cases r;rfl
 |bl _=>cases r;rfl
 |int _=>obtain⟨t,rfl⟩:=r;rfl
 |str _=>obtain⟨t,rfl⟩:=r;rfl
 |EC _=>obtain⟨t,rfl⟩:=r;rfl
 |flt _=>obtain⟨t,rfl⟩:=r;rfl
 |ref _=>cases r;rfl
 |ty _=>cases r;rfl
def Y0 {j xu}(ha:PE X a ta):PC X .Is a (.Constant .none j xu) (aqb ta):=by
 intro aA s σ H Q I h;refine jc (ha aA s σ H _ I h) λv s1 ⟨x,H1,I1,r1,q1⟩=>?_;exact JJ (is_none_gen ⟨.bl _,H1,I1,by rw[r1.YN];rfl,q1⟩)
inductive tBK (Q:Bool->Hp->Prop)(x:V)(H1:Hp):Prop|i c(_:x=.bl c)(_:Q c H1)
def tB (t:TE):TT:=λσ H Q=>t σ H (tBK Q)
def Sa {op:CmpOp}{t:TE}(h:PC X op a b t)(h1:pR op b=false:=by first|exact YM _ (by decide) (by decide)|rfl):PT X (.Compare a [op] [b] cJ) (tB t):=by
 intro aA s σ H Q I hw;refine adk (jc (h aA s σ H _ I hw) λv s1 h1=>jc h1 λu s2 h2=>jc h2 λc s3 ⟨x,H1,I1,r1,q1⟩=>?_) h1;obtain⟨d,rfl,q⟩:=q1;cases r1;exact kr ⟨H1,I1,q⟩
def Bo {e:Expr}{t:TE}(h:PE X e t)(he:autoParam (∀JG,aaW e X.env JG=(do let v<-JG;BN e.pos;vt [v] (truthy v))) Z_t):PT X e (tB t):=by
 intro aA s σ H Q I hw;refine isTrue_plain (jc (h aA s σ H _ I hw) λv s1 ⟨x,H1,I1,r1,q1⟩=>?_) (he _);obtain⟨d,rfl,q⟩:=q1;cases r1;exact kr ⟨H1,I1,q⟩
variable{tA tB':TT}{rest:Fw}
def tOr (t u:TT):TT:=λσ H Q=>t σ H λc H1=>if c=true then Q true H1 else u σ H1 Q
def aqd (t:TT):TT:=λσ H Q=>t σ H λc H1=>Q (!c) H1
def yL (ha:PT X a tA):PW X (.BoolOp .Or [a] cJ) tA:=by
 intro wh aA s σ H Q I h;refine isTrue_or (jc (ha aA s σ H Q I h) λc s1 e=>?_);cases c with
 |false=>exact isTrue_or_nil e
 |true=>exact e
def yK (ha:PT X a tA)(hb:PW X (.BoolOp .Or (b::rest) cJ) tB'):PW X (.BoolOp .Or (a::b::rest) cJ) (tOr tA tB'):=by
 intro wh aA s σ H Q I h;refine isTrue_or (jc (ha aA s σ H _ I h) λc s1 ⟨H1,I1,q1⟩=>?_);cases c with
 |true=>exact⟨H1,I1,q1⟩
 |false=>exact hb wh aA s1 σ H1 Q I1 q1
def Nq (ha:PT X a tA):PT X (.UnaryOp .Not a cJ) (aqd tA):=by
 intro aA s σ H Q I h;exact isTrue_not (dI (ha aA s σ H (λc H1=>Q (!c) H1) I h) (λ_ _ ⟨a,b,c⟩=>⟨a,b,c⟩) λ_ _ x=>x)
inductive agJ (tb:TE)(σ:St)(Q:VK)(x:V)(H1:Hp):Prop|i c(_:x=.bl c)(_:if c=true then tb σ H1 Q else Q (.bl false) H1)
def akG (ta tb:TE):TE:=λσ H Q=>ta σ H (agJ tb σ Q)
def Y6 {op}{t:TE}(h:PE X a t):PE X (.BoolOp op [a] cJ) t:=λaA s σ H Q I hw=>BoolOp_one (h aA s σ H Q I hw)
def Y1 (ha:PE X a ta)(hb:PE X (.BoolOp .And (b::rest) cJ) tb):PE X (.BoolOp .And (a::b::rest) cJ) (akG ta tb):=by
 intro aA s σ H Q I h;refine BoolOp_and (jc (ha aA s σ H _ I h) λv s1 ⟨x,H1,I1,r1,q1⟩=>?_);obtain⟨c,rfl,q1⟩:=q1;cases r1;refine kr ?_;cases c with
 |true=>exact hb aA s1 σ H1 Q I1 q1
 |false=>exact⟨.bl false,H1,I1,Z,q1⟩
def tIf (t:TT)(ta tb:TE):TE:=λσ H Q=>t σ H λc H1=>if c=true then ta σ H1 Q else tb σ H1 Q
def qJ {c:Expr}(hc:PT X c tA)(ha:PE X a ta)(hb:PE X b tb):PE X (.IfExp c a b cJ) (tIf tA ta tb):=by
 intro aA s σ H Q I h;refine wpAny_IfExp (jc (hc aA s σ H _ I h) λd s1 ⟨H1,I1,q1⟩=>?_);cases d with
 |true=>exact ha aA s1 σ H1 Q I1 q1
 |false=>exact hb aA s1 σ H1 Q I1 q1
end
open PySem PySem.Spec PyProof.Rows
def nM (K:au)(H:Hp)(a:lQ)(xs:b_):Prop:=
 Rd H a (.lst xs)\/
  ∃(o:Obj) (dg:Array kc) (n:Nat),K.lookup a=some o/\o.cls=.type "list"/\o.dict=none/\o.data=.seq dg n/\dg.size<=bu/\Vals xs dg.toList
def Mb (K:au)(H:Hp)(a:lQ)(xs:b_):Prop:=
 Rd H a (.tup xs)\/
  ∃(o:Obj) (dg:Array kc) (n:Nat),K.lookup a=some o/\o.cls=.type "tuple"/\o.data=.seq dg n/\dg.size<=bu/\Vals xs dg.toList
def amU:kc->Option V
 |.none=>some .gQ
 |.bool b=>some (.bl b)
 |.int i _=>some (.int i)
 |.str x _=>some (.str x)
 |.bytes b _=>some (.EC b)
 |.float b _=>some (.flt b)
 |.ref a=>some (.ref a)
 |.type n=>some (.ty n)
 |_=>none
def RelV.abs {x:V}{u:kc}(r:RelV x u):amU u=some x:=by
 cases x with
 |gQ=>cases r;rfl
 |bl _=>cases r;rfl
 |int _=>obtain⟨t,rfl⟩:=r;rfl
 |str _=>obtain⟨t,rfl⟩:=r;rfl
 |EC _=>obtain⟨t,rfl⟩:=r;rfl
 |flt _=>obtain⟨t,rfl⟩:=r;rfl
 |ref _=>cases r;rfl
 |ty _=>cases r;rfl
def RelV.inj {x y:V}{u:kc}(r:RelV x u)(q:RelV y u):x=y:=bh (r.abs.symm.trans q.abs)
theorem Vals.inj:∀{xs ys:b_} {us:gS},Vals xs us->Vals ys us->xs=ys
 |_,_,_,.nil,.nil=>rfl
 |_,_,_,.cons r t,.cons r' t'=>by rw[r.inj r',Vals.inj t t']
section
variable{X:Cx}{aA:jw}{σ:St}{H:Hp}{s:aL}{a:lQ}{xs ys:b_}
def nM.of {K:au}(h:H a=some (.lst xs)):nM K H a xs:=.inl (.inl h)
def Inv.list (I:Inv X aA σ H s)(h:nM X.K H a xs):∃dg:gS,Vals xs dg/\PlainL s.heap a dg.toArray/\xs.length<=bu:=by
 rcases h with h|⟨o,dg,n,hk,hc,hd,hs,hz,r⟩
 .obtain⟨z,dg,n,r,e⟩:=h.ok I.fV;exact⟨dg,r,⟨_,n,e,Z,Z,Z⟩,z⟩
 .refine⟨dg.toList,r,⟨o,n,I.zb a o hk,hc,hd,by simpa using hs⟩,?_⟩;have e:=r.length;simp only[Wf] at e;lia
def Inv.tuple (I:Inv X aA σ H s)(h:Mb X.K H a xs):∃dg:gS,Vals xs dg/\IsTup s.heap a dg.toArray/\xs.length<=bu:=by
 rcases h with h|⟨o,dg,n,hk,hc,hs,hz,r⟩
 .obtain⟨z,dg,r,p⟩:=h.ok I.fV;exact⟨dg,r,p,z⟩
 .refine⟨dg.toList,r,⟨o,I.zb a o hk,hc,n,by simpa using hs⟩,?_⟩;have e:=r.length;simp only[Wf] at e;lia
def Inv.yw (I:Inv X aA σ H s)(h:nM X.K H a xs)(h':nM X.K H a ys):xs=ys:=by
 obtain⟨dg,r,⟨o,n,e,_,_,d⟩,_⟩:=I.list h;obtain⟨F_,r',⟨o',n',e',_,_,d'⟩,_⟩:=I.list h';rw[e] at e';cases e';rw[d] at d';injection d' with d1 _
 have:dg=F_:=by simpa using congrArg ahZ d1
 subst this;exact r.inj r'
end
abbrev Cx.vo (X:Cx)(E:j_):Cx:={X with xe:=E}
abbrev Cx.nox (X:Cx):Cx:=X.vo λ_ _=>False
def Cx.Ok.vo {X:Cx}(ok:X.Ok)(E:j_):(X.vo E).Ok:=
 ⟨ok.mod,ok.kind,ok.glob,ok.blt,ok.above,ok.inj,ok.has,ok.cab,ok.hd,ok.frames,ok.stk,ok.exf,ok.bs,ok.QR,ok.Px,ok.OU,ok.yq,ok.Qy⟩
def Cx.Ok.uJ {X:Cx}{E:j_}(ok:(X.vo E).Ok):X.Ok:=
 ⟨ok.mod,ok.kind,ok.glob,ok.blt,ok.above,ok.inj,ok.has,ok.cab,ok.hd,ok.frames,ok.stk,ok.exf,ok.bs,ok.QR,ok.Px,ok.OU,ok.yq,ok.Qy⟩
section
variable{X:Cx}{aA:jw}{σ:St}{H:Hp}{s:aL}{E:j_}
def Inv.vo (I:Inv X aA σ H s)(E:j_):Inv (X.vo E) aA σ H s:=⟨I.ok.vo E,I.os,I.bare,I.rZ,I.loc,I.cell,I.free,I.pO,I.pin,I.fV,I.len⟩
def Inv.uJ (I:Inv (X.vo E) aA σ H s):Inv X aA σ H s:=⟨I.ok.uJ,I.os,I.bare,I.rZ,I.loc,I.cell,I.free,I.pO,I.pin,I.fV,I.len⟩
theorem SP.uJ {D:Ends}{f:Flow}{s':aL}(h:SP (X.vo E) aA D f s'):SP X aA D f s':=by
 cases f with
 |next=>obtain⟨gz,H',I,q⟩:=h;exact⟨gz,H',I.uJ,q⟩
 |brk=>obtain⟨gz,H',I,q⟩:=h;exact⟨gz,H',I.uJ,q⟩
 |cont=>obtain⟨gz,H',I,q⟩:=h;exact⟨gz,H',I.uJ,q⟩
 |ret u=>obtain⟨v,gz,H',I,r,q⟩:=h;exact⟨v,gz,H',I.uJ,r,q⟩
def J6.nox {st:List Stmt}{t:TS}(h:J6 X.nox st t):J6 X st t:=λaA s σ H D I hw=>
 dI (h aA s σ H D (I.vo _) hw) (λ_ _ q=>q.uJ) λ_ _ z=>dU z
end
section
variable{X:Cx}{st:Stmt}{rest:List Stmt}{t u:TS}{e:Expr}{te:TE}{cJ:Pos}
def akJ:TS:=λD σ H=>D.nx σ H
def aqe (t u:TS):TS:=λD σ H=>t {D with nx:=u D} σ H
def cQ:J6 X [] akJ:=λ_ _ σ H _ I h=>uQ ⟨σ,H,I,h⟩
def ao (h1:PS X st t)(h2:J6 X rest u):J6 X (st::rest) (aqe t u):=by
 intro aA s σ H D I h;refine ami (jc (h1 aA s σ H {D with nx:=u D} I h) λf s1 q=>?_);cases f with
 |next=>
  obtain⟨gz,H',I',q⟩:=q;exact h2 aA s1 gz H' D I' q
 |ret v=>exact q
 |brk=>exact q
 |cont=>exact q
def aH (h1:PS X st t):J6 X [st] t:=by
 intro aA s σ H D I h;refine ami (jc (h1 aA s σ H D I h) λf s1 q=>?_);cases f with
 |next=>exact uQ q
 |ret v=>exact q
 |brk=>exact q
 |cont=>exact q
def Inv.quiet {aA:jw}{σ:St}{H:Hp}{s:aL}(I:Inv X aA σ H s):interactive X.env=false:=by simp[interactive,I.ok.kind]
def Us (te:TE):TS:=λD σ H=>te σ H λ_ H1=>D.nx σ H1
def cP (he:PE X e te)(hs:autoParam (mU e none cJ.line X.env=pure false) Z_r):PS X (.Expr e cJ) (Us te):=by
 intro aA s σ H D I h;exact wpAny_Expr_any (jc (he aA s σ H _ I h) λv s1 ⟨x,H1,I1,r1,q1⟩=>⟨σ,H1,I1,q1⟩) I.quiet hs
def agS (te:TE):TS:=λD σ H=>te σ H D.rt
def bz (he:PE X e te):PS X (.Return (some e) cJ) (agS te):=by
 intro aA s σ H D I h;exact wpAny_Return_some (jc (he aA s σ H _ I h) λv s1 ⟨x,H1,I1,r1,q1⟩=>⟨x,σ,H1,I1,r1,q1⟩)
def aqa (c:TT)(t u:TS):TS:=λD σ H=>c σ H λb H1=>if b=true then t D σ H1 else u D σ H1
def gj {c:Expr}{a b:List Stmt}{tc:TT}(hc:PT X c tc)(ha:J6 X a t)(hb:J6 X b u):PS X (.If c a b cJ) (aqa tc t u):=by
 intro aA s σ H D I h;refine wpAny_If (jc (hc aA s σ H _ I h) λd s1 ⟨H1,I1,q1⟩=>?_);cases d with
 |true=>exact ha aA s1 σ H1 D I1 q1
 |false=>exact hb aA s1 σ H1 D I1 q1
end
abbrev TG:=V->St->Hp->(St->Hp->Prop)->Prop
abbrev TGs:=b_->St->Hp->(St->Hp->Prop)->Prop
def PG (X:Cx)(En:Expr)(t:TG):Prop:=
 ∀(aA:jw) (s:aL) (σ:St) (H:Hp) (v:V) (u:kc) (Q:St->Hp->Prop),Inv X aA σ H s->RelV v u->t v σ H Q->
  bw (bA X.prog X.w) X.A (Uw En X.env u) (λ_ s'=>GP X aA Q s') X.xe s
def PGs (X:Cx)(ts:Fw)(t:TGs):Prop:=
 ∀(aA:jw) (s:aL) (σ:St) (H:Hp) (vs:b_) (us:gS) (Q:St->Hp->Prop),Inv X aA σ H s->Vals vs us->t vs σ H Q->
  bw (bA X.prog X.w) X.A (assignInOrder ((tJ ts X.env).map (·.2)) us) (λ_ s'=>GP X aA Q s') X.xe s
abbrev aeR:=V->V->V->Hp->(Hp->Prop)->Prop
def aif (X:Cx)(t:aeR):Prop:=
 ∀(aA:jw) (s:aL) (σ:St) (H:Hp) (o i v:V) (ov iv u:kc) (Q:Hp->Prop),Inv X aA σ H s->RelV o ov->RelV i iv->RelV v u->t o i v H Q->
  bw (bA X.prog X.w) X.A (setItem ov iv u) (λ_ s'=>∃H',Inv X aA σ H' s'/\Q H') X.xe s
abbrev TIp:=V->V->Hp->VK->Prop
def PIp (X:Cx)(op:Uv)(t:TIp):Prop:=
 ∀(aA:jw) (s:aL) (σ:St) (H:Hp) (x y:V) (v u:kc) (Q:VK),Inv X aA σ H s->RelV x v->RelV y u->t x y H Q->
  bw (bA X.prog X.w) X.A (inplaceOp op v u) (EP X aA σ Q) X.xe s
section
variable{X:Cx}{cJ:Pos}
def An (i:Nat):TG:=λv σ H Q=>Q (σ.set i (some v)) H
def ach {i:Nat}{x:Str}(hN:X.N.Nodup)(hi:X.N[i]? =some x)(hx:Loc X.env.scope x)(hf:autoParam (Ui X x) Z_t):PG X (.Name x cJ) (An i):=by
 intro aA s σ H v u Q I r h;exact akW (C8 I hN hi hx r (λs' I'=>⟨_,H,I',h⟩) hf)
def aiM:TGs:=λvs σ H Q=>vs=[]/\Q σ H
inductive XT (t:TG)(u:TGs)(vs:b_)(σ:St)(H:Hp)(Q:St->Hp->Prop):Prop|i v r(_:vs=v::r)(_:t v σ H λgz H'=>u r gz H' Q)
def ph:PGs X [] aiM:=by
 intro aA s σ H vs us Q I r h;obtain⟨e,h⟩:=h;subst e;cases r;exact assignInOrder_nil ⟨σ,H,I,h⟩
def fj {e:Expr}{es:Fw}{t:TG}{u:TGs}(h1:PG X e t)(h2:PGs X es u)
  (hs:autoParam ((tJ (e::es) X.env).map (·.2)=Uw e X.env::(tJ es X.env).map (·.2)) Z_r):PGs X (e::es) (XT t u):=by
 intro aA s σ H vs us Q I r h;obtain⟨v,vr,e1,h⟩:=h;subst e1;cases r with
 |cons r rr=>
  rw[hs];refine assignInOrder_cons (jc (h1 aA s σ H _ _ _ I r h) λ_ s1 ⟨σ1,H1,I1,q1⟩=>?_);exact h2 aA s1 σ1 H1 _ _ Q I1 rr q1
inductive afh (K:au)(n:Nat)(t:TGs)(v:V)(σ:St)(H:Hp)(Q:St->Hp->Prop):Prop|i a xs(_:v=.ref a)(_:Mb K H a xs)(_:xs.length=n)(_:t xs σ H Q)
def yG {es:Fw}{k:Nat}{t:TGs}{n:Nat}(hc:X.calm=true)(h:PGs X es t)
  (hn:autoParam ((tJ es X.env).length=n) Z_r) (uz:autoParam ((tJ es X.env).findIdx? (·.1)=none) Z_r):PG X (.Tuple es k cJ) (afh X.K n t):=by
 intro aA s σ H v u Q I r hw;obtain⟨a,xs,e1,hq,hl,hw⟩:=hw;subst e1;cases r;obtain⟨dg,rv,ht,hz⟩:=I.tuple hq;refine assign_Tuple_tuple (I.ok.hd hc) ht (by simp[hn,<-hl,rv.length]) uz λh' hx=>?_;have I1:Inv X aA σ H {s with heap:=h'}:=I.kept (t':=s.toks) λb o e=>hx b o (cG (Heap.lt_size e)) e;exact h aA _ σ H xs _ Q I1 (by simpa using rv) hw
def anp (to ti:TE)(t:aeR):TG:=λv σ H Q=>to σ H λo H1=>ti σ H1 λi H2=>t o i v H2 λH3=>Q σ H3
def yF {o i:Expr}{to ti:TE}{t:aeR}(ho:PE X o to)(hi:PE X i ti)(hs:aif X t)
  (ha:∀v,Uw (.Subscript o i cJ) X.env v=(do
   let ov<-vt [v] (eval o X.env);let iv<-vt [v,ov] (eval i X.env)
   BN cJ
   vt [v,ov,iv] (setItem ov iv v)
   release [v,ov,iv] []):=by trivial):PG X (.Subscript o i cJ) (anp to ti t):=by
 intro aA s σ H v u Q I r h;rw[ha];refine aR (mV (jc (ho aA s σ H _ I h) λov s1 ⟨x,H1,I1,r1,q1⟩=>?_));refine aR (mV (jc (hi aA s1 σ H1 _ I1 q1) λiv s2 ⟨y,H2,I2,r2,q2⟩=>?_));refine aR (fG (aR (mV (jc (hs aA s2 σ H2 x y v ov iv u _ I2 r1 r2 r q2) λ_ s3 ⟨H3,I3,q3⟩=>?_))));exact wpAny_release ⟨σ,H3,I3,q3⟩
def ZP (te:TE)(g:TG):TS:=λD σ H=>te σ H λx H1=>g x σ H1 D.nx
def yJ {tg e:Expr}{te:TE}{g:TG}(he:PE X e te)(hg:PG X tg g)(hs:autoParam (swapsWithSole [tg] e cJ.line X.env=pure false) Z_r)(hw:autoParam (swappedStores [tg] e X.env=pure none) Z_r)
  (h1:autoParam ((tJ [tg] X.env).map (·.2)=[Uw tg X.env]) Z_r):PS X (.Assign [tg] e cJ) (ZP te g):=by
 intro aA s σ H D I h;refine wpAny_Assign_stores (jc (he aA s σ H _ I h) λv s1 ⟨x,H1,I1,r1,q1⟩=>?_) hs hw;rw[h1];exact jc (hg aA s1 σ H1 x v _ I1 r1 q1) λ_ s2 q=>q
def aga {i:Nat}{x:Str}{e:Expr}{te:TE}{xu:Pos}(hN:X.N.Nodup)(hi:X.N[i]? =some x)(hx:Loc X.env.scope x)(he:PE X e te)(hs:autoParam (mU e (some (.Name x xu)) cJ.line X.env=pure false) Z_r)(hf:autoParam (Ui X x) Z_t):
  PS X (.Assign [.Name x xu] e cJ) (ZP te (An i)):=by
 intro aA s σ H D I h;refine wpAny_Assign_Name (jc (he aA s σ H _ I h) λv s1 ⟨y,H1,I1,r1,q1⟩=>?_) hs;exact C8 I1 hN hi hx r1 (λs2 I2=>⟨_,H1,I2,q1⟩) hf
inductive ap6 (i:Nat)(te:TE)(ti:TIp)(D:Ends)(σ:St)(H:Hp):Prop|i x(_:σ[i]? =some (some x))(_:te σ H λy H1=>ti x y H1 λz H2=>D.nx (σ.set i (some z)) H2)
def Jl {i:Nat}{x:Str}{e:Expr}{te:TE}{op:Uv}{ti:TIp}{xu:Pos}(hN:X.N.Nodup)(hi:X.N[i]? =some x)(hx:Loc X.env.scope x)(he:PE X e te)(ho:PIp X op ti)(hf:autoParam (Ui X x) Z_t):
  PS X (.AugAssign (.Name x xu) op e cJ) (ap6 i te ti):=by
 intro aA s σ H D I h;obtain⟨v,e1,h⟩:=h;obtain⟨m,hn,hl⟩:=I.loc;have vis:Vis X.env.scope x:=by rcases hx with k|k;exact .inl k;exact .inr (.inl k)
 obtain⟨u,r,l⟩:=hl i x v hi e1 vis;refine wpAny_AugAssign_Name ?_;have go:bw (bA X.prog X.w) X.A (eval e X.env) (λw mR=>bw (bA X.prog X.w) X.A (inplaceOp op u w) (λr C_=>bw (bA X.prog X.w) X.A (storeName X.env x r) (λ_=>SP X aA D .next) X.xe C_) X.xe mR) X.xe s:=by
  refine jc (he aA s σ H _ I h) λw s1 ⟨y,H1,I1,r1,q1⟩=>?_;refine jc (ho aA s1 σ H1 v y u w _ I1 r r1 q1) λz s2 ⟨zv,H2,I2,r2,q2⟩=>?_;exact C8 I2 hN hi hx r2 (λs3 I3=>⟨_,H2,I3,q2⟩) hf
 rcases l with⟨hk,hm⟩|⟨hk,c,hc,TC⟩
 .exact aeA I.ok.kind hk hn hm go
 .rcases hk with hk|hk
  .exact ag3 I.ok.kind hk hc TC go
  .rcases hx with k|k
   .have:X.env.scope.names.lookup x=some .free:=hk;rw[k] at this;cases this
   .have:X.env.scope.names.lookup x=some .free:=hk;rw[k] at this;cases this
inductive ipI (f:Int->Int->Int)(x:V)(y:V)(H:Hp)(Q:VK):Prop|i i j(_:x=.int i)(_:y=.int j)(_:Q (.int (f i j)) H)
def MX:PIp X .Add (ipI λi j=>i+j):=by
 intro aA s σ H x y v u Q I r1 r2 h;obtain⟨i,j,e1,e2,q⟩:=h;subst e1;subst e2;obtain⟨t,rfl⟩:=r1;obtain⟨t',rfl⟩:=r2;exact iadd_int ⟨.int _,H,I.tok _,⟨_,Z⟩,q⟩
def afK:PIp X .Sub (ipI λi j=>i-j):=by
 intro aA s σ H x y v u Q I r1 r2 h;obtain⟨i,j,e1,e2,q⟩:=h;subst e1;subst e2;obtain⟨t,rfl⟩:=r1;obtain⟨t',rfl⟩:=r2;exact isub_int ⟨.int _,H,I.tok _,⟨_,Z⟩,q⟩
end
section
variable{X:Cx}{cJ:Pos}
def agU (c:TT)(tb:TS):TS:=λD σ H=>∃W:Nat->St->Hp->Prop,(∃m,W m σ H)/\∀m σ H,W m σ H->
 c σ H λb H1=>if b=true then∃N:St->Hp->Prop,(∀gz H',N gz H'->∃m',m'<m/\W m' gz H')/\tb {D with nx:=N,ct:=N,bk:=D.nx} σ H1 else D.nx σ H1
def CV {c:Expr}{qB:List Stmt}{tc:TT}{tb:TS}(hp:PassesOwn (bA X.prog X.w) X.A X.env X.xe)(hc:PT X c tc)(hb:J6 X qB tb):PS X (.While c qB [] cJ) (agU tc tb):=by
 intro aA s σ H D I h;obtain⟨W,⟨m0,w0⟩,SD⟩:=h;refine wpAny_While (codeAny_whileLoop (λn s'=>∃gz H',Inv X aA gz H' s'/\W n gz H') ?_ m0 ⟨σ,H,I,w0⟩);rintro n s1 ⟨σ1,H1,I1,w1⟩;refine mJ hp (jc (hc aA s1 σ1 H1 _ I1 (SD n σ1 H1 w1)) λb s2 ⟨H2,I2,q2⟩=>?_);cases b with
 |true=>
  obtain⟨N,hN,q2⟩:=q2;rw[aj rfl];refine mJ hp (jc (hb aA s2 σ1 H2 _ I2 q2) λf s3 q3=>?_);cases f with
  |next=>
   obtain⟨Z_,H3,I3,n3⟩:=q3;obtain⟨m',hm,w3⟩:=hN Z_ H3 n3;exact⟨m',hm,Z_,H3,I3,w3⟩
  |cont=>
   obtain⟨Z_,H3,I3,n3⟩:=q3;obtain⟨m',hm,w3⟩:=hN Z_ H3 n3;exact⟨m',hm,Z_,H3,I3,w3⟩
  |brk=>exact q3
  |ret v=>exact q3
 |false=>
  rw[ah bH];exact uQ ⟨σ1,H2,I2,q2⟩
end
structure It where
 go:Nat->Hp->Prop
 Wc:Nat->Hp->V->Hp->Prop
 stop:Nat->Hp->Prop
def Fu (X:Cx)(aA:jw)(H:Hp)(b:lQ):Prop:=
 H b=none/\b≠X.env.locals/\b∉X.fs/\(b∈X.ex\/X.s_0.heap.objs.size<=b)/\(∀x c,X.env.cells.lookup x=some c->c≠b)/\∀p∈X.pn++aA,p.1≠b
def Inv.RD {X:Cx}{aA:jw}{σ:St}{H H':Hp}{s:aL}{b:lQ}(I:Inv X aA σ H s)(hb:s.heap.objs.size<=b)(hn:H' b=none):Fu X aA H' b:=by
 refine⟨hn,UO (bc I.lt hb),I.aph hb,.inr (bt I.sz hb),λx c e z=>?_,λp hp z=>?_⟩
 .obtain⟨v,q⟩:=I.cell x c e;exact absurd (bc q.lt (by rw[z];exact hb)) (b8 _)
 .exact absurd (bc (Heap.lt_size (I.pin p hp).1) (by rw[z];exact hb)) (b8 _)
structure Turn (P:bJ)(w:cA)(K:au)(tg:Expr)(J:It)(fp:pF)(it:lQ)(tn:Nat->Heap->Prop):Prop where
 mem:it∈fp
 obj:∀i h,tn i h->∀b∈fp,∃o,h.get? b=some o/\∀v,o.data≠.cell v
 keep:∀i h h',tn i h->(∀b∈fp,∀o,h.get? b=some o->h'.get? b=some o)->tn i h'
 item:∀(X:Cx),X.prog=P->X.w=w->X.K=K->X.calm=true->∀(i:Nat) (pins:jw) (s:aL) (σ:St) (H:Hp) (E:j_),Inv X pins σ H s->(∀b∈fp,Fu X pins H b)->tn i s.heap->J.go i H->
  bw (bA P w) X.A (pyNext (.ref it)) (λr s1=>∃u,r=some u/\
   bw (bA P w) X.A (Dj tg (.ref it) u) (λ_ s2=>∃x H',Inv X pins σ H' s2/\RelV x u/\J.Wc i H x H'/\tn (i+1) s2.heap/\∀b∈fp,H' b=none) E s1) E s
 done:∀(X:Cx),X.prog=P->X.w=w->X.K=K->X.calm=true->∀(i:Nat) (pins:jw) (s:aL) (σ:St) (H:Hp) (E:j_),Inv X pins σ H s->(∀b∈fp,Fu X pins H b)->tn i s.heap->J.stop i H->
  bw (bA P w) X.A (pyNext (.ref it)) (λr s1=>r=none/\Inv X pins σ H s1) E s
 self:∀(A:Around) (i:Nat) (s:aL) (Q:j_) (E:j_),tn i s.heap->Q (.ref it) s->bw (bA P w) A (pyIter (.ref it)) Q E s
abbrev TI:=St->Hp->(It->Hp->Prop)->Prop
inductive PIE (X:Cx)(aA:jw)(σ:St)(tg:Expr)(R:It->Hp->Prop)(itv:kc)(s2:aL):Prop|i(it:lQ)(fp:pF)(tn:Nat->Heap->Prop)(J:It)(H':Hp)(_:itv=.ref it)(_:Inv X aA σ H' s2)(_:Turn X.prog X.w X.K tg J fp it tn)(_:tn 0 s2.heap)(_:∀b∈fp,Fu X aA H' b)(_:R J H')
def PI (X:Cx)(tg l7:Expr)(wi:TI):Prop:=
 ∀(aA:jw) (s:aL) (σ:St) (H:Hp) (R:It->Hp->Prop),Inv X aA σ H s->wi σ H R->
  bw (bA X.prog X.w) X.A (eval l7 X.env) (λv s1=>bw (bA X.prog X.w) X.A (pyIter v) (PIE X aA σ tg R) X.xe s1) X.xe s
def Tz {M:Model}{A:Around}{E:j_}{s:aL}{tg:Expr}{it:lQ}{u:kc}{o:Obj}{n:String}{vs:Array kc}{Q:Unit->aL->Prop}(ho:s.heap.get? it=some o)(hc:o.cls=.type n)(hd:o.data=.fields vs)
  (hn:["enumerate","zip","dict_itemiterator","dict_reverseitemiterator","odict_iterator","itertools.zip_longest","itertools.pairwise"].contains n=false) (hQ:Q () s):bw M A (Dj tg (.ref it) u) Q E s:=by
 unfold Dj;cases tg<;>first
  |exact bV hQ
  |(cases u<;>first
    |exact bV hQ
    |(refine aR (wpAny_load ho ?_)
      rw[hc,hd];show bw M A (if(["enumerate","zip","dict_itemiterator","dict_reverseitemiterator","odict_iterator","itertools.zip_longest","itertools.pairwise"].contains n&&vs[0]? ==some (rawInt _))=true then _ else _) Q E s;rw[ah (by intro h;rw[hn,Bool.false_and] at h;cases h)];exact bV hQ))
def Wi (K:au)(a:lQ):It:=
 ⟨λi H=>∃xs x,nM K H a xs/\xs[i]? =some x,λi H x H'=>H'=H/\∀xs,nM K H a xs->xs[i]? =some x,λi H=>∃xs,nM K H a xs/\xs.length<=i⟩
def S1 (lo:Int)(n:Nat):It:=⟨λi _=>i<n,λi H x H'=>H'=H/\x=.int (lo+i),λi _=>n<=i⟩
def V7 {P:bJ}{w:cA}{K:au}{tg:Expr}(a it:lQ):Turn P w K tg (Wi K a) [it] it (λi h=>h.IsListIter it a i) where
 mem:=by simp
 obj:=λi h st b hb=>by
  have e:b=it:=by simpa using hb
  subst e;obtain⟨o,e,c,d⟩:=st;exact⟨o,e,λv z=>by rw[d] at z;cases z⟩
 keep:=λi h h' st k=>st.at λo e=>k it (by simp) o e
 item:=by
  intro X hP hw hK hc i aA s σ H E I hf st hg;subst hP hw hK;obtain⟨xs,x,hq,hx⟩:=hg;obtain⟨dg,rv,p,hz⟩:=I.list hq;obtain⟨u,hu,ru⟩:=rv.get hx;obtain⟨f0,f1,f2,f3,f4,f5⟩:=hf it (by simp);refine wpAny_pyNext_list_item st p.isList (x:=u) (by simpa using hu) λh' uO sb=>?_;have I1:Inv X aA σ H {s with heap:=h'}:=I.turned (t':=s.toks) (λb o hb e=>(sb.2 b hb).trans e) f0 f1 f3 f4 f5;obtain⟨o,e,c,d⟩:=id uO;exact⟨u,Z,Tz (s:={s with heap:=h'}) e c d (by decide) ⟨x,H,I1,ru,⟨Z,λys hy=>by rw[I.yw hy hq];exact hx⟩,uO,λb hb=>(hf b hb).1⟩⟩
 done:=by
  intro X hP hw hK hc i aA s σ H E I hf st hg;subst hP hw hK;obtain⟨xs,hq,hx⟩:=hg;obtain⟨dg,rv,p,hz⟩:=I.list hq;obtain⟨f0,f1,f2,f3,f4,f5⟩:=hf it (by simp);have hl:=rv.length;exact wpAny_pyNext_list_end (I.ok.hd hc) st p.isList (by simp;lia) λh' eb=>⟨Z,I.turned (t':=s.toks) (λb o hb e=>eb b o hb e) f0 f1 f3 f4 f5⟩
 self:=λ_ _ _ _ _ st h=>wpAny_pyIter_listiter st h
def SE {P:bJ}{w:cA}{K:au}{tg:Expr}(it:lQ)(lo:Int)(n:Nat):Turn P w K tg (S1 lo n) [it] it (λi h=>Qv h it (lo+(i:Nat)*1) ((n:Int)-(i:Nat)) 1) where
 mem:=by simp
 obj:=λi h st b hb=>by
  have e:b=it:=by simpa using hb
  subst e;exact⟨_,st,λv z=>by
   have z':Data.fields _=Data.cell v:=z;cases z'⟩
 keep:=λi h h' st k=>k it (by simp) _ st
 item:=by
  intro X hP hw hK hc i aA s σ H E I hf st hg;subst hP hw hK;obtain⟨f0,f1,f2,f3,f4,f5⟩:=hf it (by simp);have W:=Walks.range (prog:=X.prog) (w:=X.w) (I.ok.hd hc) it lo 1 n;refine W.item i s _ _ hg st λv h' tk hv uO kk=>?_;obtain⟨t,rfl⟩:=hv;have I1:Inv X aA σ H {s with heap:=h',toks:=tk}:=I.turned (λb o hb e=>kk b o (by simpa using hb) e) f0 f1 f3 f4 f5;refine⟨_,Z,Tz (s:={s with heap:=h',toks:=tk}) (n:="range_iterator") uO rfl rfl (by decide) ⟨.int (lo+i),H,I1,⟨t,?_⟩,⟨Z,Z⟩,uO,λb hb=>(hf b hb).1⟩⟩;rw[Int.mul_one]
 done:=by
  intro X hP hw hK hc i aA s σ H E I hf st hg;subst hP hw hK;obtain⟨f0,f1,f2,f3,f4,f5⟩:=hf it (by simp);exact aaZ (I.ok.hd hc) st (by have:n<=i:=hg;lia) λh' eb=>⟨Z,I.turned (t':=s.toks) (λb o hb e=>eb b o hb e) f0 f1 f3 f4 f5⟩
 self:=λ_ _ _ _ _ st h=>aaY st h
open PySem PySem.Spec PyProof.Rows
section
variable{X:Cx}{tg:Expr}
inductive afF (K:au)(R:It->Hp->Prop)(x:V)(H1:Hp):Prop|i a(_:x=.ref a)(_:∃xs,nM K H1 a xs)(_:R (Wi K a) H1)
def Ys (K:au)(tl:TE):TI:=λσ H R=>tl σ H (afF K R)
def fB {l:Expr}{tl:TE}(hl:PE X l tl):PI X tg l (Ys X.K tl):=by
 intro aA s σ H R I h;refine jc (hl aA s σ H _ I h) λv s1 ⟨x,H1,I1,r1,q1⟩=>?_;obtain⟨a,e,⟨xs,hq⟩,q⟩:=q1;subst e;cases r1;obtain⟨dg,rv,p,hz⟩:=I1.list hq;refine akY p.isList ?_;refine⟨s1.heap.objs.size,[s1.heap.objs.size],_,_,H1,Z,I1.kept (t':=s1.toks) λb o e=>Heap.get?_push_of_some _ e,V7 a _,⟨_,Heap.get?_push_size _ rfl,Z,Z⟩,λb hb=>?_,q⟩;have e:b=s1.heap.objs.size:=by simpa using hb
 subst e;exact I1.RD (bq _) (I1.fV.fresh (bq _))
def P8 {aA:jw}{σ:St}{H:Hp}{s:aL}{R:It->Hp->Prop}{E:j_}{lo hi:Int}{t u v:Tok}{tk:Nat}(I:Inv X aA σ H s)(h1: -(2^62)<=lo)(h2:lo<2^62)(h3: -(2^62)<=hi)(h4:hi<2^62)
  (q:R (S1 lo (hi-lo).toNat) H):bw (bA X.prog X.w) X.A (pyIter (.ref s.heap.objs.size)) (PIE X aA σ tg R) E {s with heap:=s.heap.push {cls:=.type "range",data:=.fields #[.int lo t,.int hi u,.int 1 v]},toks:=tk}:=by
 refine ahY (IsRange.new ..) (small_one h1 h2 h3 h4) ?_;have I1:Inv X aA σ H {s with heap:=s.heap.push {cls:=.type "range",data:=.fields #[.int lo t,.int hi u,.int 1 v]},toks:=tk}:=I.kept λb o e=>Heap.get?_push_of_some _ e;refine⟨(s.heap.push {cls:=.type "range",data:=.fields #[.int lo t,.int hi u,.int 1 v]}).objs.size,[(s.heap.push {cls:=.type "range",data:=.fields #[.int lo t,.int hi u,.int 1 v]}).objs.size],_,_,H,Z,
  I1.kept (t':=tk) λb o e=>Heap.get?_push_of_some _ e,SE _ lo (hi-lo).toNat,?_,λb hb=>?_,q⟩
 .have e1:lo+((0:Nat):Int)*1=lo:=by simp
  have e2:(((hi-lo).toNat:Nat):Int)-((0:Nat):Int)=Builtin.Range.rangeSize lo hi 1:=by rw[rangeSize_one];split<;>lia
  show Qv _ _ (lo+((0:Nat):Int)*1) ((((hi-lo).toNat:Nat):Int)-((0:Nat):Int)) 1;rw[e1,e2];exact Heap.get?_push_size _ rfl
 .have e:b=(s.heap.push {cls:=.type "range",data:=.fields #[.int lo t,.int hi u,.int 1 v]}).objs.size:=by simpa using hb
  subst e;exact I1.RD (bq _) (I1.fV.fresh (bq _))
inductive afG (R:It->Hp->Prop)(vs:b_)(H1:Hp):Prop|i(j:Int)(_:vs=[.int j])(_: -(2^62)<=j)(_:j<2^62)(_:R (S1 0 j.toNat) H1)
def ajz (ta:TA):TI:=λσ H R=>ta σ H (afG R)
inductive afH (R:It->Hp->Prop)(vs:b_)(H1:Hp):Prop|i(i j:Int)(_:vs=[.int i,.int j])(_:-(2^62)<=i/\i<2^62/\ -(2^62)<=j/\j<2^62)(_:R (S1 i (j-i).toNat) H1)
def ajA (ta:TA):TI:=λσ H R=>ta σ H (afH R)
def jx {a:Expr}{ta:TA}{p cJ:Pos}(hg:Gl X "range")(hm:X.mg "range"=none)(ha:PA X [a] ta)(hs:autoParam (dv [a] X.env=[(false,eval a X.env)]) Z_r):PI X tg (.Call (.Name "range" p) [a] [] cJ) (ajz ta):=by
 intro aA s σ H R I h;refine Call_ (wm I hg hm ahU (eK (jc (ha cJ aA s σ H _ I h) λus s1 ⟨vs,H1,I1,r1,q1⟩=>?_) hs rfl));obtain⟨j,e,q1,q2,q⟩:=q1;subst e;cases r1 with
 |cons r rr=>
  cases rr;obtain⟨t,rfl⟩:=r;exact call_range_1 (P8 I1 (by lia) (by lia) q1 q2 (by simpa using q))
def zj {a b:Expr}{ta:TA}{p cJ:Pos}(hg:Gl X "range")(hm:X.mg "range"=none)(ha:PA X [a,b] ta)(hs:autoParam (dv [a,b] X.env=[(false,eval a X.env),(false,eval b X.env)]) Z_r)(Kx:autoParam (dv [b] X.env=[(false,eval b X.env)]) Z_r):
  PI X tg (.Call (.Name "range" p) [a,b] [] cJ) (ajA ta):=by
 intro aA s σ H R I h;refine Call_ (wm I hg hm ahU (eK (jc (ha cJ aA s σ H _ I h) λus s1 ⟨vs,H1,I1,r1,q1⟩=>?_) (by rw[hs,Kx]) (by rw[Kx];rfl)));obtain⟨i,j,e,⟨q1,q2,q3,q4⟩,q⟩:=q1;subst e;cases r1 with
 |cons r rr=>
  cases rr with
  |cons r' rr=>
   cases rr;obtain⟨t,rfl⟩:=r;obtain⟨t',rfl⟩:=r';exact call_range_2 (P8 I1 q1 q2 q3 q4 q)
def ap9 (wi:TI)(g:TG)(tb:TS):TS:=λD σ H=>wi σ H λJ H1=>∃W:Nat->Nat->St->Hp->Prop,(∃m,W 0 m σ H1)/\∀i m σ H,W i m σ H->
 (J.stop i H/\D.nx σ H)\/(J.go i H/\∃N:St->Hp->Prop,(∀gz H',N gz H'->∃m',m'<m/\W (i+1) m' gz H')/\∀x H',J.Wc i H x H'->g x σ H' λmG H2=>tb {D with nx:=N,ct:=N,bk:=D.nx} mG H2)
def Jk (fp:pF)(h:Heap):jw:=fp.filterMap λb=>(h.get? b).map λo=>(b,o)
def Bg {fp:pF}{h:Heap}{b:lQ}{o:Obj}(hb:b∈fp)(e:h.get? b=some o):(b,o)∈Jk fp h:=aaq.mpr ⟨b,hb,by rw[e];rfl⟩
def VD {fp:pF}{h:Heap}{p:lQ×Obj}(hp:p∈Jk fp h):p.1∈fp/\h.get? p.1=some p.2:=by
 obtain⟨b,hb,e⟩:=aaq.mp hp;cases q:h.get? b with
 |none=>rw[q] at e;cases e
 |some o=>
  rw[q] at e;have e':(b,o)=p:=bh e;subst e';exact⟨hb,q⟩
def Inv.pinned {aA:jw}{σ:St}{H:Hp}{s:aL}{fp:pF}(I:Inv X aA σ H s)(hf:∀b∈fp,Fu X aA H b)(ho:∀b∈fp,∃o,s.heap.get? b=some o/\∀v,o.data≠.cell v):Inv X (aA++Jk fp s.heap) σ H s:=
 I.Ua λp hp=>(c_.mp hp).elim (λz=>I.pin p (eQ _ z)) λz=>by
  obtain⟨hb,e⟩:=VD z;obtain⟨f0,f1,f2,_⟩:=hf p.1 hb;obtain⟨o,e',d⟩:=ho p.1 hb;rw[e] at e';cases e';exact⟨e,f0,f1,f2,d⟩
def Inv.Dg {aA pl:jw}{σ:St}{H:Hp}{s:aL}(I:Inv X (aA++pl) σ H s):Inv X aA σ H s:=I.Ua λp hp=>I.pin p (eQ _ (mY _ hp))
def gX {l7:Expr}{qB:List Stmt}{wi:TI}{g:TG}{tb:TS}{cJ:Pos}(hp:PassesOwn (bA X.prog X.w) X.A X.env X.xe)(hc:X.calm=true)(hi:PI X tg l7 wi)(hg:PG X tg g)(hb:J6 X qB tb)
  (hs:autoParam (∀x,nA l7 X.env x=pure x) Z_t):PS X (.For tg l7 qB [] cJ) (ap9 wi g tb):=by
 intro aA s σ H D I h;refine wpAny_For (jc (hi aA s σ H _ I h) λv s1 h1=>jc h1 λitv s2 h2=>?_) hs;obtain⟨it,fp,tn,J,H2,e,I2,T,st2,f2,W,⟨m0,w0⟩,SD⟩:=h2;subst e;have Sv:∀{H':Hp},(∀b∈fp,H' b=none)->∀b∈fp,Fu X aA H' b:=λhn b hb=>⟨hn b hb,(f2 b hb).2⟩;refine codeAny_forLoop_any (λn s'=>∃i gz H',Inv X aA gz H' s'/\tn i s'.heap/\(∀b∈fp,H' b=none)/\W i n gz H') ?_ m0 ⟨0,σ,H2,I2,st2,λb hb=>(f2 b hb).1,w0⟩;rintro n s3 ⟨i,Z_,H3,I3,st3,fr3,w3⟩;rcases SD i n Z_ H3 w3 with⟨stop,qn⟩|⟨go,N,hN,step⟩
 .refine mJ hp (jc (T.done X rfl rfl rfl hc i aA s3 Z_ H3 X.xe I3 (Sv fr3) st3 stop) λr s4 ⟨hr,I4⟩=>?_);subst hr;exact uQ ⟨Z_,H3,I4,qn⟩
 .refine mJ hp (jc (T.item X rfl rfl rfl hc i aA s3 Z_ H3 X.xe I3 (Sv fr3) st3 go) λr s4 ⟨u,hr,h4⟩=>?_);subst hr;refine mJ hp (jc h4 λ_ s5 ⟨x,H5,I5,r5,y5,st5,fr5⟩=>?_);have I5':=I5.pinned (Sv fr5) (T.obj _ _ st5);refine mJ hp (jc (hg _ s5 Z_ H5 x u _ I5' r5 (step x H5 y5)) λ_ s6 ⟨σ6,H6,I6,q6⟩=>?_);refine mJ hp (jc (hb _ s6 σ6 H6 _ I6 q6) λf s7 q7=>?_);have again:∀{σ7:St} {H7:Hp},Inv X (aA++Jk fp s5.heap) σ7 H7 s7->N σ7 H7->∃m,m<n/\∃i gz H',Inv X aA gz H' s7/\tn i s7.heap/\(∀b∈fp,H' b=none)/\W i m gz H':=λ{σ7 H7} I7 n7=>by
   obtain⟨m',hm,w7⟩:=hN σ7 H7 n7;refine⟨m',hm,i+1,σ7,H7,I7.Dg,T.keep _ _ _ st5 λb hb o e=>(I7.pin (b,o) (eQ _ (eQ _ (Bg hb e)))).1,λb hb=>?_,w7⟩;obtain⟨o,e,d⟩:=T.obj _ _ st5 b hb;exact(I7.pin (b,o) (eQ _ (eQ _ (Bg hb e)))).2.1
  cases f with
  |next=>obtain⟨σ7,H7,I7,n7⟩:=q7;exact again I7 n7
  |cont=>obtain⟨σ7,H7,I7,n7⟩:=q7;exact again I7 n7
  |brk=>obtain⟨σ7,H7,I7,q7⟩:=q7;exact⟨σ7,H7,I7.Dg,q7⟩
  |ret v=>obtain⟨x7,σ7,H7,I7,r7,q7⟩:=q7;exact⟨x7,σ7,H7,I7.Dg,r7,q7⟩
end
def qD {K:au}{a:lQ}{xs:b_}{g:TG}{tb:TS}{D:Ends}{σ:St}{H:Hp}(Pv:Nat->St->Hp->Prop)(h0:Pv 0 σ H)(hl:∀i σ H,i<=xs.length->Pv i σ H->nM K H a xs)
  (hs:∀i x σ H,xs[i]? =some x->Pv i σ H->g x σ H λmG H2=>tb {D with nx:=Pv (i+1),ct:=Pv (i+1),bk:=D.nx} mG H2) (hd:∀σ H,Pv xs.length σ H->D.nx σ H):
  ∃W:Nat->Nat->St->Hp->Prop,(∃m,W 0 m σ H)/\∀i m σ H,W i m σ H->
   ((Wi K a).stop i H/\D.nx σ H)\/((Wi K a).go i H/\∃N:St->Hp->Prop,(∀gz H',N gz H'->∃m',m'<m/\W (i+1) m' gz H')/\∀x H',(Wi K a).Wc i H x H'->g x σ H' λmG H2=>tb {D with nx:=N,ct:=N,bk:=D.nx} mG H2):=by
 refine⟨λi m σ H=>m=xs.length-i/\i<=xs.length/\Pv i σ H,⟨xs.length,by simp,eT _,h0⟩,?_⟩;rintro i m σ H ⟨rfl,hi,p⟩;have q:=hl i σ H hi p;by_cases BF:i<xs.length
 .refine .inr ⟨⟨xs,xs[i],q,by simp[BF]⟩,Pv (i+1),λgz H' p'=>⟨xs.length-(i+1),by lia,Z,BF,p'⟩,λx H' y=>?_⟩;obtain⟨e,y⟩:=y;subst e;exact hs i x σ _ (y xs q) p
 .have e:i=xs.length:=by lia
  subst e;exact .inl ⟨⟨xs,q,bq _⟩,hd σ H p⟩
def r_ {lo:Int}{n:Nat}{g:TG}{tb:TS}{D:Ends}{σ:St}{H:Hp}(Pv:Nat->St->Hp->Prop)(h0:Pv 0 σ H)
  (hs:∀i σ H,i<n->Pv i σ H->g (.int (lo+i)) σ H λmG H2=>tb {D with nx:=Pv (i+1),ct:=Pv (i+1),bk:=D.nx} mG H2) (hd:∀σ H,Pv n σ H->D.nx σ H):
  ∃W:Nat->Nat->St->Hp->Prop,(∃m,W 0 m σ H)/\∀i m σ H,W i m σ H->
   ((S1 lo n).stop i H/\D.nx σ H)\/((S1 lo n).go i H/\∃N:St->Hp->Prop,(∀gz H',N gz H'->∃m',m'<m/\W (i+1) m' gz H')/\∀x H',(S1 lo n).Wc i H x H'->g x σ H' λmG H2=>tb {D with nx:=N,ct:=N,bk:=D.nx} mG H2):=by
 refine⟨λi m σ H=>m=n-i/\i<=n/\Pv i σ H,⟨n,by simp,eT _,h0⟩,?_⟩;rintro i m σ H ⟨rfl,hi,p⟩;by_cases BF:i<n
 .refine .inr ⟨BF,Pv (i+1),λgz H' p'=>⟨n-(i+1),by lia,Z,BF,p'⟩,λx H' y=>?_⟩;obtain⟨e,y⟩:=y;subst e y;exact hs i σ _ BF p
 .have e:i=n:=by lia
  subst e;exact .inl ⟨bq _,hd σ H p⟩
open PySem PySem.Spec PyProof.Rows
abbrev R2:=V->V->Hp->VK->Prop
def BA (X:Cx)(f:kc->kc->Sem kc)(r:R2):Prop:=
 ∀(aA:jw) (s:aL) (σ:St) (H:Hp) (x y:V) (v u:kc) (Q:VK),Inv X aA σ H s->RelV x v->RelV y u->r x y H Q->
  bw (bA X.prog X.w) X.A (f v u) (EP X aA σ Q) X.xe s
def UnR (X:Cx)(f:kc->Sem kc)(r:V->Hp->VK->Prop):Prop:=
 ∀(aA:jw) (s:aL) (σ:St) (H:Hp) (x:V) (v:kc) (Q:VK),Inv X aA σ H s->RelV x v->r x H Q->
  bw (bA X.prog X.w) X.A (f v) (EP X aA σ Q) X.xe s
def Er (X:Cx)(f:kc)(r:b_->Hp->VK->Prop):Prop:=
 ∀(aA:jw) (s:aL) (σ:St) (H:Hp) (xs:b_) (us:gS) (Q:VK),Inv X aA σ H s->Vals xs us->r xs H Q->
  bw (bA X.prog X.w) X.A (call f us) (EP X aA σ Q) X.xe s
def amQ (X:Cx)(r:V->Hp->(Bool->Hp->Prop)->Prop):Prop:=
 ∀(aA:jw) (s:aL) (σ:St) (H:Hp) (x:V) (v:kc) (Q:Bool->Hp->Prop),Inv X aA σ H s->RelV x v->r x H Q->
  bw (bA X.prog X.w) X.A (truthy v) (TP X aA σ Q) X.xe s
def tOp (r:R2)(ta tb:TE):TE:=λσ H Q=>ta σ H λx H1=>tb σ H1 λy H2=>r x y H2 Q
def tUn (r:V->Hp->VK->Prop)(ta:TE):TE:=λσ H Q=>ta σ H λx H1=>r x H1 Q
inductive rI (C:Int->Int->Prop)(g:Int->Int->V)(x:V)(y:V)(H:Hp)(Q:VK):Prop|i i j(_:x=.int i)(_:y=.int j)(_:C i j)(_:Q (g i j) H)
inductive Zb (g:Int->Int->V)(x:V)(y:V)(H:Hp)(Q:VK):Prop|i i j(_:x=.int i)(_:y=.int j)(_:Q (g i j) H)
inductive rU (g:Int->V)(x:V)(H:Hp)(Q:VK):Prop|i i(_:x=.int i)(_:Q (g i) H)
section
variable{X:Cx}{a b c:Expr}{ta tb tc:TE}{cJ:Pos}
def aeW (ha:PE X a ta)(hb:PE X b tb){aA:jw}{s:aL}{σ:St}{H:Hp}{R:V->V->Hp->Prop}(I:Inv X aA σ H s)
  (h:ta σ H λx H1=>tb σ H1 λy H2=>R x y H2) {Q:j_} {f:kc->kc->Sem kc}
  (hf:∀v u s2 x y H2,Inv X aA σ H2 s2->RelV x v->RelV y u->R x y H2->bw (bA X.prog X.w) X.A (f v u) Q X.xe s2):
  bw (bA X.prog X.w) X.A (eval a X.env) (λv ip=>bw (bA X.prog X.w) X.A (eval b X.env) (λu mR=>bw (bA X.prog X.w) X.A (f v u) Q X.xe mR) X.xe ip) X.xe s:=by
 refine jc (ha aA s σ H _ I h) λv s1 ⟨x,H1,I1,r1,q1⟩=>?_;refine jc (hb aA s1 σ H1 _ I1 q1) λu s2 ⟨y,H2,I2,r2,q2⟩=>?_;exact hf v u s2 x y H2 I2 r1 r2 q2
def aX {op:Uv}{r:R2}(ho:BA X (oy op) r)(ha:PE X a ta)(hb:PE X b tb):PE X (.BinOp a op b cJ) (tOp r ta tb):=by
 intro aA s σ H Q I h;exact wpAny_BinOp (aeW ha hb I h λv u s2 x y H2 I2 rx ry q=>ho aA s2 σ H2 x y v u Q I2 rx ry q)
def t5 {op:UnaryOp}{r:V->Hp->VK->Prop}(ho:UnR X (unaryOp op) r)(ha:PE X a ta):PE X (.UnaryOp op a cJ) (tUn r ta):=by
 intro aA s σ H Q I h;exact UnaryOp_ (jc (ha aA s σ H _ I h) λv s1 ⟨x,H1,I1,r1,q1⟩=>ho aA s1 σ H1 x v Q I1 r1 q1)
def opI {f:kc->kc->Sem kc}{C:Int->Int->Prop}{g:Int->Int->Int}
  (rule:∀(i j:Int) (t u:Tok) (s:aL) (Q:j_) (E:j_),C i j->Q (.int (g i j) s.toks) {s with toks:=s.toks+1}->bw (bA X.prog X.w) X.A (f (.int i t) (.int j u)) Q E s):
  BA X f (rI C λi j=>.int (g i j)):=by
 intro aA s σ H x y v u Q I rx ry h;obtain⟨i,j,rfl,rfl,hc,q⟩:=h;obtain⟨t,rfl⟩:=rx;obtain⟨t',rfl⟩:=ry;exact rule i j t t' s _ _ hc ⟨.int (g i j),H,I.tok _,⟨_,Z⟩,q⟩
def aca {f:kc->kc->Sem kc}{g:Int->Int->Int}
  (rule:∀(i j:Int) (t u:Tok) (s:aL) (Q:j_) (E:j_),Q (.int (g i j) s.toks) {s with toks:=s.toks+1}->bw (bA X.prog X.w) X.A (f (.int i t) (.int j u)) Q E s):
  BA X f (Zb λi j=>.int (g i j)):=by
 intro aA s σ H x y v u Q I rx ry h;obtain⟨i,j,rfl,rfl,q⟩:=h;obtain⟨t,rfl⟩:=rx;obtain⟨t',rfl⟩:=ry;exact rule i j t t' s _ _ ⟨.int (g i j),H,I.tok _,⟨_,Z⟩,q⟩
def ab9 {f:kc->kc->Sem kc}{g:Int->Int->Bool}
  (rule:∀(i j:Int) (t u:Tok) (s:aL) (Q:j_) (E:j_),Q (.bool (g i j)) s->bw (bA X.prog X.w) X.A (f (.int i t) (.int j u)) Q E s):
  BA X f (Zb λi j=>.bl (g i j)):=by
 intro aA s σ H x y v u Q I rx ry h;obtain⟨i,j,rfl,rfl,q⟩:=h;obtain⟨t,rfl⟩:=rx;obtain⟨t',rfl⟩:=ry;exact rule i j t t' s _ _ ⟨.bl (g i j),H,I,Z,q⟩
def amm (i j:Int):Prop:=0<j/\j<1073741824
def amn (i j:Int):Prop:=0<=j/\j<=1000000/\i.natAbs<2^64
def aeC (i j:Int):Prop:=(-(2^64)<i/\i<2^64)\/(-(2^64)<j/\j<2^64)
def aeC.ok {i j:Int}(h:aeC i j):IntMulOk i j:=by
 rcases h with⟨h1,h2⟩|⟨h1,h2⟩
 .exact .of_left (intBits_le_64 h1 h2)
 .exact .of_right (intBits_le_64 h1 h2)
def SG (k:Nat):(0:Int)<=2^k:=by
 rw[two_pow_cast];exact jF _
def dz:BA X (oy .Add) (Zb λi j=>.int (i+j)):=aca λ_ _ _ _ _ _ _ q=>add_int q
def gw:BA X (oy .Sub) (Zb λi j=>.int (i-j)):=aca λ_ _ _ _ _ _ _ q=>sub_int q
def fQ:BA X (oy .Mult) (rI aeC λi j=>.int (i*j)):=opI λ_ _ _ _ _ _ _ hc q=>mul_int q hc.ok
def jJ:BA X (oy .FloorDiv) (rI amm λi j=>.int (i / j)):=opI λi j _ _ _ _ _ hc q=>by
 have h1:(0:Int)<j:=hc.1;have h2:j<1073741824:=hc.2;exact floordiv_int (by lia) (by rw[cv i (by lia)];exact q) (.inl (Oe (by lia)))
def pX:BA X (oy .Mod) (rI (λ_ j=>0<j) λi j=>.int (i%j)):=opI λi j _ _ _ _ _ hc q=>by
 have h1:(0:Int)<j:=hc;exact mod_int' (by lia) (by rw[Int.fmod_eq_emod_of_nonneg i (by lia)];exact q)
def uF:BA X (oy .LShift) (rI amn λi j=>.int (i*2^j.toNat)):=opI λ_ _ _ _ _ _ _ hc q=>lshift_int_small hc.1 hc.2.1 hc.2.2 q
def sY:BA X (oy .RShift) (rI (λ_ j=>0<=j) λi j=>.int (i / 2^j.toNat)):=opI λi j _ _ _ _ _ hc q=>
 rshift_int hc (by rw[cv i (SG _)];exact q)
def YV:BA X (oy .BitAnd) (Zb λi j=>.int (Builtin.bitAnd i j)):=aca λ_ _ _ _ _ _ _ q=>and_int q
def R3:BA X (oy .BitXor) (Zb λi j=>.int (Builtin.bitXor i j)):=aca λ_ _ _ _ _ _ _ q=>xor_int q
def unI {f:kc->Sem kc}{g:Int->Int}
  (rule:∀(i:Int) (t:Tok) (s:aL) (Q:j_) (E:j_),Q (.int (g i) s.toks) {s with toks:=s.toks+1}->bw (bA X.prog X.w) X.A (f (.int i t)) Q E s):
  UnR X f (rU λi=>.int (g i)):=by
 intro aA s σ H x v Q I rx h;obtain⟨i,rfl,q⟩:=h;obtain⟨t,rfl⟩:=rx;exact rule i t s _ _ ⟨.int (g i),H,I.tok _,⟨_,Z⟩,q⟩
def pw:UnR X (unaryOp .USub) (rU λi=>.int (-i)):=unI λ_ _ _ _ _ q=>neg_int q
end
def akj:V->V->Bool
 |.gQ,.gQ=>true|.gQ,.int _=>true|.int _,.gQ=>true|.gQ,.bl _=>true|.bl _,.gQ=>true|.gQ,.str _=>true|.str _,.gQ=>true
 |.int _,.int _=>true|.bl _,.bl _=>true|.str _,.str _=>true|.EC _,.EC _=>true
 |.int _,.str _=>true|.str _,.int _=>true|.bl _,.str _=>true|.str _,.bl _=>true
 |_,_=>false
def rEq:R2:=λx y H Q=>akj x y=true/\Q (.bl (decide (x=y))) H
def rNe:R2:=λx y H Q=>akj x y=true/\Q (.bl (!decide (x=y))) H
def Th {i j:Int}:decide (V.int i=V.int j)=(i==j):=by
 rw[zy];simp
def Xy {i j:Bool}:decide (V.bl i=V.bl j)=(i==j):=by
 rw[zy];simp
def Ti {i j:Str}:decide (V.str i=V.str j)=(i==j):=by
 rw[zy];simp
def Tg {i j:Array UInt8}:decide (V.EC i=V.EC j)=(i.toList==j.toList):=by
 rw[zy];cases i;cases j;simp
section
variable{X:Cx}{a b c:Expr}{ta tb tc:TE}{cJ:Pos}
def f_ {aA:jw}{σ:St}{H:Hp}{s:aL}{Q:VK}{k k':Bool}(I:Inv X aA σ H s)(q:Q (.bl k) H)(e:k=k'):EP X aA σ Q (.bool k') s:=by
 subst e;exact⟨.bl k,H,I,Z,q⟩
def lp:BA X (je .Eq) rEq:=by
 intro aA s σ H x y v u Q I rx ry h;obtain⟨hs,q⟩:=h;cases x with
 |gQ=>
  cases rx;cases y with
  |gQ=>cases ry;exact aqH (f_ I q (by simp))
  |bl j=>cases ry;exact aqF (f_ I q (by simp))
  |int j=>obtain⟨t',rfl⟩:=ry;exact aqG (f_ I q (by simp))
  |str j=>obtain⟨t',rfl⟩:=ry;exact aqI (f_ I q (by simp))
  |_=>exact absurd (show false=true from hs) bH
 |bl i=>
  cases rx;cases y with
  |gQ=>cases ry;exact aqD (f_ I q (by simp))
  |bl j=>cases ry;exact eq_bool (f_ I q Xy)
  |str j=>obtain⟨t',rfl⟩:=ry;exact amF (f_ I q (by simp))
  |_=>exact absurd (show false=true from hs) bH
 |int i=>
  obtain⟨t,rfl⟩:=rx;cases y with
  |gQ=>cases ry;exact aqE (f_ I q (by simp))
  |int j=>obtain⟨t',rfl⟩:=ry;exact eq_int (f_ I q Th)
  |str j=>obtain⟨t',rfl⟩:=ry;exact amG (f_ I q (by simp))
  |_=>exact absurd (show false=true from hs) bH
 |str i=>
  obtain⟨t,rfl⟩:=rx;cases y with
  |gQ=>cases ry;exact aqJ (f_ I q (by simp))
  |bl j=>cases ry;exact amH (f_ I q (by simp))
  |int j=>obtain⟨t',rfl⟩:=ry;exact amI (f_ I q (by simp))
  |str j=>obtain⟨t',rfl⟩:=ry;exact eq_str (f_ I q Ti)
  |_=>exact absurd (show false=true from hs) bH
 |EC i=>
  obtain⟨t,rfl⟩:=rx;cases y with
  |EC j=>obtain⟨t',rfl⟩:=ry;exact PySem.W.eq_bytes (f_ I q Tg)
  |_=>exact absurd (show false=true from hs) bH
 |_=>cases y<;>exact absurd (show false=true from hs) bH
def Aw:BA X (je .NotEq) rNe:=by
 intro aA s σ H x y v u Q I rx ry h;obtain⟨hs,q⟩:=h;cases x with
 |gQ=>
  cases rx;cases y with
  |gQ=>cases ry;exact aqO (f_ I q (by simp))
  |bl j=>cases ry;exact aqM (f_ I q (by simp))
  |int j=>obtain⟨t',rfl⟩:=ry;exact aqN (f_ I q (by simp))
  |str j=>obtain⟨t',rfl⟩:=ry;exact aqP (f_ I q (by simp))
  |_=>exact absurd (show false=true from hs) bH
 |bl i=>
  cases rx;cases y with
  |gQ=>cases ry;exact aqK (f_ I q (by simp))
  |bl j=>cases ry;exact ne_bool (f_ I q (congrArg not Xy))
  |str j=>obtain⟨t',rfl⟩:=ry;exact amJ (f_ I q (by simp))
  |_=>exact absurd (show false=true from hs) bH
 |int i=>
  obtain⟨t,rfl⟩:=rx;cases y with
  |gQ=>cases ry;exact aqL (f_ I q (by simp))
  |int j=>obtain⟨t',rfl⟩:=ry;exact ne_int (f_ I q (congrArg not Th))
  |str j=>obtain⟨t',rfl⟩:=ry;exact amK (f_ I q (by simp))
  |_=>exact absurd (show false=true from hs) bH
 |str i=>
  obtain⟨t,rfl⟩:=rx;cases y with
  |gQ=>cases ry;exact aqQ (f_ I q (by simp))
  |bl j=>cases ry;exact amL (f_ I q (by simp))
  |int j=>obtain⟨t',rfl⟩:=ry;exact amM (f_ I q (by simp))
  |str j=>obtain⟨t',rfl⟩:=ry;exact ne_str (f_ I q (congrArg not Ti))
  |_=>exact absurd (show false=true from hs) bH
 |EC i=>
  obtain⟨t,rfl⟩:=rx;cases y with
  |EC j=>obtain⟨t',rfl⟩:=ry;exact PySem.W.ne_bytes (f_ I q (congrArg not Tg))
  |_=>exact absurd (show false=true from hs) bH
 |_=>cases y<;>exact absurd (show false=true from hs) bH
def Fc:BA X (je .Lt) (Zb λi j=>.bl (decide (i<j))):=ab9 λ_ _ _ _ _ _ _ q=>lt_int q
def LD:BA X (je .LtE) (Zb λi j=>.bl (decide (i<=j))):=ab9 λ_ _ _ _ _ _ _ q=>le_int q
def Jb:BA X (je .Gt) (Zb λi j=>.bl (decide (j<i))):=ab9 λ_ _ _ _ _ _ _ q=>gt_int q
def YW:BA X (je .GtE) (Zb λi j=>.bl (decide (j<=i))):=ab9 λ_ _ _ _ _ _ _ q=>ge_int q
def RV (b:Expr){op:CmpOp}(h:autoParam (op≠.In) Z_d)(h2:autoParam (op≠.NotIn) Z_d):pR op b=false:=by
 have e1:(op==CmpOp.In)=false:=by cases op<;>first|rfl|exact absurd rfl h
 have e2:(op==CmpOp.NotIn)=false:=by cases op<;>first|rfl|exact absurd rfl h2
 cases b<;>simp[pR,e1,e2]
def T_ {op:CmpOp}{r:R2}(ho:BA X (je op) r)(ha:PE X a ta)(hb:PE X b tb)(hm:pR op b=false):PE X (.Compare a [op] [b] cJ) (tOp r ta tb):=by
 intro aA s σ H Q I h;exact wpAny_Compare1 (aeW ha hb I h λv u s2 x y H2 I2 rx ry q=>ho aA s2 σ H2 x y v u Q I2 rx ry q) hm
inductive agT (Q:Bool->Hp->Prop)(x:V)(H':Hp):Prop|i k(_:x=.bl k)(_:Q k H')
def aeo (t:TE):TT:=λσ H Q=>t σ H (agT Q)
def Ud {op:CmpOp}{r:R2}(ho:BA X (je op) r)(ha:PE X a ta)(hb:PE X b tb)(hm:pR op b=false):PT X (.Compare a [op] [b] cJ) (aeo (tOp r ta tb)):=by
 intro aA s σ H Q I h;refine adk (jc (ha aA s σ H _ I h) λv s1 ⟨x,H1,I1,r1,q1⟩=>jc (hb aA s1 σ H1 _ I1 q1) λu s2 ⟨y,H2,I2,r2,q2⟩=>
  jc (ho aA s2 σ H2 x y v u _ I2 r1 r2 q2) λc s3 ⟨z,H3,I3,r3,k,e,q3⟩=>?_) hm
 subst e;cases r3;exact kr ⟨H3,I3,q3⟩
inductive acX (r':R2)(tc:TE)(σ:St)(Q:VK)(y:V)(z:V)(H3:Hp):Prop|i k(_:z=.bl k)(_:if k=true then tc σ H3 λw' H4=>r' y w' H4 Q else Q (.bl false) H3)
def agL (r r':R2)(ta tb tc:TE):TE:=λσ H Q=>ta σ H λx H1=>tb σ H1 λy H2=>r x y H2 (acX r' tc σ Q y)
def PU {op op':CmpOp}{r r':R2}(ho:BA X (je op) r)(WD:BA X (je op') r')(ha:PE X a ta)(hb:PE X b tb)(hc:PE X c tc)
  (hm:lastMarks [op,op'] [b,c]=false:=by with_unfolding_all rfl):PE X (.Compare a [op,op'] [b,c] cJ) (agL r r' ta tb tc):=by
 intro aA s σ H Q I h;refine Compare_chain (jc (ha aA s σ H _ I h) λv s1 ⟨x,H1,I1,r1,q1⟩=>chain_link (jc (hb aA s1 σ H1 _ I1 q1) λu s2 ⟨y,H2,I2,r2,q2⟩=>
  jc (ho aA s2 σ H2 x y v u _ I2 r1 r2 q2) λd s3 ⟨z,H3,I3,r3,k,e,q3⟩=>?_)) hm
 subst e;cases r3;refine kr ?_;cases k with
 |false=>exact ite_ff ⟨.bl false,H3,I3,Z,q3⟩
 |true=>exact ite_tt (chain_last (jc (hc aA s3 σ H3 _ I3 q3) λw' s4 ⟨z',H4,I4,r4,q4⟩=>WD aA s4 σ H4 y z' u w' Q I4 r2 r4 q4))
def aik (K:au)(x:V)(H:Hp)(k:Bool):Prop:=
 match x with
 |.gQ=>k=false
 |.bl b=>k=b
 |.int i=>k=(i !=0)
 |.str y=>y.length<=bu/\k=((y.length:Int)!=0)
 |.EC y=>y.size<=bu/\k=((y.size:Int)!=0)
 |.ref p=>(∃xs,nM K H p xs/\k= !xs.isEmpty)\/(∃xs,Mb K H p xs/\k= !xs.isEmpty)\/∃cg,H p=some (.dK cg)/\k= !cg.isEmpty
 |_=>False
def RM {κ:Type}{cg:List (κ×V)}{vs:List (κ×kc)}(r:KV cg vs):(!vs.isEmpty)= !cg.isEmpty:=by
 cases r<;>rfl
def Ip {xs:b_}{dg:gS}(r:Vals xs dg):(!dg.toArray.isEmpty)= !xs.isEmpty:=by
 cases r<;>simp
def IB:(bu:Nat)<2^63:=by rw[aE];decide
def agW:amQ X (λx H Q=>∃k,aik X.K x H k/\Q k H):=by
 intro aA s σ H x v Q I rx h;obtain⟨k,e,q⟩:=h;have hl:=IB;have hs:bu=16777216:=aE;cases x with
 |gQ=>
  cases rx;have e':k=false:=e;subst e';exact truthy_none ⟨H,I,q⟩
 |bl b=>
  cases rx;have e':k=b:=e;subst e';exact kr ⟨H,I,q⟩
 |int i=>
  obtain⟨t,rfl⟩:=rx;have e':k=(i !=0):=e;subst e';exact PySem.P.truthy_int ⟨H,I,q⟩
 |str y=>
  obtain⟨t,rfl⟩:=rx;obtain⟨hy,e'⟩:y.length<=bu/\k=((y.length:Int)!=0):=e;subst e';exact PySem.P.truthy_str (by lia) ⟨H,I.tok _,q⟩
 |EC y=>
  obtain⟨t,rfl⟩:=rx;obtain⟨hy,e'⟩:y.size<=bu/\k=((y.size:Int)!=0):=e;subst e';exact PySem.W.truthy_bytes (by lia) ⟨H,I.tok _,q⟩
 |ref p=>
  cases rx;have e':(∃xs,nM X.K H p xs/\k= !xs.isEmpty)\/(∃xs,Mb X.K H p xs/\k= !xs.isEmpty)\/∃cg,H p=some (.dK cg)/\k= !cg.isEmpty:=e;rcases e' with⟨xs,hx,e'⟩|⟨xs,hx,e'⟩|⟨cg,hx,e'⟩
  .subst e';obtain⟨dg,r,pl,hz⟩:=I.list hx;have iP:=r.length;exact wpAny_truthy_list pl.isList (by simp only[bB];lia) ⟨H,I.tok _,by rw[Ip r];exact q⟩
  .subst e';obtain⟨dg,r,pl,hz⟩:=I.tuple hx;have iP:=r.length;exact truthy_tuple pl (by simp only[bB];lia) ⟨H,I.tok _,by rw[Ip r];exact q⟩
  .subst e';obtain⟨hz,hS,vs,r,m⟩:cg.length<=bu/\(p==oA)=false/\∃vs,KV cg vs/\s.heap.DictOf (lK X.prog X.w) p vs:=I.fV p _ hx;have iP:cg.length=vs.length:=Paired.length r;exact wpAny_truthy_dict hS m (by lia) ⟨H,I.tok _,by rw[RM r];exact q⟩
 |_=>exact(show False from e).elim
def Za (ha:PE X a ta)(he:∀JG,aaW a X.env JG=(do let v<-JG;BN a.pos;vt [v] (truthy v))):
  PT X a (λσ H Q=>ta σ H λx H'=>∃k,aik X.K x H' k/\Q k H'):=by
 intro aA s σ H Q I h;exact isTrue_plain (jc (ha aA s σ H _ I h) λv s1 ⟨x,H1,I1,r1,q1⟩=>agW aA s1 σ H1 x v Q I1 r1 q1) (he _)
def vals1 {x:V}{us:gS}(r:Vals [x] us):∃u,us=[u]/\RelV x u:=by
 cases r with
 |cons r1 r2=>cases r2;exact⟨_,Z,r1⟩
def vals2 {x y:V}{us:gS}(r:Vals [x,y] us):∃u w',us=[u,w']/\RelV x u/\RelV y w':=by
 cases r with
 |cons r1 r2=>
  cases r2 with
  |cons r3 r4=>cases r4;exact⟨_,_,Z,r1,r3⟩
def K_ (hc:X.calm=true):Er X (.builtin "max") (λxs H Q=>∃i j,xs=[.int i,.int j]/\Q (.int (if j>i then j else i)) H):=by
 intro aA s σ H xs us Q I r h;obtain⟨i,j,rfl,q⟩:=h;obtain⟨u,w',rfl,⟨t,rfl⟩,⟨t',rfl⟩⟩:=vals2 r;refine max_two_ints (I.ok.hd hc) λh' tk k=>⟨_,H,I.kept k,?_,q⟩;by_cases hj:j>i
 .rw[aj hj,aj hj];exact⟨_,Z⟩
 .rw[ah hj,ah hj];exact⟨_,Z⟩
def oq (hc:X.calm=true):Er X (.builtin "min") (λxs H Q=>∃i j,xs=[.int i,.int j]/\Q (.int (if j<i then j else i)) H):=by
 intro aA s σ H xs us Q I r h;obtain⟨i,j,rfl,q⟩:=h;obtain⟨u,w',rfl,⟨t,rfl⟩,⟨t',rfl⟩⟩:=vals2 r;refine min_two_ints (I.ok.hd hc) λh' tk k=>⟨_,H,I.kept k,?_,q⟩;by_cases hj:j<i
 .rw[aj hj,aj hj];exact⟨_,Z⟩
 .rw[ah hj,ah hj];exact⟨_,Z⟩
end
open PySem PySem.Spec PyProof.Rows
structure QJ (h:Heap)(x dx C:lQ)(mA:sM):Prop where
 obj:h.get? x=some (jL C dx)
 ns:h.Ns1 dx mA
 ne:dx≠x
def Vv {h:Heap}{dx:lQ}{mA:sM}(n:h.Ns1 dx mA):∃od,h.get? dx=some od/\∀name,zG name od=some (mA name):=by
 obtain⟨o,es,ep,ho,hd,hk,_,hm⟩:=n;refine⟨o,ho,λname=>?_⟩;have e:=hm name;unfold nsFind findBy at e;rw[<-WS] at e;unfold zG;rw[hd];dsimp only;split
 .rename_i y q;rw[q] at e;exact congrArg some e
 .rename_i q;rw[q] at e;have a:es.toList.any (·.refKey)=false:=by
   rw[List.any_eq_false];intro y hy;obtain⟨z,t,Yb⟩:=hk y (Array.mem_toList_iff.mp hy);simp[DictEntry.refKey,Yb]
  have a':¬es.toList.any (·.refKey)=true:=by rw[a];exact bH
  rw[ah a'];exact congrArg some e
def QJ.look {h:Heap}{x dx C:lQ}{mA:sM}(I:QJ h x dx C mA):∃od,PySem.W.InstAt h x (jL C dx) C (some od)/\∀name,zG name od=some (mA name):=
 let ⟨od,ho,hl⟩:=Vv I.ns
 ⟨od,⟨I.obj,Z,Z,ho⟩,hl⟩
section
variable{prog:bJ}{w:cA}{A:Around}{E:j_}{s:aL}{K:au}{x dx C f:lQ}{mA:sM}{name:Str}{v:kc}
def get_map {Rn:Bool}{Q:j_}(X:K.In s.heap)(I:QJ s.heap x dx C mA)(hg:vK K C name=true)(hh:DF K C=true)
  (ha:ik K (.ref C) name=some none) (hv:mA name=some v) (hv':Xa v=true) (h:Q v {s with toks:=s.toks+1}):
  bw (bA prog w) A (aaV (.ref x) name Rn) Q E s:=by
 obtain⟨od,J,hl⟩:=I.look;exact PySem.W.get_value X J (AO hg).1 (PySem.W.findObj_own hh ha rfl (by rw[hl,hv])) hv' h
def XU {pl:Sem Bool}{Q:kc×List kc->aL->Prop}(X:K.In s.heap)(I:QJ s.heap x dx C mA)(hg:vK K C name=true)
  (hf:ik K (.ref C) name=some (some (.ref f))) (ht:xj K (.ref f)=true) (hv:mA name=none) (h:Q (.ref f,[.ref x]) s):
  bw (bA prog w) A (wC (.ref x) name pl) Q E s:=by
 obtain⟨od,J,hl⟩:=I.look;exact PySem.W.method_fn X J (AO hg).1 (AO hg).2 hf (beq_iff_eq.mp ht) (by show(zG name od).map (·.isSome)=some false;rw[hl,hv];rfl) h
def acw {ns:mX}{Q:Unit->aL->Prop}(X:K.In s.heap)(I:QJ s.heap x dx C mA)
  (hs:ik K (.ref C) "__setattr__"=some (some (.builtin "object.__setattr__"))) (hp:Wu K C=true) (ht:He K C name=some none) (hh:DF K C=true)
  (hw:Fz mA ns) (hsz:ns.length<=bu)
  (h:∀h',QJ h' x dx C (λy=>if y=name then some v else mA y)->Heap.SameBut dx s.heap h'->Q () {s with heap:=h',toks:=s.toks+2}):
  bw (bA prog w) A (setAttr (.ref x) name v) Q E s:=by
 obtain⟨od,J,hl⟩:=I.look;refine PySem.W.set_plain X J hs (PySem.W.osa_open (s:={s with toks:=s.toks+1}) (r:=none) X J hp ht λb=>?_);obtain⟨cd,hc,hd'⟩:=PySem.W.any_some hh;have hx:s.heap.get? x=some ⟨.ref C,some dx,.plain,#[]⟩:=I.obj;refine aR (bV (aR (aR (wpAny_loadPart hx (aR (amN (s:={s with toks:=s.toks+1}) (PySem.W.looks_clsIn X hc) ?_))))));rw[hd'];refine bV (a:=some dx) (aR (bV (aR ?_)));refine wpAny_nsSet1 (s:={s with toks:=s.toks+1}) I.ns λh' hn2 Kx=>?_;obtain⟨oD,esD,epD,hoD,hdD,hcD⟩:=hn2.count (aqR name v hw);refine aR (amj hoD (by rw[hdD];exact amg (bt hcD (by rw[aZ];lia))) ?_);exact bV (h _ ⟨(Kx.2 _ (eP I.ne)).trans I.obj,hn2,I.ne⟩ Kx)
def YF {R:Result->aL->Prop}{vs:gS}{kw:List (Str×kc)}(X:K.In s.heap)(hm:aaw K C=true)
  (hi:ik K (.ref C) "__init__"=some (some (.ref f))) (hf:abe K (.ref f)=some (.type "function"))
  (h:vq (bA prog w) (A.under (.builtin "type.__call__" ⟨.ref C::vs,kw⟩)) (.call (.ref f) ⟨.ref (s.heap.objs.size+1)::vs,kw⟩) (PySem.W.InitBack (s.heap.objs.size+1) R)
   {s with heap:=(s.heap.push gB).push (jL C s.heap.objs.size)}):
  vq (bA prog w) A (.call (.ref C) ⟨vs,kw⟩) R s:=by
 obtain⟨hh,g,d,t,os⟩:=s;exact PySem.W.make_core (PySem.W.makes_of X hm) (PySem.W.looks_findIn X hi) (λself=>PySem.W.bind_fn X self hf) (.inl rfl) h
end
def vj (f:Str)(v:V):List (Str×V)->List (Str×V)
 |[]=>[(f,v)]
 |(g,x)::r=>if g=f then(g,v)::r else(g,x)::vj f v r
theorem yx (f g:Str)(v:V):∀fs:List (Str×V),(vj f v fs).lookup g=if g=f then some v else fs.lookup g
 |[]=>by
  show lB g [(f,v)]=_;by_cases h:g=f
  .have hb:(g==f)=true:=beq_iff_eq.mpr h;simp only[lB,hb,aj h]
  .have hb:(g==f)=false:=beq_eq_false_iff_ne.mpr h;simp only[lB,hb,ah h]
 |(k,x)::r=>by
  have ih:=yx f g v r;rw[show vj f v ((k,x)::r)=(if k=f then(k,v)::r else(k,x)::vj f v r) from rfl];by_cases hk:k=f
  .rw[aj hk];by_cases h:g=k
   .have hb:(g==k)=true:=beq_iff_eq.mpr h;simp only[lB,hb,aj (h.trans hk)]
   .have hb:(g==k)=false:=beq_eq_false_iff_ne.mpr h;simp only[lB,hb,ah (λe:g=f=>h (e.trans hk.symm))]
  .rw[ah hk];by_cases h:g=k
   .have hb:(g==k)=true:=beq_iff_eq.mpr h;simp only[lB,hb,ah (λe:g=f=>hk (h.symm.trans e))]
   .have hb:(g==k)=false:=beq_eq_false_iff_ne.mpr h;simp only[lB,hb];exact ih
theorem u6 (f:Str)(v:V):∀fs:List (Str×V),f∈(vj f v fs).map (·.1)/\∀g,g∈fs.map (·.1)->g∈(vj f v fs).map (·.1)
 |[]=>⟨by simp[vj],λg h=>by simp at h⟩
 |(k,x)::r=>by
  obtain⟨i1,i2⟩:=u6 f v r;rw[show vj f v ((k,x)::r)=(if k=f then(k,v)::r else(k,x)::vj f v r) from rfl];by_cases hk:k=f
  .rw[aj hk];subst hk;exact⟨by simp,λg h=>by simpa using h⟩
  .rw[ah hk];refine⟨?_,λg h=>?_⟩
   .rw[cz];exact aP _ i1
   .rw[cz] at h|-
    rcases bo.mp h with e|e
    .exact bo.mpr (.inl e)
    .exact aP _ (i2 g e)
theorem EM (f:Str)(v:V):∀fs:List (Str×V),(vj f v fs).length<=fs.length+1
 |[]=>by simp[vj]
 |(k,x)::r=>by
  have ih:=EM f v r;rw[show vj f v ((k,x)::r)=(if k=f then(k,v)::r else(k,x)::vj f v r) from rfl];by_cases hk:k=f
  .rw[aj hk,aZ,aZ];lia
  .rw[ah hk,aZ,aZ];lia
def ur.some_of {v:V}{o:Option kc}(r:ur (some v) o):∃u,o=some u/\RelV v u:=by
 cases o with
 |none=>exact(show False from r).elim
 |some u=>exact⟨u,Z,r⟩
def ur.none_of {o:Option kc}(r:ur none o):o=none:=by
 cases o with
 |none=>rfl
 |some u=>exact(show False from r).elim
def Ln {v:V}{u:kc}(r:RelV v u):Xa u=true:=by
 cases v with
 |gQ=>cases(show u=Value.none from r);rfl
 |bl b=>cases(show u=Value.bool b from r);rfl
 |int i=>obtain⟨t,e⟩:=(show∃t,u=Value.int i t from r);cases e;rfl
 |str x=>obtain⟨t,e⟩:=(show∃t,u=Value.str x t from r);cases e;rfl
 |EC b=>obtain⟨t,e⟩:=(show∃t,u=Value.bytes b t from r);cases e;rfl
 |flt b=>obtain⟨t,e⟩:=(show∃t,u=Value.float b t from r);cases e;rfl
 |ref a=>cases(show u=Value.ref a from r);rfl
 |ty n=>cases(show u=Value.type n from r);rfl
section
variable{P:bJ}{w:cA}{H H':Hp}{h h':Heap}{a C dx:lQ}{fs fs':List (Str×V)}
def MW (fV:wI P w H h)(e:H a=some (.ins C dx fs)):∃mA,QJ h a dx C mA/\(∀f,ur (fs.lookup f) (mA f))/\Fz mA (fs.map (·.1))/\fs.length<=1000/\H dx=some (.own a):=by
 obtain⟨d,z,ne,ob,mA,n,r,q⟩:=(show jq P w H h a (.ins C dx fs) from fV a _ e);exact⟨mA,⟨ob,n,ne⟩,r,q,z,d⟩
end
structure Cls (K:au)(C:lQ):Prop where
 pg:vK K C Str.empty=true
 hd:DF K C=true
 po:Wu K C=true
 sa:ik K (.ref C) "__setattr__"=some (some (.builtin "object.__setattr__"))
def Cls.get {K:au}{C:lQ}(c:Cls K C)(f:Str):vK K C f=true:=c.pg
def G8 (K:au)(C:lQ)(f:Str):Prop:=ik K (.ref C) f=some none
def G8.akM {K:au}{C:lQ}{f:Str}(n:G8 K C f):He K C f=some none:=by
 unfold He;rw[show ik K (.ref C) f=some none from n];rfl
structure Meth (K:au)(C:lQ)(m:Str)(f:lQ):Prop where
 at_:ik K (.ref C) m=some (some (.ref f))
 fn:xj K (.ref f)=true
 kp:il K (.ref f)=true
section
variable{X:Cx}{aA:jw}{σ:St}{H:Hp}{s:aL}{a C dx:lQ}{fs:List (Str×V)}{f:Str}{v:V}{A:Around}{E:j_}
def Ic {b:Bool}{Q:j_}(I:Inv X aA σ H s)(e:H a=some (.ins C dx fs))(c:Cls X.K C)(n:G8 X.K C f)(l:fs.lookup f=some v)
  (h:∀u s',Inv X aA σ H s'->RelV v u->Q u s'):bw (bA X.prog X.w) A (aaV (.ref a) f b) Q E s:=by
 obtain⟨mA,O,r,_,_,_⟩:=MW I.fV e;obtain⟨u,hu,ru⟩:=ur.some_of (v:=v) (o:=mA f) (by rw[<-l];exact r f);exact get_map I.zb O (c.get f) c.hd n hu (Ln ru) (h u _ (I.tok _) ru)
def Bb {m:Str}{g:lQ}{pl:Sem Bool}{Q:kc×List kc->aL->Prop}(I:Inv X aA σ H s)(e:H a=some (.ins C dx fs))(c:Cls X.K C)(k:Meth X.K C m g)(l:fs.lookup m=none)
  (h:Q (.ref g,[.ref a]) s):bw (bA X.prog X.w) A (wC (.ref a) m pl) Q E s:=by
 obtain⟨mA,O,r,_,_,_⟩:=MW I.fV e;have hn:mA m=none:=ur.none_of (by rw[<-l];exact r m);exact XU I.zb O (c.get m) k.at_ k.fn hn h
def Ju {y:V}{u:kc}{Q:Unit->aL->Prop}(I:Inv X aA σ H s)(e:H a=some (.ins C dx fs))(c:Cls X.K C)(n:G8 X.K C f)(hl:fs.length<1000)(ry:RelV y u)
  (h:∀s',Inv X aA σ (upd H a (.ins C dx (vj f y fs))) s'->Q () s'):bw (bA X.prog X.w) A (setAttr (.ref a) f u) Q E s:=by
 obtain⟨mA,O,r,wi,_,ho⟩:=MW I.fV e;have hz:(fs.map (·.1)).length<=bu:=by rw[aB,aE];lia
 refine acw I.zb O c.sa c.po n.akM c.hd wi hz λh' O' sb=>h _ ?_;have hd:∃o,h'.get? dx=some o:=let ⟨o,_,_,e',_⟩:=O'.ns;⟨o,e'⟩;refine I.write (x:=a) (e:=dx) (by rw[e];exact m7) (.inr ho) (λb q hb z=>(sb.2 b hb).trans z) hd ?_;refine⟨by rw[aF O.ne];exact ho,?_,O.ne,O'.obj,_,O'.ns,λg=>?_,λg hg=>?_⟩
 .have:=EM f y fs;lia
 .show ur ((vj f y fs).lookup g) (if g=f then some u else mA g);rw[yx];by_cases q:g=f
  .rw[aj q,aj q];exact ry
  .rw[ah q,ah q];exact r g
 .by_cases q:g=f
  .rw[q];exact(u6 f y fs).1
  .refine(u6 f y fs).2 g (wi g λz=>hg ?_);show(if g=f then some u else mA g)=none;rw[ah q];exact z
def Inv.made (I:Inv X aA σ H s):Inv X aA σ (upd (upd H s.heap.objs.size (.own (s.heap.objs.size+1))) (s.heap.objs.size+1) (.ins C s.heap.objs.size []))
  {s with heap:=(s.heap.push gB).push (jL C s.heap.objs.size)}:=by
 have e1:(s.heap.push gB).get? s.heap.objs.size=some gB:=Heap.get?_push_size s.heap rfl;have e2:((s.heap.push gB).push (jL C s.heap.objs.size)).get? (s.heap.objs.size+1)=some (jL C s.heap.objs.size):=by
  have:=Heap.get?_push_size (s.heap.push gB) (o:=jL C s.heap.objs.size) rfl
  rwa [Heap.size_push] at this
 have e3:(s.heap.push gB).Ns s.heap.objs.size (λ_=>none):=⟨gB,#[],_,e1,Z,(λe he=>absurd he (by simp)),λ_=>rfl⟩;have I1:=I.laid (a:=s.heap.objs.size) (o:=.own (s.heap.objs.size+1)) (h':=s.heap.push gB) (t':=s.toks) (λb u q=>Heap.get?_push_of_some _ q) (bq _) ⟨_,e1⟩;refine I1.laid (a:=s.heap.objs.size+1) (o:=.ins C s.heap.objs.size []) (t':=s.toks) (λb u q=>Heap.get?_push_of_some _ q) (f7 (Heap.size_push _ _)) ?_;have ne:s.heap.objs.size≠s.heap.objs.size+1:=cG (ij _);refine⟨by rw[aF ne,aq],eT _,ne,e2,λ_=>none,(Heap.Ns1.of_empty e3).at λo q=>Heap.get?_push_of_some _ q,λ_=>m7,λy hy=>absurd rfl hy⟩
def Tc {prog:bJ}{w:cA}{env:Env}{e:Expr}{f:Str}{cJ:Pos}{s:aL}{Q:j_}(hb:mT e f env (eval e env)=eval e env)
  (h:bw (bA prog w) A (eval e env) (λo ip=>bw (bA prog w) A (aaV o f true) Q E ip) E s):bw (bA prog w) A (eval (.Attribute e f cJ) env) Q E s:=
 Attribute_any_ h (by rw[arm_eval_Attribute,hb])
end
def ah7 (X:Cx)(op:Uv)(rd:V->V->Hp->VK->Prop):Prop:=
 ∀(aA:jw) (s:aL) (σ:St) (H:Hp) (x y:V) (u v:kc) (Q:VK),Inv X aA σ H s->RelV x u->RelV y v->rd x y H Q->bw (bA X.prog X.w) X.A (inplaceOp op u v) (EP X aA σ Q) X.xe s
section
variable{X:Cx}{o e iW:Expr}{f:Str}{cJ xu JB:Pos}{ta tv:TE}
inductive apz (x:V)(y:V)(H:Hp)(Q:VK):Prop|i i j(_:x=.int i)(_:y=.int j)(_:Q (.int (i+j)) H)
def Yt:ah7 X .Add apz:=by
 rintro aA s σ H x y u v Q I rx ry ⟨i,j,rfl,rfl,q⟩;obtain⟨t,rfl⟩:=(show∃t,u=Value.int i t from rx);obtain⟨t',rfl⟩:=(show∃t',v=Value.int j t' from ry);exact aqC ⟨.int (i+j),H,I.tok _,⟨_,Z⟩,q⟩
def adY {pl:Sem Bool}{m:Str}{kM:Pos}{args:Fw}{aA:jw}{s:aL}{σ:St}{H:Hp}{Q:j_}{te:TE}(he:PE X e te)(I:Inv X aA σ H s)
  (h:te σ H λx H1=>∃a C dx fs g,x=.ref a/\H1 a=some (.ins C dx fs)/\Cls X.K C/\Meth X.K C m g/\fs.lookup m=none/\
   ∀s1,Inv X aA σ H1 s1->bw (bA X.prog X.w) X.A (Fq cJ (.ref g) [.ref a] (m9 cJ (dv args X.env)) (w_ cJ (oz [] X.env))) Q X.xe s1)
  (ht:eval (.Call (.Attribute e m kM) args [] cJ) X.env=(do
   let ov<-eval e X.env
   BN kM.atName
   let (f,first)<-vt [ov] (wC ov m pl)
   Fq cJ f first (m9 cJ (dv args X.env)) (w_ cJ (oz [] X.env)))):
  bw (bA X.prog X.w) X.A (eval (.Call (.Attribute e m kM) args [] cJ) X.env) Q X.xe s:=by
 refine qf (pl:=pl) (jc (he aA s σ H _ I h) λu s1 ⟨x,H1,I1,rx,a,C,dx,fs,g,ex,ea,c,k,l,q⟩=>?_) ht;subst ex;obtain rfl:u=Value.ref a:=rx;exact Bb I1 ea c k l (q s1 I1)
end
section
variable{X:Cx}{aA:jw}{σ:St}{H:Hp}{s:aL}{A:Around}{E:j_}{Q:j_}{c:kc}{b:Bool}
end
open PySem PySem.Spec PyProof.Rows
structure lC (k:Nat)(A:Around):Prop where
 hd:A.handled=none
 dp:A.depth+3*k+5<Uz
 un:A.units+16*k+200<L0
def lC.mono {j k:Nat}{A:Around}(r:lC k A)(h:j<=k):lC j A:=⟨r.hd,by have:=r.dp;lia,by have:=r.un;lia⟩
def lC.deeper {k:Nat}{A:Around}(r:lC (k+1) A)(env:Env):lC k (A.deeper env):=
 ⟨r.hd,by have:=r.dp;show A.depth+1+3*k+5<_;lia,by have:=r.un;show A.units+3+16*k+200<_;lia⟩
def ID {A:Around}{C:lQ}{us:gS}{kw:List (Str×kc)}:(A.under (.builtin "type.__call__" ⟨.ref C::us,kw⟩)).depth=A.depth+1:=by
 first|rfl|simp[Around.under,Code.weight,Code.isCreation,Code.isGuard,Code.isCaller,Code.frames,Code.isFrame,guardIds]
def IE {A:Around}{C:lQ}{us:gS}{kw:List (Str×kc)}:(A.under (.builtin "type.__call__" ⟨.ref C::us,kw⟩)).units=A.units+1:=by
 first|rfl|simp[Around.under,Code.cUnits,Code.frames,Code.isFrame]
def lC.make {k:Nat}{A:Around}(r:lC (k+1) A)(C:lQ)(us:gS)(kw:List (Str×kc)):lC k (A.under (.builtin "type.__call__" ⟨.ref C::us,kw⟩)):=
 ⟨r.hd,by have:=r.dp;rw[ID];lia,by have:=r.un;rw[IE];lia⟩
def lC.depth {k:Nat}{A:Around}(r:lC k A):A.depth<Uz:=by have:=r.dp;lia
def lC.units {k:Nat}{A:Around}(r:lC k A):A.units+64<L0:=by have:=r.un;lia
def Gp:TA:=λ_ H Q=>Q [] H
def Jy (ta:TE)(tr:TA):TA:=λσ H Q=>ta σ H λx H1=>tr σ H1 λxs H2=>Q (x::xs) H2
section
variable{X:Cx}{e:Expr}{es:Fw}{te:TE}{t:TA}{cJ:Pos}
def ax:PA X [] Gp:=λ_ _ _ _ H Q I h=>Calls.spliced_nil ⟨[],H,I,.nil,h⟩
def ak (ha:PE X e te)(hr:PA X es t)(hs:autoParam (Sm X e es) Z_r):PA X (e::es) (Jy te t):=by
 intro cJ aA s σ H Q I h;rw[hs];show bw _ _ (spliced ((false,eval e X.env)::m9 cJ (dv es X.env))) _ _ s;refine Calls.spliced_cons (jc (ha aA s σ H _ I h) λu s1 ⟨x,H1,I1,r1,q1⟩=>?_);exact jc (hr cJ aA s1 σ H1 _ I1 q1) λus s2 ⟨xs,H2,I2,r2,q2⟩=>⟨x::xs,H2,I2,.cons r1 r2,q2⟩
def aqg (t:TA):TE:=λσ H Q=>t σ H λxs H1=>xs.length<=bu/\∀p,H1 p=none->Q (.ref p) (upd H1 p (.tup xs))
def aqc (t:TA):TE:=λσ H Q=>t σ H λxs H1=>xs.length<=bu/\∀p,H1 p=none->Q (.ref p) (upd H1 p (.lst xs))
def sZ {x1}(h:PA X es t):PE X (.Tuple es x1 cJ) (aqg t):=by
 intro aA s σ H Q I hq;refine wpAny_Tuple_spliced (jc (h cJ aA s σ H _ I hq) λus s1 ⟨xs,H1,I1,r,z,q⟩=>⟨by rw[<-r.length];exact z,?_⟩);have hf:H1 s1.heap.objs.size=none:=I1.fV.fresh (bq _);refine⟨.ref s1.heap.objs.size,upd H1 s1.heap.objs.size (.tup xs),I1.laid (t':=s1.toks) (λb u e=>Heap.get?_push_of_some _ e) (bq _) ?_,Z,q _ hf⟩;exact⟨z,us,r,⟨_,Heap.get?_push_size _ rfl,Z,_,Z⟩⟩
def eE (h:PA X es t):PE X (.List es cJ) (aqc t):=by
 intro aA s σ H Q I hq;refine wpAny_List_spliced (jc (h cJ aA s σ H _ I hq) λus s1 ⟨xs,H1,I1,r,z,q⟩=>⟨by rw[<-r.length];exact z,?_⟩);have hf:H1 s1.heap.objs.size=none:=I1.fV.fresh (bq _);refine⟨.ref s1.heap.objs.size,upd H1 s1.heap.objs.size (.lst xs),I1.laid (t':=s1.toks) (λb u e=>Heap.get?_push_of_some _ e) (bq _) ?_,Z,q _ hf⟩;exact⟨z,us,0,r,Heap.get?_push_size _ rfl⟩
end
abbrev Sp:=b_->Hp->VK->XK->Prop
abbrev NR:=List Env->Hp->aL->XK->j_
structure J5 (P:bJ)(w:cA)(K:au)(mg:sM)(rZ:Heap)(A:Around)(outer:List Env)(s:aL)(H:Hp):Prop where
 frames:A.frames=some outer
 mod:Mod K mg rZ
 bs:∀b o,rZ.get? b=some o->s.heap.get? b=some o/\H b=none
 QR:rZ.objs.size<=s.heap.objs.size
 yq:s.heap.FunFrames rZ outer
 Qy:∀b∈F9 outer,H b=none
 fV:wI P w H s.heap
 bare:Gr s.gens
inductive CE (outer:List Env)(P:bJ)(w:cA)(H:Hp)(s:aL)(Q:VK)(u:kc)(s':aL):Prop|i v H'(_:s'.os=s.os)(_:Gr s'.gens)(_:Un (F9 outer) [] H H' s.heap s'.heap)(_:wI P w H' s'.heap)(_:RelV v u)(_:Q v H')
def CR (CX:NR)(outer:List Env)(P:bJ)(w:cA)(H:Hp)(s:aL)(Q:VK)(E:XK)(r:Result)(s':aL):Prop:=
 match r with
 |.ok (.ret u)=>CE outer P w H s Q u s'
 |.ok _=>False
 |.error e=>CX outer H s E e s'
structure lx (P:bJ)(w:cA)(K:au)(mg:sM)(rZ:Heap)(CX:NR)(k:Nat)(f:lQ)(fd:eN)(ps:mX)(sp:Sp):Prop where
 len:∀vs H Q E,sp vs H Q E->vs.length=ps.length
 run:∀(A:Around) (outer:List Env) (s:aL) (H:Hp) (args:Args) (us:gS) (vs:b_) (Q:VK) (E:XK),lC k A->J5 P w K mg rZ A outer s H->LZ s fd args (ps.zip us)->Vals vs us->sp vs H Q E->
  vq (bA P w) A (.call (.ref f) args) (CR CX outer P w H s Q E) s
def J5.make {P:bJ}{w:cA}{K:au}{mg:sM}{rZ:Heap}{A:Around}{outer:List Env}{s:aL}{H:Hp}(e:J5 P w K mg rZ A outer s H)(C:lQ)(us:gS)(kw:List (Str×kc)):
  J5 P w K mg rZ (A.under (.builtin "type.__call__" ⟨.ref C::us,kw⟩)) outer s H:=⟨by first|exact e.frames|(simpa[Around.under,Code.envs,Code.isFrame,pushEnvs] using e.frames),e.mod,e.bs,e.QR,e.yq,e.Qy,e.fV,e.bare⟩
section
variable{X:Cx}{aA:jw}{σ:St}{H:Hp}{s s':aL}
def Inv.ju (I:Inv X aA σ H s):J5 X.prog X.w X.K X.mg X.rZ X.A X.stack s H:=
 ⟨I.ok.frames,I.ok.mod,I.bs,bt I.ok.QR I.sz,I.stack,I.NG,I.fV,I.bare⟩
def Inv.after {Q:VK}{u:kc}(I:Inv X aA σ H s)(h:CE X.stack X.prog X.w H s Q u s'):EP X aA σ Q u s':=by
 obtain⟨v,H',os,bare,un,fV,r,q⟩:=h;obtain⟨hh,g,d,t,os'⟩:=s';obtain rfl:os'=s.os:=os;exact⟨v,H',I.call (h':=hh) (g':=g) (d':=d) (t':=t) (ch:=[]) un fV bare (λb z=>absurd z (by simp)),r,q⟩
end
def aem (sp:Sp)(BD:b_)(E:XK)(t:TA):TE:=λσ H Q=>t σ H λvs H1=>sp (vs++BD) H1 Q E
inductive agP (C:lQ)(m:Str)(sp:Sp)(BD:b_)(E:XK)(t:TA)(σ:St)(Q:VK)(x:V)(H1:Hp):Prop|i a dx fs(_:x=.ref a)(_:H1 a=some (.ins C dx fs))(_:fs.lookup m=none)(_:t σ H1 λvs H2=>sp (x::(vs++BD)) H2 Q E)
def Jz (C:lQ)(m:Str)(sp:Sp)(BD:b_)(E:XK)(ta:TE)(t:TA):TE:=λσ H Q=>ta σ H (agP C m sp BD E t σ Q)
def ZR (C:lQ)(sp:Sp)(BD:b_)(E:XK)(t:TA):TE:=λσ H Q=>t σ H λvs H1=>∀x dx,H1 x=none->H1 dx=none->dx≠x->
 sp (.ref x::(vs++BD)) (upd (upd H1 dx (.own x)) x (.ins C dx [])) (λv H2=>v=.gQ/\Q (.ref x) H2) E
def Binds (K:au)(fd:eN)(ps:mX)(ds:gS):Prop:=
 ∀(s:aL) (us:gS),K.In s.heap->(us++ds).length=ps.length->LZ s fd ⟨us,[]⟩ (ps.zip (us++ds))
def Binds.all {K:au}{fd:eN}{ps:mX}(h:∀us:gS,us.length=ps.length->bindArgs fd ⟨us,[]⟩=pure (ps.zip us)):Binds K fd ps []:=λs us _ hl=>by
 rw[fX] at hl|-
 exact .of_eq (h us hl)
def Passes (CX:NR)(X:Cx)(E:XK):Prop:=∀(aA:jw) (σ:St) (H:Hp) (s:aL) (e:kc) (s':aL),Inv X aA σ H s->CX X.stack H s E e s'->X.xe e s'
section
variable{X:Cx}{CX:NR}{k:Nat}{f C:lQ}{fd:eN}{ps:mX}{sp:Sp}{BD:b_}{ds:gS}{E:XK}{x m:Str}{p cJ kM:Pos}{e o:Expr}{es:Fw}{ta:TE}{t:TA}
def NA {aA:jw}{σ:St}{H:Hp}{s:aL}{Q:VK}{us:gS}{vs:b_}(F:lx X.prog X.w X.K X.mg X.rZ CX k f fd ps sp)(hr:lC k X.A)(hb:Binds X.K fd ps ds)(hd:Vals BD ds)(hx:Passes CX X E)
  (I:Inv X aA σ H s) (r:Vals vs us) (h:sp (vs++BD) H Q E):bw (bA X.prog X.w) X.A (call (.ref f) us) (EP X aA σ Q) X.xe s:=by
 have r2:Vals (vs++BD) (us++ds):=r.append hd;have hl:(us++ds).length=ps.length:=by rw[<-r2.length];exact F.len _ _ _ _ h
 refine BO (BM (F.run X.A X.stack s H ⟨us,[]⟩ (us++ds) (vs++BD) Q E hr I.ju (hb s us I.zb hl) r2 h) λr s' hq=>?_);cases r with
 |error e=>exact hx aA σ H s e s' I hq
 |ok fl=>
  cases fl with
  |ret u=>exact I.after hq
  |next=>exact dU hq
  |brk=>exact dU hq
  |cont=>exact dU hq
def acd (F:lx X.prog X.w X.K X.mg X.rZ CX k f fd ps sp)(hr:lC k X.A)(hg:Gl X x)(hm:X.mg x=some (.ref f))(hk:il X.K (.ref f)=true)(hb:Binds X.K fd ps ds)(hd:Vals BD ds)(hx:Passes CX X E)
  (ha:PA X (e::es) t) (DZ:autoParam (Dy x) Z_d) (he:autoParam (Sm X e es) Z_r) (ot:autoParam (sHb X cJ es) Z_r):
  PE X (.Call (.Name x p) (e::es) [] cJ) (aem sp BD E t):=by
 intro aA s σ H Q I h;refine fC (rT I hg hm ?_ DZ);refine lg (h₀:=X.rZ) I.ok.mod.uC hk (jc (ha cJ aA s σ H _ I h) λus s1 ⟨vs,H1,I1,r,q⟩=>⟨I1.zb,?_⟩) he ot;exact NA F hr hb hd hx I1 r q
def acg {pl:Sem Bool}(he:PE X o ta)(c:Cls X.K C)(hm:Meth X.K C m f)(F:lx X.prog X.w X.K X.mg X.rZ CX k f fd ps sp)(hr:lC k X.A)(hb:Binds X.K fd ps ds)(hd:Vals BD ds)(hx:Passes CX X E)(ha:PA X (e::es) t)
  (uz:autoParam (Sm X e es) Z_r) (ot:autoParam (sHb X cJ es) Z_r)
  (ht:eval (.Call (.Attribute o m kM) (e::es) [] cJ) X.env=(do
   let ov<-eval o X.env
   BN kM.atName
   let (f,first)<-vt [ov] (wC ov m pl)
   Fq cJ f first (m9 cJ (dv (e::es) X.env)) (w_ cJ (oz [] X.env))):=by rfl):
  PE X (.Call (.Attribute o m kM) (e::es) [] cJ) (Jz C m sp BD E ta t):=by
 intro aA s σ H Q I h;refine qf (pl:=pl) (jc (he aA s σ H _ I h) λu s1 ⟨x,H1,I1,rx,a,dx,fs,ex,ea,l,q⟩=>?_) ht;subst ex;obtain rfl:u=Value.ref a:=rx;refine Bb I1 ea c hm l ?_;refine lg (first:=[.ref a]) (h₀:=X.rZ) I.ok.mod.uC hm.kp (jc (ha cJ aA s1 σ H1 _ I1 q) λus s2 ⟨vs,H2,I2,r,q2⟩=>⟨I2.zb,?_⟩) uz ot;exact NA (us:=.ref a::us) (vs:=.ref a::vs) F hr hb hd hx I2 (.cons rfl r) q2
def Y5 {pl:Sem Bool}(he:PE X o ta)(c:Cls X.K C)(hm:Meth X.K C m f)(F:lx X.prog X.w X.K X.mg X.rZ CX k f fd ps sp)(hr:lC k X.A)(hb:Binds X.K fd ps ds)(hd:Vals BD ds)(hx:Passes CX X E)
  (ht:eval (.Call (.Attribute o m kM) [] [] cJ) X.env=(do
   let ov<-eval o X.env
   BN kM.atName
   let (f,first)<-vt [ov] (wC ov m pl)
   Fq cJ f first (m9 cJ (dv [] X.env)) (w_ cJ (oz [] X.env))):=by rfl):
  PE X (.Call (.Attribute o m kM) [] [] cJ) (Jz C m sp BD E ta Gp):=by
 intro aA s σ H Q I h;refine qf (pl:=pl) (jc (he aA s σ H _ I h) λu s1 ⟨x,H1,I1,rx,a,dx,fs,ex,ea,l,q⟩=>?_) ht;subst ex;obtain rfl:u=Value.ref a:=rx;refine Bb I1 ea c hm l ?_;exact rY (first:=[.ref a]) I1.zb hm.kp (NA (us:=[.ref a]) (vs:=[.ref a]) F hr hb hd hx I1 (.cons rfl .nil) q)
structure Mk (K:au)(C f:lQ):Prop where
 makes:aaw K C=true
 init:ik K (.ref C) "__init__"=some (some (.ref f))
 fn:xj K (.ref f)=true
 kp:il K (.ref C)=true
def Qc {aA:jw}{σ:St}{H:Hp}{s:aL}{Q:VK}{us:gS}{vs:b_}(M:Mk X.K C f)(F:lx X.prog X.w X.K X.mg X.rZ CX k f fd ps sp)(hr:lC (k+1) X.A)(hb:Binds X.K fd ps ds)(hd:Vals BD ds)
  (hx:Passes CX X E) (I:Inv X aA σ H s) (r:Vals vs us)
  (h:∀x dx,H x=none->H dx=none->dx≠x->sp (.ref x::(vs++BD)) (upd (upd H dx (.own x)) x (.ins C dx [])) (λv H2=>v=.gQ/\Q (.ref x) H2) E):
  bw (bA X.prog X.w) X.A (call (.ref C) us) (EP X aA σ Q) X.xe s:=by
 have hq:=h (s.heap.objs.size+1) s.heap.objs.size (I.fV.fresh (jo _)) (I.fV.fresh (bq _)) (cG (ij _));have I2:=Inv.made (C:=C) I;have r2:Vals (V.ref (s.heap.objs.size+1)::(vs++BD)) (Value.ref (s.heap.objs.size+1)::(us++ds)):=.cons rfl (r.append hd);have hl:(Value.ref (s.heap.objs.size+1)::us++ds).length=ps.length:=by
  have e:=r2.length;rw[F.len _ _ _ _ hq] at e;exact e.symm
 refine BO (YF (f:=f) I.zb M.makes M.init (beq_iff_eq.mp M.fn) (BM (F.run _ X.stack _ _ ⟨Value.ref (s.heap.objs.size+1)::us,[]⟩ (Value.ref (s.heap.objs.size+1)::(us++ds)) _ _ E (hr.make C us [])
  (I2.ju.make C us []) (hb _ (Value.ref (s.heap.objs.size+1)::us) I2.zb hl) r2 hq) λr s' hq'=>?_))
 cases r with
 |error e=>exact hx aA σ _ _ e s' I2 hq'
 |ok fl=>
  cases fl with
  |ret u=>
   obtain⟨v,H',I3,rv,ev,q3⟩:=I2.after hq';subst ev;exact⟨rv,⟨V.ref (s.heap.objs.size+1),H',I3,Z,q3⟩⟩
  |next=>exact dU hq'
  |brk=>exact dU hq'
  |cont=>exact dU hq'
def acf (M:Mk X.K C f)(F:lx X.prog X.w X.K X.mg X.rZ CX k f fd ps sp)(hr:lC (k+1) X.A)(hg:Gl X x)(hm:X.mg x=some (.ref C))(hb:Binds X.K fd ps ds)(hd:Vals BD ds)(hx:Passes CX X E)
  (ha:PA X (e::es) t) (DZ:autoParam (Dy x) Z_d) (he:autoParam (Sm X e es) Z_r) (ot:autoParam (sHb X cJ es) Z_r):
  PE X (.Call (.Name x p) (e::es) [] cJ) (ZR C sp BD E t):=by
 intro aA s σ H Q I h;refine fC (rT I hg hm ?_ DZ);refine lg (h₀:=X.rZ) I.ok.mod.uC M.kp (jc (ha cJ aA s σ H _ I h) λus s1 ⟨vs,H1,I1,r,q⟩=>⟨I1.zb,?_⟩) he ot;exact Qc M F hr hb hd hx I1 r q
def PV (M:Mk X.K C f)(F:lx X.prog X.w X.K X.mg X.rZ CX k f fd ps sp)(hr:lC (k+1) X.A)(hg:Gl X x)(hm:X.mg x=some (.ref C))(hb:Binds X.K fd ps ds)(hd:Vals BD ds)(hx:Passes CX X E)
  (DZ:autoParam (Dy x) Z_d):PE X (.Call (.Name x p) [] [] cJ) (ZR C sp BD E Gp):=by
 intro aA s σ H Q I h;refine fC (rT I hg hm ?_ DZ);exact rY I.zb M.kp (Qc (us:=[]) M F hr hb hd hx I .nil h)
end
section
variable{X:Cx}{CX:NR}{k:Nat}{f C:lQ}{fd:eN}{ps ks:mX}{sp:Sp}{E:XK}{x m:Str}{p cJ kM afS:Pos}{e o:Expr}{es:Fw}{kws:List aaU}{te ta:TE}{t tk:TA}{nm:Option Str}
variable{g:gS->gS->gS}{gV:b_->b_->b_}
end
structure vJ (N P:mX)(sc:nz):Prop where
 kind:sc.kind=.function
 co:sc.isCoroutine=false
 gen:sc.isGenerator=false
 nd:N.Nodup
 pre:N.take P.length=P
 par:∀x∈P,sc.names.lookup x=some .local\/sc.names.lookup x=some .cell
 af0:∀y∈sc.names,y.2≠.free
theorem K8 {kindOf:Str->Option NameKind}{x:Str}:∀{Om:List (Str×kc)} {m:sM},(∀v,(x,v)∉Om)->aaf kindOf Om m x=m x
 |[],_,_=>rfl
 |(n,v)::r,m,h=>by
  unfold aaf;rw[K8 λw hw=>h w (aP _ hw)];split
  .have:x≠n:=by rintro rfl;exact h v aU
   simp[this]
  .rfl
theorem K6 {kindOf:Str->Option NameKind}{x:Str}:∀{Om:List (Str×kc)} {m:sM},(∀v,(x,v)∉Om)->aae kindOf Om m x=m x
 |[],_,_=>rfl
 |(n,v)::r,m,h=>by
  unfold aae;rw[K6 λw hw=>h w (aP _ hw)];split
  .rfl
  .have:x≠n:=by rintro rfl;exact h v aU
   simp[this]
theorem K7 {kindOf:Str->Option NameKind}{x:Str}{v:kc}:∀{P:mX} {vs:gS} {i:Nat} {m:sM},P.Nodup->P[i]? =some x->vs[i]? =some v->kindOf x=some .local->
  aaf kindOf (P.zip vs) m x=some v
 |[],_,_,_,_,h,_,_=>by simp at h
 |_::_,[],_,_,_,_,h,_=>by simp at h
 |p::P,w::vs,0,m,nd,h1,h2,hk=>by
  simp at h1 h2;subst h1;subst h2;show aaf kindOf ((p,w)::P.zip vs) m p=_;unfold aaf;rw[K8 λv hv=>(iT.mp nd).1 (zB hv).1,aj hk];simp
 |p::P,w::vs,i+1,m,nd,h1,h2,hk=>by
  show aaf kindOf ((p,w)::P.zip vs) m x=_;unfold aaf;exact K7 (i:=i) (iT.mp nd).2 (by simpa using h1) (by simpa using h2) hk
theorem K5 {kindOf:Str->Option NameKind}{x:Str}{v:kc}:∀{P:mX} {vs:gS} {i:Nat} {m:sM},P.Nodup->P[i]? =some x->vs[i]? =some v->kindOf x≠some .local->
  aae kindOf (P.zip vs) m x=some v
 |[],_,_,_,_,h,_,_=>by simp at h
 |_::_,[],_,_,_,_,h,_=>by simp at h
 |p::P,w::vs,0,m,nd,h1,h2,hk=>by
  simp at h1 h2;subst h1;subst h2;show aae kindOf ((p,w)::P.zip vs) m p=_;unfold aae;rw[K6 λv hv=>(iT.mp nd).1 (zB hv).1,ah hk];simp
 |p::P,w::vs,i+1,m,nd,h1,h2,hk=>by
  show aae kindOf ((p,w)::P.zip vs) m x=_;unfold aae;exact K5 (i:=i) (iT.mp nd).2 (by simpa using h1) (by simpa using h2) hk
def start (N:mX)(vs:b_):St:=vs.map some++aM (N.length-vs.length) none
def AY (CX:NR)(P:bJ)(w:cA)(K:au)(mg:sM)(rZ:Heap)(N:mX)(eU:Str)(a_:nz)(f:lQ)(cd:kc)(A:Around)(outer:List Env)(s:aL)(H:Hp)(E:XK):Cx where
 prog:=P
 w:=w
 K:=K
 mg:=mg
 rZ:=rZ
 A:=A.deeper (tI eU a_ s.heap.objs.size f cd)
 N:=N
 s_0:=s
 H_0:=H
 env:=tI eU a_ s.heap.objs.size f cd
 outer:=outer
 stack:=tI eU a_ s.heap.objs.size f cd::outer
 ex:=[]
 calm:=true
 fn:=λ_=>true
 pn:=[]
 xe:=λe s'=>bw (bA P w) (A.deeper (tI eU a_ s.heap.objs.size f cd)) (leaving (tI eU a_ s.heap.objs.size f cd) e) (λ_ s''=>CX outer H s E e s'') (λe' s''=>CX outer H s E e' s'') s'
def Ov {sc:nz}{n:Nat}{x:Str}(h:sc.names.lookup x=some .cell):∃c,(fm n sc.names []).lookup x=some c:=by
 have q:=xi sc.names n [] (.inl h);exact cX.mp q
def Ls {CX:NR}{P:bJ}{w:cA}{K:au}{mg:sM}{rZ:Heap}{N ps:mX}{eU:Str}{a_:nz}{f:lQ}{cd:kc}{A:Around}{outer:List Env}{s s1:aL}{H:Hp}{E:XK}{us:gS}{vs:b_}
  (S:vJ N ps a_) (hd:A.handled=none) (e0:J5 P w K mg rZ A outer s H) (hl:vs.length=ps.length) (r:Vals vs us)
  (x:InCallC s s.heap.objs.size (aaf (tI eU a_ s.heap.objs.size f cd).kindOf (ps.zip us) λ_=>none) (fm (s.heap.objs.size+1) a_.names []) (aae (tI eU a_ s.heap.objs.size f cd).kindOf (ps.zip us) λ_=>none) s1):
  Inv (AY CX P w K mg rZ N eU a_ f cd A outer s H E) [] (start N vs) H s1:=by
 have ot:ps.length<=N.length:=by have:=congrArg lA S.pre;rw[cN] at this;lia
 obtain⟨h1,tk,rfl,hk⟩:=x.done;have noA:∀b:lQ,b∉(AY CX P w K mg rZ N eU a_ f cd A outer s H E).ex:=λb z=>absurd (show b∈([]:pF) from z) (by simp);refine⟨⟨e0.mod,S.kind,Z,Z,bq _,λy z c h1 h2=>?_,λy hy=>?_,λy c _ h=>?_,λ_=>hd,Around.frames_deeper e0.frames,.inr ⟨Z,Z⟩,λb z=>absurd z (noA b),e0.bs,e0.QR,λb _ _=>noA b,λb z=>absurd z (noA b),e0.yq,e0.Qy⟩,
  rfl,e0.bare,Un.kept hk,⟨_,x.toInCall.ns,λi y v h1 h2 h3=>?_⟩,λy c h=>⟨_,x.cell y c h⟩,e0.fV.fresh (bq _),λy c h=>?_,λp hp=>absurd (show p∈([]:jw) from hp) (by simp),e0.fV.kept hk,?_⟩
 .exact name_of_addr x.apart (cw h1) (cw h2)
 .have hy:a_.names.lookup y=some .cell\/a_.names.lookup y=some .free:=hy;rcases hy with hy|hy
  .exact Ov hy
  .exact absurd rfl (S.af0 _ (cw hy))
 .exact cY (x.above y c (cw h))
 .have hi:i<vs.length:=by
   unfold start at h2;by_cases hi:i<vs.length
   .exact hi
   .rw[gK (by simpa using hi)] at h2;rw[pG] at h2;split at h2<;>cases h2
  have ha:vs[i]? =some v:=by
   unfold start at h2;rw[jR (by simpa using hi),aw] at h2;cases e:vs[i]? with
   |none=>rw[e] at h2;cases h2
   |some a=>rw[e] at h2;cases h2;rfl
  obtain⟨u,hu,rv⟩:=r.get ha;have hp:ps[i]? =some y:=by
   rw[<-S.pre,wK (by lia)];exact h1
  have ndP:ps.Nodup:=by rw[<-S.pre];exact S.nd.sublist (List.take_sublist _ _)
  refine⟨u,rv,?_⟩;rcases S.par y (az hp) with k|k
  .exact .inl ⟨k,K7 ndP hp hu k⟩
  .obtain⟨c,e⟩:=Ov (n:=s.heap.objs.size+1) k;refine .inr ⟨.inl k,c,e,?_⟩;have q:=x.cell y c e;rw[K5 ndP hp hu (by show a_.names.lookup y≠_;rw[k];decide)] at q;exact q
 .exact e0.fV.fresh (cY (x.above y c (cw h)))
 .unfold start;show _=N.length;rw[aO,aB,ib];lia
def adI {CX:NR}{P:bJ}{w:cA}{K:au}{mg:sM}{rZ:Heap}{k:Nat}{f:lQ}{name eU:Str}{YZ:Arguments}{qB:List Stmt}{a_:nz}{dV kV Tn pm sP ct oc:kc}{an od:Option lQ}
  {YX:Array (Option kc)} {N ps:mX} {sp:Sp} (lk:K.lookup f=some ⟨oc,od,.func (sL name eU YZ qB a_ dV kV Tn pm an sP ct),YX⟩) (Wz:J7 K sP eU=true) (S:vJ N ps a_)
  (QE:∀vs H Q E,sp vs H Q E->vs.length=ps.length)
  (yt:∀(A:Around) (outer:List Env) (s:aL) (H:Hp) (vs:b_) (Q:VK) (E:XK),lC k (A.deeper (tI eU a_ s.heap.objs.size f sP))->sp vs H Q E->
   ∃t,J6 (AY CX P w K mg rZ N eU a_ f sP A outer s H E) qB t/\t {nx:=λ_ H'=>Q .gQ H',rt:=Q} (start N vs) H):
  lx P w K mg rZ CX (k+1) f (sL name eU YZ qB a_ dV kV Tn pm an sP ct) ps sp:=by
 refine⟨QE,λA outer s H args us vs Q E hr e0 hb r JT=>?_⟩;have hl:=QE _ _ _ _ JT;have KX:K.In s.heap:=e0.mod.uC.keeps λb o e=>(e0.bs b o e).1;have lim:s.heap.NoLimit:=e0.mod.nolimit.keeps λb o e=>(e0.bs b o e).1;have Yc:∀y∈ps.zip us,a_.names.lookup y.1=some .local\/(a_.names.lookup y.1=some .cell/\((fm (s.heap.objs.size+1) a_.names []).lookup y.1).isSome=true):=λ⟨n,v⟩ hy=>by
  rcases S.par n (zB hy).1 with q|q
  .exact .inl q
  .exact .inr ⟨q,xi _ _ _ (.inl q)⟩
 refine adj hr.depth (KX _ _ lk) rfl S.co S.gen rfl (UR KX Wz) (hb _ _ _ _ ?_);refine UA S.kind Yc λenv he s1 x=>?_;subst he;refine⟨lim.keeps x.toInCall.keep,codeAny_func ?_⟩;obtain⟨t,ht,hq⟩:=yt A outer s H vs Q E (hr.deeper _) JT;have I:Inv (AY CX P w K mg rZ N eU a_ f sP A outer s H E) [] (start N vs) H s1:=Ls S hr.hd e0 hl r x;refine dI (ht [] s1 (start N vs) H _ I hq) (λfl s' hs=>?_) λe s' hs=>hs;have fin:∀{gz:St} {H':Hp} {v:V} {u:kc},Inv (AY CX P w K mg rZ N eU a_ f sP A outer s H E) [] gz H' s'->RelV v u->Q v H'->CE outer P w H s Q u s':=
  λ{gz H' v u} J rv q=>⟨v,H',J.os,J.bare,J.rZ,J.fV,rv,q⟩
 cases fl with
 |ret u=>
  obtain⟨v,gz,H',J,rv,q⟩:=hs;exact fin J rv q
 |next=>
  obtain⟨gz,H',J,q⟩:=hs;exact fin (v:=V.gQ) (u:=Value.none) J rfl q
 |brk=>
  obtain⟨_,_,_,q⟩:=hs;exact dU q
 |cont=>
  obtain⟨_,_,_,q⟩:=hs;exact dU q
open PySem PySem.Spec PyProof.Rows
section
variable{X:Cx}{x:Str}{p cJ:Pos}{e:Expr}{es:Fw}{t:TA}{id T:String}{r:b_->Hp->VK->Prop}
def tCB (r:b_->Hp->VK->Prop)(t:TA):TE:=λσ H Q=>t σ H λvs H1=>r vs H1 Q
def gO (hc:Er X (.builtin id) r)(hg:Gl X x)(hm:X.mg x=none)(hv:rK x=some (.builtin id))(ha:PA X (e::es) t)(hn:autoParam (x≠"__name__") Z_d)(DZ:autoParam (Dy x) Z_d)
  (he:autoParam (Sm X e es) Z_r) (ot:autoParam (sHb X cJ es) Z_r):PE X (.Call (.Name x p) (e::es) [] cJ) (tCB r t):=by
 intro aA s σ H Q I h;refine fC (wm I hg hm hv ?_ hn DZ);exact BB (jc (ha cJ aA s σ H _ I h) λus s1 ⟨vs,H1,I1,r1,q1⟩=>hc aA s1 σ H1 vs us Q I1 r1 q1) he ot
def sk (hc:Er X (.type T) r)(hg:Gl X x)(hm:X.mg x=none)(hv:rK x=some (.type T))(ha:PA X (e::es) t)(hn:autoParam (x≠"__name__") Z_d)(DZ:autoParam (Dy x) Z_d)
  (he:autoParam (Sm X e es) Z_r) (ot:autoParam (sHb X cJ es) Z_r):PE X (.Call (.Name x p) (e::es) [] cJ) (tCB r t):=by
 intro aA s σ H Q I h;refine fC (wm I hg hm hv ?_ hn DZ);exact eK (jc (ha cJ aA s σ H _ I h) λus s1 ⟨vs,H1,I1,r1,q1⟩=>hc aA s1 σ H1 vs us Q I1 r1 q1) he ot
end
end L2
namespace HT
open PySem PyProof.Rows
section
open PySem.SeqAt
open PySem.AutoSeq1 (wpAny_loadPart')
open PySem.MeetsSeq PySem.MeetsSeq2 PySem.MeetsSeq3
end
section
variable{prog:bJ}{w:cA}{A:Around}{E:j_}{s:aL}
def Qe (n d:Nat):Option Int->Nat
 |none=>d
 |some v=>if v<0 then(v+(n:Int)).toNat else min v.toNat n
def Jt (n d:Nat):Qe n d none=d:=rfl
def zp (n d k:Nat):Qe n d (some (k:Int))=min k n:=by
 show(if(k:Int)<0 then((k:Int)+(n:Int)).toNat else min (k:Int).toNat n)=min k n;rw[ah (by lia),bF]
end
end HT
namespace L2
open PySem PySem.Spec PyProof.Rows
abbrev TO:=St->Hp->(Option Int->Hp->Prop)->Prop
def PO (X:Cx)(e:Option Expr)(t:TO):Prop:=
 ∀(aA:jw) (s:aL) (σ:St) (H:Hp) (Q:Option Int->Hp->Prop),Inv X aA σ H s->t σ H Q->
  bw (bA X.prog X.w) X.A (evalPart e X.env) (λu s'=>∃o H',Inv X aA σ H' s'/\IsPart u o/\Q o H') X.xe s
def ac0:TO:=λ_ H Q=>Q none H
inductive agR (Q:Option Int->Hp->Prop)(x:V)(H1:Hp):Prop|i i(_:x=.int i)(_:Q (some i) H1)
def akK (t:TE):TO:=λσ H Q=>t σ H (agR Q)
section
variable{X:Cx}{e:Expr}{te:TE}{lo hi:Option Expr}{tl th:TO}{cJ p2:Pos}
def GQ:PO X none ac0:=by
 intro aA s σ H Q I h;rw[evalPart_none];exact bV ⟨none,H,I,.none,h⟩
def qu (h:PE X e te):PO X (some e) (akK te):=by
 intro aA s σ H Q I hw;rw[evalPart_some];refine jc (h aA s σ H _ I hw) λu s1 ⟨x,H1,I1,r1,q1⟩=>?_;obtain⟨i,rfl,q⟩:=q1;obtain⟨t,rfl⟩:=r1;exact⟨some i,H1,I1,.int i t,q⟩
def SlR (X:Cx)(r:V->Option Int->Option Int->Hp->VK->Prop):Prop:=
 ∀(aA:jw) (s:aL) (σ:St) (H:Hp) (x:V) (v vl vu:kc) (lo hi:Option Int) (sl:lQ) (Q:VK),Inv X aA σ H s->RelV x v->s.heap.IsSliceOf sl vl vu .none->IsPart vl lo->IsPart vu hi->r x lo hi H Q->
  ∃T id,kW (.type T) "__getitem__"=pure (some (.builtin id))/\s.TypeIs v T/\bw (bA X.prog X.w) X.A (SU v (.ref sl)) (EP X aA σ Q) X.xe s
def tSl (r:V->Option Int->Option Int->Hp->VK->Prop)(te:TE)(tl th:TO):TE:=λσ H Q=>te σ H λx H1=>tl σ H1 λl H2=>th σ H2 λu H3=>r x l u H3 Q
def PX {r:V->Option Int->Option Int->Hp->VK->Prop}(hr:SlR X r)(he:PE X e te)(hl:PO X lo tl)(hu:PO X hi th):PE X (.Subscript e (.Slice lo hi none p2) cJ) (tSl r te tl th):=by
 intro aA s σ H Q I h;refine ahT (jc (he aA s σ H _ I h) λv s1 ⟨x,H1,I1,r1,q1⟩=>?_);refine wpAny_Slice (jc (hl aA s1 σ H1 _ I1 q1) λvl s2 ⟨l,H2,I2,pl,q2⟩=>jc (hu aA s2 σ H2 _ I2 q2) λvu s3 ⟨u,H3,I3,pu,q3⟩=>?_);rw[evalPart_none];refine bV ?_;have I4:Inv X aA σ H3 {s3 with heap:=s3.heap.push {cls:=.type "slice",data:=.fields #[vl,vu,.none]}}:=I3.kept (t':=s3.toks) λb ob q=>Heap.get?_push_of_some _ q;obtain⟨T,id,hT,ht,hg⟩:=hr aA {s3 with heap:=s3.heap.push {cls:=.type "slice",data:=.fields #[vl,vu,.none]}} σ H3 x v vl vu l u s3.heap.objs.size Q I4 r1 (Heap.IsSliceOf.new ..) pl pu q3;show bw (bA X.prog X.w) X.A (WQ e (.Slice lo hi none p2) v (.ref s3.heap.objs.size)) (EP X aA σ Q) X.xe {s3 with heap:=s3.heap.push {cls:=.type "slice",data:=.fields #[vl,vu,.none]}};exact tail_any (ops:=[.ref s3.heap.objs.size,v]) ht hT hg (by with_unfolding_all rfl)
def qY (xs:b_)(lo hi:Option Int):b_:=(xs.drop (HT.Qe xs.length 0 lo)).take (HT.Qe xs.length xs.length hi-HT.Qe xs.length 0 lo)
def ED (xs:b_)(lo hi:Option Int):(qY xs lo hi).length<=xs.length:=by
 unfold qY;rw[cN,dY];lia
end
open PySem PySem.Spec PyProof.Rows
def ixN (n:Nat)(i:Int):Option Nat:=if 0<=i then(if i<n then some i.toNat else none) else if-(n:Int)<=i then some (i+n).toNat else none
def UW {α:Type}(xs:List α)(i:Int):Option α:=(ixN xs.length i).bind λj=>xs[j]?
def TN {n:Nat}{i:Int}{j:Nat}(h:ixN n i=some j):seqIndex? i n=some j/\j<n/\ -(n:Int)<=i/\i<n:=by
 unfold ixN at h;by_cases h0:0<=i
 .rw[aj h0] at h;by_cases h1:i<n
  .rw[aj h1] at h;have e:i.toNat=j:=bh h;exact⟨by rw[aez h0 h1,e],by lia,by lia,h1⟩
  .rw[ah h1] at h;cases h
 .rw[ah h0] at h;by_cases h1: -(n:Int)<=i
  .rw[aj h1] at h;have e:(i+n).toNat=j:=bh h;exact⟨by rw[aaX (by lia) h1,e],by lia,h1,by lia⟩
  .rw[ah h1] at h;cases h
def Ta {α:Type}{xs:List α}{i:Int}{v:α}(h:UW xs i=some v):∃j,seqIndex? i xs.length=some j/\xs[j]? =some v/\j<xs.length/\ -(xs.length:Int)<=i/\i<xs.length:=by
 unfold UW at h;cases e:ixN xs.length i with
 |none=>rw[e] at h;cases h
 |some j=>
  rw[e] at h;obtain⟨h1,h2,h3,h4⟩:=TN e;exact⟨j,h1,h,h2,h3,h4⟩
def abi {α:Type}{xs:List α}{j:Nat}{v:α}(h:xs[j]? =some v):UW xs (j:Int)=some v:=by
 have hj:j<xs.length:=(aN.mp h).1;have e:ixN xs.length (j:Int)=some j:=by
  unfold ixN;rw[aj (by lia),aj (by lia)];simp
 unfold UW;rw[e];exact h
def S7 (b:Expr):Prop:=∀o i,Qw b false o i=operate [o,i] (SU o i)
def IxR (X:Cx)(r:R2):Prop:=
 ∀(iW C1:Expr) (aA:jw) (s:aL) (σ:St) (H:Hp) (x y:V) (v u:kc) (Q:VK),Inv X aA σ H s->RelV x v->RelV y u->r x y H Q->
  Qw C1 false v u=operate [v,u] (SU v u)->bw (bA X.prog X.w) X.A (WQ iW C1 v u) (EP X aA σ Q) X.xe s
def MtR (X:Cx)(id:String)(r:V->b_->Hp->VK->Prop):Prop:=
 ∀(aA:jw) (s:aL) (σ:St) (H:Hp) (x:V) (xs:b_) (v:kc) (us:gS) (Q:VK),Inv X aA σ H s->RelV x v->Vals xs us->r x xs H Q->
  bw (bA X.prog X.w) X.A (call (.builtin id) (v::us)) (EP X aA σ Q) X.xe s
section
variable{X:Cx}{a b:Expr}{ta tb:TE}{cJ:Pos}
def wX {r:R2}(hr:IxR X r)(ha:PE X a ta)(hb:PE X b tb)(hs:S7 b):PE X (.Subscript a b cJ) (tOp r ta tb):=by
 intro aA s σ H Q I h;exact ahT (aeW ha hb I h λv u s2 x y H2 I2 rx ry q=>hr a b aA s2 σ H2 x y v u Q I2 rx ry q (hs _ _))
inductive P7 (K:au)(x:V)(y:V)(H:Hp)(Q:VK):Prop|i p xs i v(_:x=.ref p)(_:y=.int i)(_:nM K H p xs)(_:UW xs i=some v)(_:Q v H)
inductive Sb (K:au)(x:V)(y:V)(H:Hp)(Q:VK):Prop|i p xs i v(_:x=.ref p)(_:y=.int i)(_:Mb K H p xs)(_:UW xs i=some v)(_:Q v H)
def za:IxR X (P7 X.K):=by
 intro iW C1 aA s σ H x y v u Q I rx ry h hs;obtain⟨p,xs,i,z,rfl,rfl,hq,he,q⟩:=h;cases rx;obtain⟨t,rfl⟩:=ry;obtain⟨dg,r,pl,hz⟩:=I.list hq;obtain⟨j,h1,h2,h3,h4,h5⟩:=Ta he;obtain⟨w,ew,rw'⟩:=r.get h2;have hl:=r.length;have hn:=IB;have fin:EP X aA σ Q w s:=⟨z,H,I,rw',q⟩;by_cases h0:0<=i
 .have hj:i.toNat=j:=by
   rw[aez h0 h5] at h1;exact bh h1
  exact item_listR pl.isList h0 (by lia) (by rw[hj];simpa using ew) fin hs
 .have hj:(i+(dg.toArray.size:Int)).toNat=j:=by
   rw[aaX (by lia) h4] at h1;rw[bB,<-hl];exact bh h1
  exact aaT (x:=w) pl.isList.typeIs slot_list_getitem.lookup
   (wpAny_getItem_list_neg (Q:=λr s'=>r=w/\EP X aA σ Q r s') pl.isList (by lia) (by rw[bB]<;>lia) (by lia) (by rw[hj];simpa using ew) ⟨Z,fin⟩) hs
def D1:IxR X (Sb X.K):=by
 intro iW C1 aA s σ H x y v u Q I rx ry h hs;obtain⟨p,xs,i,z,rfl,rfl,hq,he,q⟩:=h;cases rx;obtain⟨t,rfl⟩:=ry;obtain⟨dg,r,pl,hz⟩:=I.tuple hq;obtain⟨j,h1,h2,h3,h4,h5⟩:=Ta he;obtain⟨w,ew,rw'⟩:=r.get h2;have hl:=r.length;have hn:=IB;have fin:EP X aA σ Q w s:=⟨z,H,I,rw',q⟩;exact aaT (x:=w) pl.typeIs slot_tuple_getitem.lookup
  (getItem_tuple (j:=j) (Q:=λr s'=>r=w/\EP X aA σ Q r s') pl (by lia) (by lia) (by rw[bB,<-hl];exact h1) (by simpa using ew) ⟨Z,fin⟩) hs
def RT (dg:gS)(n j:Nat)(u:kc):Obj.mapSeq (·.setIfInBounds j u) {cls:=.type "list",data:=.seq dg.toArray n}={cls:=.type "list",data:=.seq (dg.set j u).toArray n}:=by
 simp[Obj.mapSeq]
def Inv.lst {aA:jw}{σ:St}{H:Hp}{s:aL}{p:lQ}{xs:b_}(I:Inv X aA σ H s)(h:H p=some (.lst xs)):
  ∃(dg:gS) (n:Nat),Vals xs dg/\s.heap.get? p=some {cls:=.type "list",data:=.seq dg.toArray n}/\xs.length<=bu:=by
 obtain⟨z,dg,n,r,e⟩:=I.fV p _ h;exact⟨dg,n,r,e,z⟩
def Inv.afW {aA:jw}{σ:St}{H:Hp}{s:aL}{p:lQ}{xs ys:b_}{dg F_:gS}{n n':Nat}{f:Obj->Obj}(I:Inv X aA σ H s)(h:H p=some (.lst xs))
  (ho:s.heap.get? p=some {cls:=.type "list",data:=.seq dg.toArray n}) (hf:f {cls:=.type "list",data:=.seq dg.toArray n}={cls:=.type "list",data:=.seq F_.toArray n'}) (r:Vals ys F_) (hz:ys.length<=bu) (t:Nat):
  Inv X aA σ (upd H p (.lst ys)) {s with heap:=s.heap.update p f,toks:=t}:=by
 have e:(s.heap.update p f).get? p=some {cls:=.type "list",data:=.seq F_.toArray n'}:=by
  rw[Heap.get?_update_self f ho (by rw[hf]<;>rfl),hf]
 refine I.write (x:=p) (e:=p) (by rw[h];trivial) (.inl rfl) (λb u hb q=>(Heap.get?_update_other _ _ (eP hb)).trans q) ⟨_,e⟩ ?_;exact⟨hz,F_,n',r,e⟩
inductive akd (o:V)(i:V)(v:V)(H:Hp)(Q:Hp->Prop):Prop|i p xs k j(_:o=.ref p)(_:i=.int k)(_:H p=some (.lst xs))(_:ixN xs.length k=some j)(_:Q (upd H p (.lst (xs.set j v))))
def set_list:aif X akd:=by
 intro aA s σ H o i v ov iv u Q I ro ri rv h;obtain⟨p,xs,k,j,rfl,rfl,hp,hj,q⟩:=h;cases ro;obtain⟨t,rfl⟩:=ri;obtain⟨dg,n,r,ho,hz⟩:=I.lst hp;obtain⟨h1,h2,h3,h4⟩:=TN hj;have hl:=r.length;have hn:=IB;have I':Inv X aA σ (upd H p (.lst (xs.set j v))) {s with heap:=s.heap.update p (Obj.mapSeq (·.setIfInBounds j u))}:=
  I.afW hp ho (RT dg n j u) (r.set rv j) (by rw[fc];exact hz) s.toks
 by_cases h0:0<=k
 .have hk:k.toNat=j:=by
   rw[aez h0 h4] at h1;exact bh h1
  exact PySem.W.ki_setAt ho h0 (by lia) (by rw[bB,<-hl];exact h4) (by rw[hk];exact⟨_,I',q⟩)
 .have hk:(k+(dg.toArray.size:Int)).toNat=j:=by
   rw[aaX (by lia) h3] at h1;rw[bB,<-hl];exact bh h1
  exact PySem.W.ki_setBack ho (by lia) (by rw[bB,<-hl];exact h3) (by lia) (by rw[hk];exact⟨_,I',q⟩)
def NB (lo hi:Option Int)(n:Nat):(t9 lo hi none n).1=((HT.Qe n 0 lo:Nat):Int)/\(t9 lo hi none n).2.1=((HT.Qe n n hi:Nat):Int)/\(t9 lo hi none n).2.2=1:=by
 refine⟨?_,?_,Z⟩
 .cases lo with
  |none=>simp[t9,HT.Qe]
  |some i=>
   simp only[t9,HT.Qe,aav,show(1:Int)>0 by decide,if_true];by_cases h:i<0
   .simp only[h,if_true]<;>lia
   .simp only[h,if_false]<;>lia
 .cases hi with
  |none=>simp[t9,HT.Qe]
  |some i=>
   simp only[t9,HT.Qe,aav,show(1:Int)>0 by decide,if_true];by_cases h:i<0
   .simp only[h,if_true]<;>lia
   .simp only[h,if_false]<;>lia
def KR (dg:gS)(lo hi:Option Int):slicePick dg.toArray lo hi none=((dg.drop (HT.Qe dg.length 0 lo)).take (HT.Qe dg.length dg.length hi-HT.Qe dg.length 0 lo)).toArray:=by
 obtain⟨h1,h2,h3⟩:=NB lo hi dg.toArray.size;unfold slicePick;rw[h1,h2,h3];simp only[sliceRange_one,pick_run,bB]<;>rfl
inductive aco (K:au)(x:V)(lo:Option Int)(hi:Option Int)(H:Hp)(Q:VK):Prop|i a xs(_:x=.ref a)(_:nM K H a xs)(_:∀p,H p=none->Q (.ref p) (upd H p (.lst (qY xs lo hi))))
def Ul:SlR X (aco X.K):=by
 intro aA s σ H x v vl vu lo hi sl Q I rx hs pl pu h;obtain⟨a,xs,rfl,hx,q⟩:=h;cases rx;obtain⟨dg,r,ht,hz⟩:=I.list hx;have iP:=r.length;refine⟨"list",_,slot_list_getitem.lookup,ht.isList.typeIs,?_⟩;refine wpAny_getItem_list_slice ht.isList hs pl pu .none (by simp) ?_ (by rw[bB]<;>lia);rw[KR,<-iP];refine⟨.ref s.heap.objs.size,_,I.laid (t':=s.toks) (o:=.lst (qY xs lo hi)) (λb ob q=>Heap.get?_push_of_some _ q) (bq _) ?_,Z,q _ (I.fV.fresh (bq _))⟩;exact⟨bt (ED xs lo hi) hz,_,0,(r.drop (HT.Qe xs.length 0 lo)).take (HT.Qe xs.length xs.length hi-HT.Qe xs.length 0 lo),Heap.get?_push_size _ rfl⟩
def EH:V->Bool
 |.gQ=>true
 |.bl _=>true
 |.int _=>true
 |.str _=>true
 |_=>false
def eqV:V->V->Bool
 |.gQ,.gQ=>true
 |.bl a,.bl b=>a==b
 |.bl a,.int b=>(if a then 1 else 0)==b
 |.int a,.bl b=>a==(if b then 1 else 0)
 |.int a,.int b=>a==b
 |.str a,.str b=>a==b
 |_,_=>false
def ae6 {A:Around}{s:aL}{y x:V}{u v:kc}(ry:RelV y u)(rx:RelV x v)(fy:EH y=true)(fx:EH x=true):SeqAt.EqAt A s u v (eqV y x):=by
 cases y with
 |gQ=>
  cases ry;cases x with
  |gQ=>cases rx;exact SeqAt.EqAt.same _
  |bl b=>cases rx;exact SeqAt.EqAt.none_bool b
  |int b=>obtain⟨t,rfl⟩:=rx;exact SeqAt.EqAt.none_int b t
  |str b=>obtain⟨t,rfl⟩:=rx;exact SeqAt.EqAt.none_str b t
  |_=>exact absurd (show false=true from fx) bH
 |bl a=>
  cases ry;cases x with
  |gQ=>cases rx;exact SeqAt.EqAt.bool_none a
  |bl b=>cases rx;exact SeqAt.EqAt.bool_bool a b
  |int b=>obtain⟨t,rfl⟩:=rx;exact SeqAt.EqAt.bool_int a b t
  |str b=>obtain⟨t,rfl⟩:=rx;exact SeqAt.EqAt.bool_str a b t
  |_=>exact absurd (show false=true from fx) bH
 |int a=>
  obtain⟨t',rfl⟩:=ry;cases x with
  |gQ=>cases rx;exact SeqAt.EqAt.int_none a t'
  |bl b=>cases rx;exact SeqAt.EqAt.int_bool a t' b
  |int b=>obtain⟨t,rfl⟩:=rx;exact SeqAt.EqAt.int_int a t' b t
  |str b=>obtain⟨t,rfl⟩:=rx;exact SeqAt.EqAt.int_str a t' b t
  |_=>exact absurd (show false=true from fx) bH
 |str a=>
  obtain⟨t',rfl⟩:=ry;cases x with
  |gQ=>cases rx;exact SeqAt.EqAt.str_none a t'
  |bl b=>cases rx;exact SeqAt.EqAt.str_bool a t' b
  |int b=>obtain⟨t,rfl⟩:=rx;exact SeqAt.EqAt.str_int a t' b t
  |str b=>obtain⟨t,rfl⟩:=rx;exact SeqAt.EqAt.str_str a t' b t
  |_=>exact absurd (show false=true from fx) bH
 |_=>exact absurd (show false=true from fy) bH
def eqU (x:V)(u:kc):Bool:=match u with
 |.none=>eqV .gQ x
 |.bool b=>eqV (.bl b) x
 |.int i _=>eqV (.int i) x
 |.str z _=>eqV (.str z) x
 |_=>false
def XD {x y:V}{u:kc}(r:RelV y u)(f:EH y=true):eqU x u=eqV y x:=by
 cases y with
 |gQ=>cases r;rfl
 |bl b=>cases r;rfl
 |int i=>obtain⟨t,rfl⟩:=r;rfl
 |str z=>obtain⟨t,rfl⟩:=r;rfl
 |_=>exact absurd (show false=true from f) bH
theorem Md {x:V}:∀{xs:b_} {us:gS},Vals xs us->xs.all EH=true->us.any (eqU x)=xs.any λy=>eqV y x
 |_,_,.nil,_=>rfl
 |y::xs,u::us,.cons r t,f=>by
  rw[wJ,cM] at f;rw[oH,oH,XD r f.1,Md t f.2]
theorem IF {A:Around}{s:aL}{x:V}{v:kc}(rx:RelV x v)(fx:EH x=true):∀{xs:b_} {us:gS},Vals xs us->xs.all EH=true->∀u∈us,SeqAt.EqAt A s u v (eqU x u)
 |_,_,.nil,_=>λu hu=>by cases hu
 |y::xs,u::us,.cons r t,f=>λu' hu=>by
  rw[wJ,cM] at f;rcases bo.mp hu with rfl|hu
  .rw[XD r f.1];exact ae6 r rx f.1 fx
  .exact IF rx fx t f.2 u' hu
def inV (x:V)(xs:b_):Bool:=xs.any λy=>eqV y x
inductive rIn (K:au)(neg:Bool)(x:V)(y:V)(H:Hp)(Q:VK):Prop|i p xs(_:y=.ref p)(_:nM K H p xs\/Mb K H p xs)(_:EH x=true)(_:xs.all EH=true)(_:Q (.bl (if neg then !inV x xs else inV x xs)) H)
def Nk:BA X (je .NotIn) (rIn X.K true):=by
 intro aA s σ H x y v u Q I rx ry h;obtain⟨p,xs,rfl,hq,fx,fs,q⟩:=h;cases ry;rcases hq with hq|hq
 .obtain⟨dg,r,pl,hz⟩:=I.list hq;refine SeqAt.notIn_listAt (eqU x) pl.isList (λw hw=>IF rx fx r fs w (by simpa using hw)) ⟨.bl _,H,I,Z,?_⟩;rw[show dg.toArray.any (eqU x)=dg.any (eqU x) by simp,Md r fs];exact q
 .obtain⟨dg,r,pl,hz⟩:=I.tuple hq;refine SeqAt.notIn_tupleAt (eqU x) pl (λw hw=>IF rx fx r fs w (by simpa using hw)) ⟨.bl _,H,I,Z,?_⟩;rw[show dg.toArray.any (eqU x)=dg.any (eqU x) by simp,Md r fs];exact q
def Mg:Er X (.builtin "len") (λxs H Q=>∃p ys,xs=[.ref p]/\(nM X.K H p ys\/Mb X.K H p ys)/\Q (.int ys.length) H):=by
 intro aA s σ H xs us Q I r h;obtain⟨p,ys,rfl,hq,q⟩:=h;obtain⟨u,rfl,rx⟩:=vals1 r;cases rx;have hn:=IB;rcases hq with hq|hq
 .obtain⟨dg,r',pl,hz⟩:=I.list hq;have iP:=r'.length;exact Calls.call_len_list pl.isList (by simp only[bB]<;>lia) ⟨.int ys.length,H,I.tok _,⟨s.toks+1,by rw[bB,iP]⟩,q⟩
 .obtain⟨dg,r',pl,hz⟩:=I.tuple hq;have iP:=r'.length;exact len_tuple pl (by simp only[bB]<;>lia) ⟨.int ys.length,H,I.tok _,⟨s.toks+1,by rw[bB,iP]⟩,q⟩
def mD:Er X (.type "list") (λxs H Q=>∃p ys,xs=[.ref p]/\(nM X.K H p ys\/Mb X.K H p ys)/\∀l,H l=none->Q (.ref l) (upd H l (.lst ys))):=by
 intro aA s σ H xs us Q I r h;obtain⟨p,ys,rfl,hq,q⟩:=h;obtain⟨u,rfl,rx⟩:=vals1 r;cases rx;have fin:∀(dg:gS),Vals ys dg->ys.length<=bu->∀(h':Heap) (c':Nat),(∀b o',s.heap.get? b=some o'->h'.get? b=some o')->
   h'.get? s.heap.objs.size=some {cls:=.type "list",dict:=none,data:=.seq dg.toArray c',slots:= #[]}->EP X aA σ Q (.ref s.heap.objs.size) {s with heap:=h'}:=λdg r' hz h' c' kp e=>
  ⟨.ref s.heap.objs.size,_,I.laid (t':=s.toks) kp (bq _) (show jq X.prog X.w _ h' _ (.lst ys) from⟨hz,dg,c',r',e⟩),Z,q _ (I.fV.fresh (bq _))⟩
 rcases hq with hq|hq
 .obtain⟨dg,r',pl,hz⟩:=I.list hq;have iP:=r'.length;obtain⟨o,ho,hc,n,hd⟩:=pl.isList;exact call_list_seq p (.inl rfl) ho hc hd (λh' c' kp e=>fin dg r' hz h' c' kp e) (by simp only[bB]<;>lia)
 .obtain⟨dg,r',pl,hz⟩:=I.tuple hq;have iP:=r'.length;obtain⟨o,ho,hc,n,hd⟩:=pl;exact call_list_seq p (.inr rfl) ho hc hd (λh' c' kp e=>fin dg r' hz h' c' kp e) (by simp only[bB]<;>lia)
def tyV (K:au)(T:String)(x:V)(H:Hp):Prop:=match x with
 |.str _=>T="str"
 |.int _=>T="int"
 |.ref p=>(T="list"/\∃xs,nM K H p xs)\/(T="tuple"/\∃o,K.lookup p=some o/\o.cls=.type "tuple"/\o.dict=none)\/
   (T="dict"/\((∃cg,H p=some (.dK cg))\/∃cg,H p=some (.dT cg)))\/(T="set"/\∃S n,H p=some (.set S n))
 |_=>False
def ZY {aA:jw}{σ:St}{H:Hp}{s:aL}{T:String}{x:V}{v:kc}(I:Inv X aA σ H s)(r:RelV x v)(ty:tyV X.K T x H):
  s.TypeIs v T/\∀a,v=.ref a->∃ob,s.heap.get? a=some ob/\ob.dict=none:=by
 cases x with
 |str z=>
  obtain⟨t,rfl⟩:=r;cases(show T="str" from ty);exact⟨typeIs_str s z t,λ_ e=>nomatch e⟩
 |int i=>
  obtain⟨t,rfl⟩:=r;cases(show T="int" from ty);exact⟨ahW s i t,λ_ e=>nomatch e⟩
 |ref p=>
  cases r;rcases ty with⟨rfl,xs,hq⟩|⟨rfl,o,hk,hc,hd⟩|⟨rfl,hk⟩|⟨rfl,S,n,hk⟩
  .obtain⟨dg,_,pl,_⟩:=I.list hq;refine⟨pl.isList.typeIs,λa e=>?_⟩;cases e;obtain⟨o,n,e,c,hd,_⟩:=pl;exact⟨o,e,hd⟩
  .refine⟨⟨o,I.zb p o hk,hc⟩,λa e=>?_⟩;cases e;exact⟨o,I.zb _ o hk,hd⟩
  .have z:∃o,s.heap.get? p=some o/\o.ExactDict:=by
    rcases hk with⟨cg,hk⟩|⟨cg,hk⟩
    .obtain⟨_,_,_,_,o,_,_,e,ex,_⟩:=I.fV p _ hk;exact⟨o,e,ex⟩
    .obtain⟨_,_,_,_,o,_,_,e,ex,_⟩:=I.fV p _ hk;exact⟨o,e,ex⟩
   obtain⟨o,e,ex⟩:=z;refine⟨⟨o,e,ex.1⟩,λa e2=>?_⟩;cases e2;exact⟨o,e,ex.2.1⟩
  .obtain⟨o,_,_,_,e,ex,_⟩:=I.fV p _ hk;refine⟨⟨o,e,ex.1⟩,λa e2=>?_⟩;cases e2;exact⟨o,e,ex.2.1⟩
 |_=>exact dU ty
def akH (K:au)(T:String)(r:V->b_->Hp->VK->Prop)(to:TE):TE:=λσ H Q=>to σ H λx H1=>tyV K T x H1/\r x [] H1 Q
def tBM (K:au)(T:String)(r:V->b_->Hp->VK->Prop)(to:TE)(t:TA):TE:=λσ H Q=>to σ H λx H1=>tyV K T x H1/\t σ H1 λxs H2=>r x xs H2 Q
variable{o e:Expr}{es:Fw}{to:TE}{t:TA}{name:Str}{kM lj:Pos}{T id:String}{r:V->b_->Hp->VK->Prop}
def af8 (pa:PlainAttrs T)(slot:Slot T name id)(hty:typeOf (.builtin id)=pure (.type "method_descriptor"))(hm:MtR X id r)(ho:PE X o to)
  (Ig:autoParam (mT o name X.env (eval o X.env)=eval o X.env) Z_r) (Il:autoParam ((kM.endLine==lj.line)=true) Z_r):PE X (.Call (.Attribute o name kM) [] [] lj) (akH X.K T r to):=by
 intro aA s σ H Q I h;refine wpAny_Call_method0_late Ig Il (jc (ho aA s σ H _ I h) λv s1 ⟨x,H1,I1,r1,ty,q1⟩=>?_);obtain⟨h1,h2⟩:=ZY I1 r1 ty;exact⟨T,id,pa,slot,hty,h1,h2,Calls.callWith_builtin rfl (PySem.evalArgs_none (hm aA s1 σ H1 x [] v [] Q I1 r1 .nil q1))⟩
def Ax (pa:PlainAttrs T)(slot:Slot T name id)(hty:typeOf (.builtin id)=pure (.type "method_descriptor"))(hm:MtR X id r)(ho:PE X o to)(ha:PA X (e::es) t)
  (Ig:autoParam (mT o name X.env (eval o X.env)=eval o X.env) Z_r)
  (afq:((m9 lj (dv (e::es) X.env)).all (λx=> !x.1)&&(w_ lj (oz [] X.env)).all (λx=>x.1.isSome)
   &&decide ((e::es).length+([]:List aaU).length+(if([]:List aaU).isEmpty then 0 else 1)<30))=true:=by rfl)
  (Il:autoParam ((kM.endLine==lj.line)=true) Z_r) (hs:autoParam (Sm X e es) Z_r) (RJ:autoParam ((m9 lj (dv es X.env)).any (·.1)=false) Z_r):
  PE X (.Call (.Attribute o name kM) (e::es) [] lj) (tBM X.K T r to t):=by
 intro aA s σ H Q I h;refine wpAny_Call_method_late Ig afq Il rfl (jc (ho aA s σ H _ I h) λv s1 ⟨x,H1,I1,r1,ty,q1⟩=>?_);obtain⟨h1,h2⟩:=ZY I1 r1 ty;refine⟨T,id,pa,slot,hty,h1,h2,?_⟩;have hA:=ha lj aA s1 σ H1 _ I1 q1;rw[hs] at hA|-
 refine Calls.callWith_builtin (by show(false||(m9 lj (dv es X.env)).any (·.1))=false;rw[RJ]<;>rfl) (Calls.evalArgs_plain ?_);exact jc hA λus s2 ⟨vs,H2,I2,r2,q2⟩=>hm aA s2 σ H2 x vs v us Q I2 r1 r2 q2
end
open PySem PySem.Spec PyProof.Rows
def MtM (X:Cx)(id:String)(r:V->b_->Hp->VK->Prop):Prop:=
 ∀(aA:jw) (s:aL) (σ:St) (H:Hp) (x:V) (xs:b_) (v:kc) (us:gS) (Q:VK),Inv X aA σ H s->RelV x v->Vals xs us->r x xs H Q->
  bw (bA X.prog X.w) X.A (call (.builtin id) (v::us)) (EP X aA σ Q) X.xe s
def Vals.one:∀{x:V} {us:gS},Vals [x] us->∃u,us=[u]/\RelV x u
 |_,_,.cons r .nil=>⟨_,Z,r⟩
def Vals.zero:∀{us:gS},Vals [] us->us=[]
 |_,.nil=>rfl
theorem Vals.rep {xs:b_}{us:gS}(h:Vals xs us):∀k:Nat,Vals (aM k xs).flatten (aM k us).flatten
 |0=>.nil
 |k+1=>by
  rw[fN,fN,jX,jX];exact Vals.append h (Vals.rep h k)
theorem foldl_rep (dg:gS):∀(k:Nat) (dM:gS),
  aam (λx1 x2=>x1++x2) dM.toArray (aM k dg.toArray)=(dM++(aM k dg).flatten).toArray
 |0,dM=>by simp
 |k+1,dM=>by
  have e:dM.toArray++dg.toArray=(dM++dg).toArray:=by simp
  have e2:(dM++dg)++(aM k dg).flatten=dM++(aM (k+1) dg).flatten:=by
   rw[fN,jX,cD]
  rw[<-e2,<-foldl_rep dg k (dM++dg),<-e,fN,bR]
section
variable{X:Cx}{aA:jw}{σ:St}{H:Hp}{s:aL}{l b:lQ}{xs ys zs:b_}
def Inv.ajL {dg F_:gS}{n:Nat}{f:Array kc->Array kc}{t':Nat}(I:Inv X aA σ H s)(hH:H l=some (.lst xs))
  (e:s.heap.get? l=some {cls:=.type "list",data:=.seq dg.toArray n}) (hf:f dg.toArray=F_.toArray) (hv:Vals ys F_) (hz:ys.length<=bu):
  Inv X aA σ (upd H l (.lst ys)) {s with heap:=s.heap.update l (Obj.mapSeq f),toks:=t'}:=by
 have q:=PySem.IsL.update e f;rw[hf] at q;refine I.write (x:=l) (e:=l) (by rw[hH];exact trivial) (.inl rfl) (λb' u hb hu=>(Heap.get?_update_other s.heap (Obj.mapSeq f) (eP hb)).trans hu) ⟨_,q⟩ ?_;exact⟨hz,F_,_,hv,q⟩
def Inv.ajK {dg:gS}{t':Nat}(I:Inv X aA σ H s)(hv:Vals ys dg)(hz:ys.length<=bu):
  Inv X aA σ (upd H s.heap.objs.size (.lst ys)) {s with heap:=s.heap.push {cls:=.type "list",data:=.seq dg.toArray},toks:=t'}:=
 I.laid (λ_ _ q=>Heap.get?_push_of_some _ q) (bq _) ⟨hz,dg,0,hv,Heap.get?_push_size _ rfl⟩
def Inv.fresh (I:Inv X aA σ H s):H s.heap.objs.size=none:=I.fV.fresh (bq _)
def Inv.Vw (I:Inv X aA σ H s)(hH:H l=some (.lst xs)):xs.length<=bu/\∃(dg:gS) (n:Nat),Vals xs dg/\xs.length=dg.length/\s.heap.get? l=some {cls:=.type "list",data:=.seq dg.toArray n}:=by
 obtain⟨z,dg,n,r,e⟩:=I.fV l _ hH;exact⟨z,dg,n,r,r.length,e⟩
def Py {n:Nat}(h:n<=bu):Builtin.List.listTooLong n=false:=by
 unfold Builtin.List.listTooLong;exact ae (by lia)
end
section
variable{X:Cx}
inductive Nu (x:V)(vs:b_)(H:Hp)(Q:VK):Prop|i l xs y(_:x=.ref l)(_:vs=[y])(_:H l=some (.lst xs))(_:xs.length<bu)(_:Q .gQ (upd H l (.lst (xs++[y]))))
def Vy:MtM X "list.append" Nu:=by
 intro aA s σ H x vs v us Q I rx rv h;obtain⟨l,xs,y,rfl,rfl,hH,hz,q⟩:=h;cases rx;obtain⟨u,rfl,ru⟩:=rv.one;obtain⟨z,dg,n,r,hl,e⟩:=I.Vw hH;refine Uy F.slot_list_append ⟨_,e,Z⟩ F.entry_list_append (F.args_list_append_2 _ _) (PySem.list_append l dg.toArray n u (by rw[bB];lia)) ⟨e,?_⟩;refine⟨.gQ,_,I.ajL (F_:=dg++[u]) hH e (by simp) (r.append (.cons ru .nil)) ?_,Z,q⟩;rw[aO,List.length_singleton];lia
inductive acn (x:V)(vs:b_)(H:Hp)(Q:VK):Prop|i l b xs zs(_:x=.ref l)(_:vs=[.ref b])(_:H l=some (.lst xs))(_:H b=some (.lst zs))(_:xs.length+zs.length<=bu)(_:Q .gQ (upd H l (.lst (xs++zs))))
def mE:MtM X "list.extend" acn:=by
 intro aA s σ H x vs v us Q I rx rv h;obtain⟨l,b,xs,zs,rfl,rfl,hH,hB,hz,q⟩:=h;cases rx;obtain⟨u,rfl,ru⟩:=rv.one;cases ru;obtain⟨z,dg,n,r,hl,e⟩:=I.Vw hH;obtain⟨z2,Iq,n2,r2,RH,e2⟩:=I.Vw hB;have hsz:dg.toArray.size+Iq.toArray.size<=bu:=by rw[bB,bB];lia
 have Yf:¬(!dg.toArray.isEmpty&&Builtin.List.listTooLong (dg.toArray.size+Iq.toArray.size))=true:=by
  rw[Py hsz,Bool.and_false];exact bH
 refine Uy F.slot_list_extend ⟨_,e,Z⟩ F.entry_list_extend (F.args_list_extend_2 _ _)
  (AutoSeq1.list_extend_list_list_0 l dg.toArray n b Iq.toArray n2 Yf (by rw[bB];lia) (by lia)) ⟨e,e2,?_⟩
 refine⟨.gQ,_,I.ajL (F_:=dg++Iq) hH e (by simp) (r.append r2) ?_,Z,q⟩;rw[aO];lia
inductive apB (x:V)(y:V)(H:Hp)(Q:VK):Prop|i l b xs zs(_:x=.ref l)(_:y=.ref b)(_:H l=some (.lst xs))(_:H b=some (.lst zs))(_:xs.length+zs.length<=bu)(_:∀p,H p=none->Q (.ref p) (upd H p (.lst (xs++zs))))
def mP:BA X (oy .Add) apB:=by
 intro aA s σ H x y v u Q I rx ry h;obtain⟨l,b,xs,zs,rfl,rfl,hH,hB,hz,q⟩:=h;cases rx;cases ry;obtain⟨z,dg,n,r,hl,e⟩:=I.Vw hH;obtain⟨z2,Iq,n2,r2,RH,e2⟩:=I.Vw hB;refine PySem.P.add_list e e2 ?_ (by rw[bB,bB];lia);have ea:dg.toArray++Iq.toArray=(dg++Iq).toArray:=by simp
 rw[ea];exact⟨.ref _,_,I.ajK (t':=s.toks) (r.append r2) (by rw[aO];lia),Z,q _ I.fresh⟩
inductive apD (x:V)(y:V)(H:Hp)(Q:VK):Prop|i l k xs(_:x=.ref l)(_:y=.int k)(_:H l=some (.lst xs))(_: -(2^63)<=k)(_:k<2^63)(_:xs.length*k.toNat<=bu)(_:∀p,H p=none->Q (.ref p) (upd H p (.lst (aM k.toNat xs).flatten)))
def len_rep {α:Type}(xs:List α)(k:Nat):(aM k xs).flatten.length=k*xs.length:=by
 induction k with
 |zero=>simp
 |succ k ih=>rw[fN,jX,aO,ih,G7,UM]
def Ef:BA X (oy .Mult) apD:=by
 intro aA s σ H x y v u Q I rx ry h;obtain⟨l,k,xs,rfl,rfl,hH,h1,h2,hz,q⟩:=h;cases rx;obtain⟨t,rfl⟩:=ry;obtain⟨z,dg,n,r,hl,e⟩:=I.Vw hH;have iP:dg.toArray.size*k.toNat<=bu:=by rw[bB,<-hl];exact hz
 have anO:¬dg.toArray.size*k.toNat>(2^63-1) / 8:=by
  have:(bu:Nat)<=(2^63-1) / 8:=by decide
  lia
 have anY:¬(!Builtin.List.listFitsIndex k)=true:=by
  rw[fitsIndex_both h1 h2];exact bH
 have Yf:¬Builtin.List.listTooLong (dg.toArray.size*k.toNat)=true:=by
  rw[Py iP];exact bH
 have aob:aam (λx1 x2=>x1++x2) #[] (aM (if dg.toArray.isEmpty=true then 0 else k.toNat) dg.toArray)=(aM k.toNat dg).flatten.toArray:=by
  have f0:∀m:Nat,aam (λx1 x2=>x1++x2) #[] (aM m dg.toArray)=(aM m dg).flatten.toArray:=λm=>by
   have:=foldl_rep dg m [];rw[tF] at this;exact this
  rw[f0];cases dg with
  |nil=>simp
  |cons a r'=>rw[ah (by simp)]
 refine wpAny_binaryOp_repeat_ref (T:="list") (U:="int") (by decide) ⟨_,e,Z⟩ (λs'=>ahW s' k t) noFill_list_mul F.fills_int_mul F.slot_int_rmul repeat_list F.slot_int_index.lookup
  (Uy F.slot_int_rmul (ahW s k t) F.entry_int_rmul (F.args_int_rmul_2 _ _) (int___rmul___int_list k t l dg.toArray n)
   ⟨e,Z,⟨_,e,Z⟩,Uy F.slot_list_mul ⟨_,e,Z⟩ F.entry_list_mul (F.args_list_mul_2 _ _) (AutoListH.list___mul___list_int_3 l dg.toArray n k t anY anO Yf) ⟨e,?_⟩⟩)
 rw[aob];exact⟨.ref _,_,I.ajK (t':=s.toks) (r.rep k.toNat) (by rw[len_rep,jk];exact hz),Z,q _ I.fresh⟩
end
section
variable{prog:bJ}{w:cA}{A:Around}{E:j_}{s:aL}
end
section
variable{X:Cx}
end
open PySem PySem.Spec PyProof.Rows
theorem Vals.ints:∀{ns:bX} {us:gS},Vals (ns.map V.int) us->IntsAre us ns
 |[],us,h=>by
  rw[yU] at h;cases h;exact IntsAre.nil
 |n::ns,us,h=>by
  rw[cz] at h;cases h with
  |cons r t=>
   obtain⟨k,rfl⟩:=r;exact IntsAre.cons n k (Vals.ints t)
theorem Vals.bls:∀{bs:List Bool} {us:gS},Vals (bs.map V.bl) us->us=bs.map Value.bool
 |[],us,h=>by
  rw[yU] at h;cases h;rfl
 |b::bs,us,h=>by
  rw[cz] at h;cases h with
  |cons r t=>
   cases r;rw[Vals.bls t,cz]
def Vals.agc {a:lQ}{us:gS}(r:Vals [V.ref a] us):us=[Value.ref a]:=by
 cases r with
 |cons r t=>
  cases t;cases r;rfl
section
variable{prog:bJ}{w:cA}{A:Around}{E:j_}{s:aL}{l:lQ}{dg:gS}{ns:bX}{Q:j_}
def acV (hh:A.handled=none)(hl:s.heap.IsList l dg.toArray)(hi:IntsAre dg ns)
  (h:∀h' tk t',(∀b o,s.heap.get? b=some o->h'.get? b=some o)->Q (.int ns.sum t') {s with heap:=h',toks:=tk}):bw (bA prog w) A (call (.builtin "sum") [.ref l]) Q E s:=by
 obtain⟨xs,e⟩:=hi.allInts.items;have hn:numsOf (intItems xs).toList=ns:=by rw[<-e];exact hi.numsOf
 rw[nums_intItems] at hn;rw[e] at hl;refine PySem.sum_intListG hh hl λh' tk t' hk=>?_;have:=h h' tk t' hk;rw[preSum_eq,cq (by simp),hn];exact this
end
section
variable{X:Cx}
inductive apE (K:au)(vs:b_)(H:Hp)(Q:VK):Prop|i(a:lQ)(ns:bX)(_:vs=[V.ref a])(_:nM K H a (ns.map V.int))(_:Q (.int ns.sum) H)
def Ml (hc:X.calm=true):Er X (.builtin "sum") (apE X.K):=by
 intro aA s σ H vs us Q I r h;obtain⟨a,ns,rfl,hs,q⟩:=h;obtain⟨dg,rv,hl,_⟩:=I.list hs;rw[Vals.agc r];exact acV (I.ok.hd hc) hl.isList rv.ints λh' tk t' hk=>⟨.int _,H,I.kept hk,⟨_,Z⟩,q⟩
end
section
variable{X:Cx}
end
section
variable{X:Cx}
end
def Yv {prog:bJ}{w:cA}{A:Around}{E:j_}{s:aL}{l:lQ}{adX:Array kc}{Q:j_}(hl:s.heap.IsList l adX)
  (h:∀mR:aL,mR={s with heap:=s.heap.push {cls:=.type "list_iterator",data:=.fields #[.ref l,.int 0 0]}}->
   (mR.heap.IsListIter s.heap.objs.size l 0/\mR.heap.IsList l adX)->l≠s.heap.objs.size->Q (.ref s.heap.objs.size) mR):bw (bA prog w) A (pyIter (.ref l)) Q E s:=by
 have BF:l<s.heap.objs.size:=by obtain⟨_,e,_⟩:=hl;exact Heap.lt_size e
 exact akY hl (h _ rfl ⟨⟨_,Heap.get?_push_size _ rfl,Z,Z⟩,hl.push _⟩ (cG BF))
def Qp {prog:bJ}{w:cA}{A:Around}{bs:List Bool}{dg:gS}(e:dg=bs.map Value.bool):
  TruthOf prog w A (λi v=>dg.toArray[i]? =some v) (λi=>bs.getD i false):=λi v s Q E hv hq=>by
 have hv':dg[i]? =some v:=by simpa using hv
 rw[e,aw] at hv';obtain⟨b,hb,rfl⟩:=iZ.mp hv';have hg:bs.getD i false=b:=by rw[aG,hb]<;>rfl
 have hq':Q (bs.getD i false) s:=hq;rw[hg] at hq';exact kr hq'
theorem any_range:∀bs:List Bool,(aK bs.length).any (λi=>bs.getD i false)=bs.any id
 |[]=>rfl
 |b::bs=>by
  rw[aZ,qe,oH,List.any_map,oH,<-any_range bs]
  all_goals rfl
theorem all_range:∀bs:List Bool,(aK bs.length).all (λi=>bs.getD i false)=bs.all id
 |[]=>rfl
 |b::bs=>by
  rw[aZ,qe,wJ,ak2,wJ,<-all_range bs]
  all_goals rfl
section
variable{X:Cx}
inductive apA (K:au)(vs:b_)(H:Hp)(Q:VK):Prop|i(a:lQ)(bs:List Bool)(_:vs=[V.ref a])(_:nM K H a (bs.map V.bl))(_:Q (.bl (bs.all id)) H)
def QV (hc:X.calm=true):Er X (.builtin "all") (apA X.K):=by
 intro aA s σ H vs us Q I r h;obtain⟨a,bs,rfl,hs,q⟩:=h;obtain⟨dg,rv,hl,_⟩:=I.list hs;rw[Vals.agc r];have hb:=rv.bls;refine call_all_walk (Yv hl.isList λmR e2 st GI=>?_);subst e2;refine⟨_,_,_,_,_,_,_,Z,Walks.list (A:=X.A.in1) (I.ok.hd hc) _ a GI dg.toArray,st,Qp hb,λh' tk hk=>?_⟩;refine⟨.bl _,H,I.kept λb o eo=>hk b o (λafu=>?_) (Heap.get?_push_of_some _ eo),?_,q⟩
 .rcases bo.mp afu with e1|afu
  .exact absurd (e1 ▸ Heap.lt_size eo) (b8 _)
  .cases afu
 .show Value.bool _=Value.bool _;rw[<-all_range,hb,bB,aB]
end
mutual
inductive Dp (K:au)(H:Hp):V->PyData->Prop
 |gQ:Dp K H .gQ .none
 |bl (b:Bool):Dp K H (.bl b) (.bool b)
 |int (i:Int):Dp K H (.int i) (.int i)
 |str (x:Str):Dp K H (.str x) (.str x)
 |lst {a:lQ} {xs:b_} {ds:List PyData}:nM K H a xs->GY K H xs ds->Dp K H (.ref a) (.list ds)
 |tup {a:lQ} {xs:b_} {ds:List PyData}:Mb K H a xs->GY K H xs ds->Dp K H (.ref a) (.tuple ds)
inductive GY (K:au)(H:Hp):b_->List PyData->Prop
 |nil:GY K H [] []
 |cons {v:V} {vs:b_} {d:PyData} {ds:List PyData}:Dp K H v d->GY K H vs ds->GY K H (v::vs) (d::ds)
end
section
variable{X:Cx}{aA:jw}{σ:St}{H:Hp}{s:aL}
mutual
theorem Dp.reads (I:Inv X aA σ H s):∀(d:PyData) (v:V) (u:kc),Dp X.K H v d->RelV v u->∃as,Reads s.heap u d as
 |.none,_,_,h,r=>by
  cases h;cases r;exact⟨_,Reads.none⟩
 |.bool b,_,_,h,r=>by
  cases h;cases r;exact⟨_,Reads.bool b⟩
 |.int i,_,_,h,r=>by
  cases h;obtain⟨t,rfl⟩:=r;exact⟨_,Reads.int i t⟩
 |.str x,_,_,h,r=>by
  cases h;obtain⟨t,rfl⟩:=r;exact⟨_,Reads.str x t⟩
 |.list ds,_,_,h,r=>by
  cases h with
  |lst hs ha=>
   cases r;obtain⟨dg,rv,⟨o,n,ho,hc,_,hd⟩,_⟩:=I.list hs;obtain⟨as,hr⟩:=Dp.readsAll I ds _ dg ha rv;exact⟨_,Reads.list ho hc hd hr⟩
 |.tuple ds,_,_,h,r=>by
  cases h with
  |tup hs ha=>
   cases r;obtain⟨dg,rv,⟨o,ho,hc,n,hd⟩,_⟩:=I.tuple hs;obtain⟨as,hr⟩:=Dp.readsAll I ds _ dg ha rv;exact⟨_,Reads.tuple ho hc hd hr⟩
 |.dict _,_,_,h,_=>by cases h
theorem Dp.readsAll (I:Inv X aA σ H s):∀(ds:List PyData) (vs:b_) (us:gS),GY X.K H vs ds->Vals vs us->∃as,ReadsAll s.heap us ds as
 |[],_,_,h,r=>by
  cases h;cases r;exact⟨_,ReadsAll.nil⟩
 |d::ds,_,_,h,r=>by
  cases h with
  |cons h1 h2=>
   cases r with
   |cons r1 r2=>
    obtain⟨as,q1⟩:=Dp.reads I d _ _ h1 r1;obtain⟨bs,q2⟩:=Dp.readsAll I ds _ _ h2 r2;exact⟨_,ReadsAll.cons q1 q2⟩
end
end
section
variable{X:Cx}
inductive apC (K:au)(x:V)(y:V)(H:Hp)(Q:VK):Prop|i d e(_:Dp K H x d)(_:Dp K H y e)(_:SeqAt.shaped d=true)(_:SeqAt.shaped e=true)(_:Q (.bl (PyData.eqv d e)) H)
def af6 (hu:X.A.units+64<L0):BA X (je .Eq) (apC X.K):=by
 intro aA s σ H x y v u Q I rx ry h;obtain⟨d,e,hd,he,sd,se,q⟩:=h;obtain⟨as,r1⟩:=Dp.reads I d x v hd rx;obtain⟨bs,r2⟩:=Dp.reads I e y u he ry;exact SeqAt.compareEq_shaped r1 r2 sd se hu ⟨.bl _,H,I,Z,q⟩
end
open PySem PySem.Spec PyProof.Rows
abbrev WT (h:Heap)(c:lQ)(v:Option kc):Prop:=h.IsCell c v
def apH (a_ sc:nz):nz:=
 {a_ with names:=a_.names.map λ(n,k)=>if(k==.free&&sc.kind==.function&&sc.names.lookup n==some .cell) then(n,.cell) else(n,k)}
def hZ (wN:List (Str×lQ)):List (Str×NameKind)->List (Str×lQ)->List (Str×lQ)
 |[],dM=>dM
 |(n,k)::r,dM=>if k==.free then hZ wN r ((n,(wN.lookup n).getD 0)::dM) else hZ wN r dM
theorem BZ (env:Env)(f:Str×NameKind->List (Str×lQ)->Sem (ForInStep (List (Str×lQ))))
  (hf:∀n k c,f (n,k) c=if k==.free then(do let a<-cellOf env n;pure (.yield ((n,a)::c))) else pure (.yield c)):
  ∀(names:List (Str×NameKind)) (dM:List (Str×lQ)),(∀y∈names,y.2=.free->∃c,env.cells.lookup y.1=some c)->forIn names dM f=pure (hZ env.cells names dM)
 |[],dM,_=>by rw[ag6];rfl
 |(n,k)::r,dM,h=>by
  rw[List.forIn_cons,hf];have ih:=λdM=>BZ env f hf r dM λy hy=>h y (aP _ hy);unfold hZ;by_cases hk:(k==NameKind.free)=true
  .rw[aj hk,aj hk];obtain⟨c,hc⟩:=h (n,k) aU (by simpa using hk);have e:cellOf env n=pure c:=by unfold cellOf;rw[hc]
   rw[e];have e2:(env.cells.lookup n).getD 0=c:=by rw[hc];rfl
   rw[e2];exact ih _
  .rw[ah hk,ah hk];exact ih _
def QT {a_:nz}{env:Env}(h:∀y∈a_.names,y.2=.free->∃c,env.cells.lookup y.1=some c):closureFor a_ env=pure (hZ env.cells a_.names []):=by
 simp only[closureFor];rw[BZ env _ (λn k c=>rfl) a_.names [] h];rfl
theorem mem_lookup {α:Type}:∀{l:List (Str×α)} {n:Str} {c:α},(n,c)∈l->∃c',l.lookup n=some c'
 |(k,v)::r,n,c,h=>by
  rw[jn];cases hb:n==k with
  |true=>exact⟨_,Z⟩
  |false=>
   rcases bo.mp h with e|h
   .cases e;simp at hb
   .exact mem_lookup h
theorem tU {wN:List (Str×lQ)}:∀{names:List (Str×NameKind)} {dM:List (Str×lQ)} {n:Str} {c:lQ},(n,c)∈hZ wN names dM->(n,c)∈dM\/((n,.free)∈names/\c=(wN.lookup n).getD 0)
 |[],_,_,_,h=>.inl h
 |(m,k)::r,dM,n,c,h=>by
  unfold hZ at h;split at h
  .rename_i hk;have hk:k=.free:=by simpa using hk
   rcases tU h with h|⟨h1,h2⟩
   .rcases bo.mp h with e|h
    .cases e;exact .inr ⟨hk ▸ aU,Z⟩
    .exact .inl h
   .exact .inr ⟨aP _ h1,h2⟩
  .rcases tU h with h|⟨h1,h2⟩
   .exact .inl h
   .exact .inr ⟨aP _ h1,h2⟩
theorem xR {wN:List (Str×lQ)}:∀{names:List (Str×NameKind)} {dM:List (Str×lQ)} {p:Str×lQ},p∈dM->p∈hZ wN names dM
 |[],_,_,h=>h
 |(m,k)::r,dM,p,h=>by
  unfold hZ;split
  .exact xR (aP _ h)
  .exact xR h
theorem xS {wN:List (Str×lQ)}:∀{names:List (Str×NameKind)} {dM:List (Str×lQ)} {n:Str},(n,.free)∈names->(n,(wN.lookup n).getD 0)∈hZ wN names dM
 |(m,k)::r,dM,n,h=>by
  unfold hZ;rcases bo.mp h with e|h
  .cases e;exact xR aU
  .split
   .exact xS h
   .exact xS h
theorem uX:∀{names:List (Str×NameKind)} {h:Heap} {dM:List (Str×lQ)} {x:Str} {c:lQ},(x,c)∈fm h.objs.size names dM->
  (x,c)∈dM\/((x,.cell)∈names/\h.objs.size<=c/\WT (wD h names) c none)
 |[],_,_,_,_,h=>.inl h
 |(n,k)::r,h,dM,x,c,hm=>by
  unfold fm at hm;unfold wD;split at hm
  .rename_i hk;rw[aj hk];have hk:k=.cell:=by simpa using hk
   rw[<-Heap.size_push h {cls:=.type "cell",data:=.cell none}] at hm;rcases uX hm with hm|⟨h1,h2,h3⟩
   .rcases bo.mp hm with e|hm
    .cases e;exact .inr ⟨hk ▸ aU,bq _,_,Dl r _ _ _ (Heap.get?_push_size _ rfl),Z⟩
    .exact .inl hm
   .rw[Heap.size_push] at h2;exact .inr ⟨aP _ h1,iU h2,h3⟩
  .rename_i hk;rw[ah hk];rcases uX hm with hm|⟨h1,h2,h3⟩
   .exact .inl hm
   .exact .inr ⟨aP _ h1,h2,h3⟩
theorem yX:∀{names:List (Str×NameKind)} {n:Nat} {dM:List (Str×lQ)} {p:Str×lQ},p∈dM->p∈fm n names dM
 |[],_,_,_,h=>h
 |(m,k)::r,n,dM,p,h=>by
  unfold fm;split
  .exact yX (aP _ h)
  .exact yX h
theorem DH:∀{names:List (Str×NameKind)} {n:Nat} {dM:List (Str×lQ)} {x:Str},(x,.cell)∈names->∃c,(x,c)∈fm n names dM
 |(m,k)::r,n,dM,x,h=>by
  unfold fm;rcases bo.mp h with e|h
  .cases e;exact⟨n,yX aU⟩
  .split
   .exact DH h
   .exact DH h
theorem DI:∀{names:List (Str×NameKind)} {h:Heap} {dM:List (Str×lQ)} {x y:Str} {c:lQ},(∀p∈dM,p.2<h.objs.size)->(∀x y c,(x,c)∈dM->(y,c)∈dM->x=y)->
  (x,c)∈fm h.objs.size names dM->(y,c)∈fm h.objs.size names dM->x=y
 |[],_,_,_,_,_,_,hi,h1,h2=>hi _ _ _ h1 h2
 |(n,k)::r,h,dM,x,y,c,hl,hi,h1,h2=>by
  unfold fm at h1 h2;split at h1
  .rename_i hk;rw[aj hk] at h2;rw[<-Heap.size_push h {cls:=.type "cell",data:=.cell none}] at h1 h2;refine DI (h:=h.push _) (λp hp=>?_) (λx y c a b=>?_) h1 h2
   .rw[Heap.size_push];rcases bo.mp hp with rfl|hp
    .exact ij _
    .exact G5 (hl p hp)
   .rcases bo.mp a with e|a<;>rcases bo.mp b with e'|b
    .cases e;cases e';rfl
    .cases e;exact absurd (hl _ b) (b8 _)
    .cases e';exact absurd (hl _ a) (b8 _)
    .exact hi _ _ _ a b
  .rename_i hk;rw[ah hk] at h2;exact DI hl hi h1 h2
def Pu {M:Model}{A:Around}{E:j_}{s:aL}{a_:nz}{Tx:lQ}{Mi:List (Str×lQ)}{eU:Str}{aiL:Option lQ}{code:kc}{Xf:Env}{Ot:lQ}{Q:Env->aL->Prop}
  (h:Q (newEnv a_ s.heap.objs.size Tx (fm (s.heap.objs.size+1) a_.names Mi) eU aiL code (some Xf) Ot)
   {s with heap:=wD (s.heap.push {cls:=.type "dict",data:=.dict #[]}) a_.names}):
  bw M A (newFunctionEnv a_ Tx Mi [] eU aiL code (some Xf) Ot) Q E s:=by
 simp only[newFunctionEnv,Wt,if_true];refine aR (wpAny_alloc ?_);refine aR (wpAny_layCells _ (λn k c=>rfl) a_.names Mi _ _ ?_);rw[show({s with heap:=s.heap.push {cls:=.type "dict",data:=.dict #[]}}:aL).heap.objs.size=s.heap.objs.size+1 from Heap.size_push ..];rw[ag6];exact aR (bV (bV h))
theorem yy {sc:nz}:∀{names:List (Str×NameKind)} {x:Str} {k:NameKind},
  (names.map λ(n,k)=>if(k==NameKind.free&&sc.kind==.function&&sc.names.lookup n==some .cell) then(n,NameKind.cell) else(n,k)).lookup x=some k->
  ∃k',names.lookup x=some k'/\(k=k'\/(k'=.free/\k=.cell))
 |[],_,_,h=>by simp at h
 |(n,Yy)::r,x,k,h=>by
  have ih:= @yy sc r x k;have h':lB x ((if(Yy==NameKind.free&&sc.kind==.function&&sc.names.lookup n==some .cell)=true then(n,NameKind.cell) else(n,Yy))::(r.map _))=some k:=h;cases hx:x==n with
  |true=>
   simp only[jn,hx];by_cases hc:(Yy==NameKind.free&&sc.kind==.function&&sc.names.lookup n==some .cell)=true
   .rw[aj hc] at h';simp only[jn,hx] at h';cases h';simp only[cM,beq_iff_eq] at hc;exact⟨Yy,Z,.inr ⟨hc.1.1,Z⟩⟩
   .rw[ah hc] at h';simp only[jn,hx] at h';cases h';exact⟨_,Z,.inl rfl⟩
  |false=>
   simp only[jn,hx];by_cases hc:(Yy==NameKind.free&&sc.kind==.function&&sc.names.lookup n==some .cell)=true
   .rw[aj hc] at h';simp only[jn,hx] at h';exact ih h'
   .rw[ah hc] at h';simp only[jn,hx] at h';exact ih h'
structure N6 (N:mX)(sc a_:nz)(own:List (Str×Nat)):Prop where
 kind:a_.kind=.function
 uniq:∀y∈a_.names,a_.names.lookup y.1=some y.2
 ix:∀p∈own,N[p.2]? =some p.1
 free:∀y∈a_.names,y.2=.free->sc.names.lookup y.1=some .cell\/sc.names.lookup y.1=some .free
 own:∀y∈a_.names,y.2=.local\/y.2=.cell->y.1∈own.map (·.1)\/y.1∉N
def wipe (σ:St):ie->St
 |[]=>σ
 |v::vs=>(wipe σ vs).set v none
theorem yP (σ:St):∀vs:ie,(wipe σ vs).length=σ.length
 |[]=>rfl
 |v::vs=>by unfold wipe;rw[fc,yP σ vs]
theorem Ep {σ:St}{i:Nat}{x:V}:∀{vs:ie},(wipe σ vs)[i]? =some (some x)->σ[i]? =some (some x)/\i∉vs
 |[],h=>⟨h,by simp⟩
 |v::vs,h=>by
  unfold wipe at h;by_cases hi:v=i
  .subst hi;by_cases hv:v<(wipe σ vs).length
   .rw[eF hv] at h;cases h
   .rw[ia (by simpa using hv)] at h;cases h
  .rw[iE hi] at h;obtain⟨h1,h2⟩:=Ep h;exact⟨h1,by simp only[bo,not_or];exact⟨λe=>hi e.symm,h2⟩⟩
abbrev Cx.gW (X:Cx)(s:aL)(H:Hp)(a_:nz)(oF:Env)(fp:pF):Cx:={X with s_0:=s,H_0:=H,env:=oF,outer:=X.stack,ex:=fp,fn:=λx=>a_.names.lookup x==some .cell,pn:=[],xe:=λ_ _=>False}
section
variable{X:Cx}{aA:jw}{σ:St}{H:Hp}{s:aL}
def Oq {a_:nz}{own:List (Str×Nat)}{fp:pF}(I:Inv X aA σ H s)(ok:N6 X.N X.env.scope a_ own)(hN:X.N.Nodup)(hfp:∀b∈fp,Fu X aA H b/\b<s.heap.objs.size):
  Inv (X.gW s H a_ (iB a_ (fm (s.heap.objs.size+1) a_.names (hZ X.env.cells a_.names [])) s.heap.objs.size X.env) fp) [] (wipe σ (own.map (·.2))) H {s with heap:=wD (s.heap.push {cls:=.type "dict",data:=.dict #[]}) a_.names}:=by
 have EK:∀y∈a_.names,y.2=.free->∃c,X.env.cells.lookup y.1=some c:=λy hy e=>by
  rcases ok.free y hy e with k|k
  .exact I.ok.has _ (.inl k)
  .exact I.ok.has _ (.inr k)
 generalize O7:iB a_ (fm (s.heap.objs.size+1) a_.names (hZ X.env.cells a_.names [])) s.heap.objs.size X.env=oF;have kp:∀b o,s.heap.get? b=some o->(wD (s.heap.push {cls:=.type "dict",data:=.dict #[]}) a_.names).get? b=some o:=λb o e=>Dl _ _ _ _ (Heap.get?_push_of_some _ e);have hL:oF.locals=s.heap.objs.size:=by rw[<-O7];rfl
 have hcl:oF.cells=fm (s.heap.objs.size+1) a_.names (hZ X.env.cells a_.names []):=by rw[<-O7];rfl
 have hsc:oF.scope=apH a_ X.env.scope:=by rw[<-O7];rfl
 rw[<-Heap.size_push s.heap {cls:=.type "dict",data:=.dict #[]}] at hcl;have cm:∀{y c},(y,c)∈hZ X.env.cells a_.names []->X.env.cells.lookup y=some c/\c<s.heap.objs.size:=λ{y c} hm=>by
  rcases tU hm with hm|⟨h1,rfl⟩
  .cases hm
  .obtain⟨c,hc⟩:=EK _ h1 rfl;rw[hc];obtain⟨w,z⟩:=I.cell _ _ hc;exact⟨Z,z.lt⟩
 have mem:∀{y c},oF.cells.lookup y=some c->(X.env.cells.lookup y=some c/\c<s.heap.objs.size)\/(s.heap.objs.size+1<=c/\WT (wD (s.heap.push {cls:=.type "dict",data:=.dict #[]}) a_.names) c none):=λ{y c} e=>by
  rw[hcl] at e;rcases uX (cw e) with hm|⟨_,h2,h3⟩
  .exact .inl (cm hm)
  .rw[Heap.size_push] at h2;exact .inr ⟨h2,h3⟩
 have look:∀{y},a_.names.lookup y=some .free->∃c,oF.cells.lookup y=some c/\X.env.cells.lookup y=some c:=λ{y} hl=>by
  have hy:(y,NameKind.free)∈a_.names:=cw hl;obtain⟨c',e'⟩:=mem_lookup (yX (names:=a_.names) (n:=(s.heap.push {cls:=.type "dict",data:=.dict #[]}).objs.size) (xS (wN:=X.env.cells) (dM:=[]) hy));rw[<-hcl] at e';refine⟨c',e',?_⟩;rw[hcl] at e';rcases uX (cw e') with hm|⟨h1,_,_⟩
  .exact(cm hm).1
  .have:=ok.uniq _ h1;rw[hl] at this;cases this
 have okB:(X.gW s H a_ oF fp).Ok:=by
  refine⟨I.ok.mod,by show oF.scope.kind=_;rw[hsc];exact ok.kind,by show oF.globals=_;rw[<-O7];exact I.ok.glob,by show oF.builtins=_;rw[<-O7];exact I.ok.blt,by show s.heap.objs.size<=oF.locals;rw[hL];exact bq _,
   λy z c e1 e2=>?_,λy hy=>?_,λy c z e=>?_,I.ok.hd,I.ok.frames,.inl rfl,λb hb=>⟨?_,λy c e z=>?_⟩,I.bs,bt I.ok.QR I.sz,λb o e hb=>?_,λb hb z=>?_,I.stack,I.NG⟩
  .have e1:oF.cells.lookup y=some c:=e1;have e2:oF.cells.lookup z=some c:=e2;rw[hcl] at e1 e2;refine DI (λp hp=>?_) (λy z c a b=>I.ok.inj y z c (cm a).1 (cm b).1) (cw e1) (cw e2);rw[Heap.size_push];exact G5 (cm (y:=p.1) (c:=p.2) hp).2
  .show∃c,oF.cells.lookup y=some c;have fA:∀k,oF.kindOf y=some k->(k=.cell\/k=.free)->∃c,oF.cells.lookup y=some c:=λk hk hk'=>by
    unfold Env.kindOf at hk;rw[hsc] at hk;obtain⟨k',e,r⟩:=yy hk;have:k'=.cell\/k'=.free:=by
     rcases r with rfl|⟨rfl,_⟩
     .exact hk'
     .exact .inr rfl
    rcases this with rfl|rfl
    .obtain⟨c,hm⟩:=DH (n:=(s.heap.push {cls:=.type "dict",data:=.dict #[]}).objs.size) (dM:=hZ X.env.cells a_.names []) (cw e);obtain⟨c',e'⟩:=mem_lookup hm;exact⟨c',by rw[hcl];exact e'⟩
    .obtain⟨c,h1,_⟩:=look e;exact⟨c,h1⟩
   rcases hy with hy|hy
   .exact fA _ hy (.inl rfl)
   .exact fA _ hy (.inr rfl)
  .have z:(a_.names.lookup y==some NameKind.cell)=true:=z;have z:a_.names.lookup y=some .cell:=by simpa using z
   have e:oF.cells.lookup y=some c:=e;rw[hcl] at e;rcases uX (cw e) with hm|⟨_,h2,_⟩
   .rcases tU hm with hm|⟨h1,_⟩
    .cases hm
    .have q:=ok.uniq _ h1;rw[z] at q;cases q
   .rw[Heap.size_push] at h2;exact iU h2
  .show b≠oF.locals;rw[hL];exact cG (hfp b hb).2
  .have e:oF.cells.lookup y=some c:=e;rcases mem e with⟨h1,_⟩|⟨h1,_⟩
   .exact(hfp b hb).1.2.2.2.2.1 y c h1 z
   .have h2:s.heap.objs.size+1<=b:=by rw[<-z];exact h1
    exact absurd (bc (hfp b hb).2 (iU h2)) (b8 _)
  .rcases(hfp b hb).1.2.2.2.1 with z|z
   .exact I.ok.Px b o e z
   .exact absurd (bc (Heap.lt_size e) (bt I.ok.QR z)) (b8 _)
  .rcases bo.mp (I.NH b z) with z|z
   .exact(hfp b hb).1.2.1 z
   .exact(hfp b hb).1.2.2.1 z
 refine⟨okB,Z,I.bare,Un.kept kp,⟨λ_=>none,?_,λi y av e1 e2 e3=>?_⟩,λy c e=>?_,?_,λy c e=>?_,λp hp=>?_,I.fV.kept kp,by rw[yP];exact I.len⟩
 .show Heap.Ns _ oF.locals _;rw[hL];exact Heap.Ns.keeps (Heap.Ns.new ..) λb o e=>Dl _ _ _ _ e
 .obtain⟨e2,GI⟩:=Ep e2;have NX:a_.names.lookup y=some .free/\(oF.kindOf y=some .cell\/oF.kindOf y=some .free):=by
   have fA:∀k,oF.scope.names.lookup y=some k->k=.local\/k=.cell\/k=.free->a_.names.lookup y=some .free/\(oF.kindOf y=some .cell\/oF.kindOf y=some .free):=λk hk hk'=>by
    have TF:=hk;rw[hsc] at hk;obtain⟨k',e,r⟩:=yy hk;have no:¬(k'=.local\/k'=.cell):=λhh=>by
     rcases ok.own _ (cw e) hh with e'|e'
     .obtain⟨p,hp,hpy⟩:=bj.mp e';have e3:=ok.ix p hp;have:p.1=y:=hpy;rw[this] at e3;exact GI (bj.mpr ⟨p,hp,IL hN e3 e1⟩)
     .exact e' (az e1)
    rcases r with rfl|⟨rfl,rfl⟩
    .rcases hk' with rfl|rfl|rfl
     .exact absurd (.inl rfl) no
     .exact absurd (.inr rfl) no
     .exact⟨e,.inr TF⟩
    .exact⟨e,.inl TF⟩
   have e3:Vis oF.scope y:=e3;rcases e3 with e3|e3|e3
   .exact fA _ e3 (.inl rfl)
   .exact fA _ e3 (.inr (.inl rfl))
   .exact fA _ e3 (.inr (.inr rfl))
  obtain⟨m,hn,hl⟩:=I.loc;have aoC:Vis X.env.scope y:=(ok.free _ (cw NX.1) rfl).elim (λk=>.inr (.inl k)) (λk=>.inr (.inr k));obtain⟨w,r,q⟩:=hl i y av e1 e2 aoC;refine⟨w,r,.inr ⟨NX.2,?_⟩⟩;obtain⟨c,h1,h2⟩:=look NX.1;rcases q with⟨k,_⟩|⟨_,c',e',z⟩
  .have k:X.env.scope.names.lookup y=some .local:=k;rcases ok.free _ (cw NX.1) rfl with k'|k'<;>rw[show X.env.scope.names.lookup y=_ from k'] at k<;>cases k
  .rw[h2] at e';cases e';exact⟨c,h1,z.keeps kp⟩
 .have e:oF.cells.lookup y=some c:=e;rcases mem e with⟨h1,_⟩|⟨_,z⟩
  .obtain⟨w,z⟩:=I.cell y c h1;exact⟨w,z.keeps kp⟩
  .exact⟨_,z⟩
 .show H oF.locals=none;rw[hL];exact I.fV.fresh (bq _)
 .have e:oF.cells.lookup y=some c:=e;rcases mem e with⟨h1,_⟩|⟨h1,_⟩
  .exact I.pO y c h1
  .exact I.fV.fresh (iU h1)
 .exact absurd (show p∈([]:jw)++[] from hp) (by simp)
def aeU {E:j_}{D:lQ}{xs:b_}{y:V}{v:kc}{Q:j_}(I:Inv X aA σ H s)(hD:H D=some (.lst xs))(hz:xs.length<bu)(r:RelV y v)
  (h:∀s',Inv X aA σ (upd H D (.lst (xs++[y]))) s'->Q .none s'):bw (bA X.prog X.w) X.A (call (.builtin "list.append") [.ref D,v]) Q E s:=by
 obtain⟨hz',dg,n,ri,e⟩:=I.fV D _ hD;have hl:=ri.length;refine append_at (hsz:=by rw[bB];lia) e λh' sb WD=>?_;refine h {s with heap:=h'} (I.write (t':=s.toks) (by rw[hD];trivial) (.inl rfl) (λb u hb q=>(sb.2 b hb).trans q) ⟨_,WD⟩ ⟨by rw[aO];exact hz,dg++[v],n+1,ri.append (.cons r .nil),?_⟩);rw[WD];simp
def PTs (X:Cx)(MV:Fw)(t:TT):Prop:=
 ∀(aA:jw) (s:aL) (σ:St) (H:Hp) (Q:Bool->Hp->Prop),Inv X aA σ H s->t σ H Q->
  bw (bA X.prog X.w) X.A (forIn MV true λc r=>if r=true then do let ok<-aaW c X.env (eval c X.env);pure (wH ok) else pure (wH r)) (TP X aA σ Q) X.xe s
def ZU:TT:=λ_ H Q=>Q true H
def CW:PTs X [] ZU:=λ_ _ _ H _ I h=>wpAny_tests_nil ⟨H,I,h⟩
end
def ZV {α:Type}{t:Sem α}{Q Q':α->aL->Prop}{M:Model}{A:Around}{E:j_}{s:aL}(h:bw M A t Q (λ_ _=>False) s)(hQ:∀a s,Q a s->Q' a s):bw M A t Q' E s:=dI h hQ λ_ _ z=>dU z
def Mj {prog:bJ}{w:cA}{A:Around}{R:Result->aL->Prop}{s:aL}{FT En l7:Expr}{MV:Fw}{a_:nz}{cJ:Pos}{it dM:kc}{env:Env}(I:Nat->aL->Prop)
  (SD:∀n s,I n s->bw (bA prog w) A (pyNext it) (λr ip=>match r with
   |none=>R (.ok .next) ip
   |some v=>bw (bA prog w) A (Dj En it v) (λ_ ael=>bw (bA prog w) A (Uw En env v) (λ_ mR=>
     bw (bA prog w) A (forIn MV true λc r=>if r=true then do let ok<-aaW c env (eval c env);pure (wH ok) else pure (wH r)) (λok C_=>
      if ok=true then bw (bA prog w) A (eval FT env) (λx akE=>
       bw (bA prog w) A (call (.builtin "list.append") [dM,x]) (λ_ akF=>∃m,m<n/\I m akF) (Gv (bA prog w) A env λe s'=>R (.error e) s') akE) (Gv (bA prog w) A env λe s'=>R (.error e) s') C_
      else∃m,m<n/\I m C_) (Gv (bA prog w) A env λe s'=>R (.error e) s') mR) (Gv (bA prog w) A env λe s'=>R (.error e) s') ael) (Gv (bA prog w) A env λe s'=>R (.error e) s') ip) (Gv (bA prog w) A env λe s'=>R (.error e) s') s)
  (n:Nat) (h:I n s):
  vq (bA prog w) A (.compLoop (.ListComp FT [⟨En,l7,MV,0⟩] a_ cJ) 0 it dM env) R s:=by
 refine codeAny_loop rfl I (λn s hI=>?_) n h;show bw _ A ((compTurn (.ListComp FT [⟨En,l7,MV,0⟩] a_ cJ) 0 it dM env).onRaise (λx=>do AG x env;theTreesLotGoes x)) _ _ s;refine wpAny_noted ?_;rw[compTurn_list];refine aR (fG (aR (dI (SD n s hI) (λr ip abT=>?_) λ_ _ h'=>h')));cases r with
 |none=>exact bV abT
 |some v=>
  refine aR (dI abT (λ_ ael ajw=>?_) λ_ _ h'=>h');refine aR (dI ajw (λ_ mR Yr=>aR (dI Yr (λok C_ abU=>?_) λ_ _ h'=>h')) λ_ _ h'=>h');cases ok with
  |false=>exact bV ⟨Z,abU⟩
  |true=>
   exact aR (aR (dI abU (λx akE aoO=>aR (dI aoO (λ_ akF aoP=>bV (bV ⟨Z,aoP⟩)) λ_ _ h'=>h')) λ_ _ h'=>h'))
section
variable{X:Cx}
def tLc (wi:TI)(g:TG)(tt:TT)(te:TE)(vs:ie):TE:=λσ H Q=>wi σ H λJ H1=>∀D,H1 D=none->∃W:Nat->Nat->Hp->Prop,(∃m,W 0 m (upd H1 D (.lst [])))/\∀i m H,W i m H->
 (J.stop i H/\Q (.ref D) H)\/(J.go i H/\∃Nx:Hp->Prop,(∀H',Nx H'->∃m',m'<m/\W (i+1) m' H')/\∀x H',J.Wc i H x H'->g x (wipe σ vs) H' λmG H2=>wipe mG vs=wipe σ vs/\tt mG H2 λb H3=>
  if b=true then te mG H3 λy H4=>∃dM,H4 D=some (.lst dM)/\dM.length<bu/\Nx (upd H4 D (.lst (dM++[y]))) else Nx H3)
def NI {FT:Expr}{gs:List Comprehension}{a_:nz}{cJ py:Pos}{y:Str}{l:Nat}{env:Env}(hk:env.scope.kind=.function)(hy:env.scope.names.lookup y=some .local)(hl:(py.line==cJ.line)=true)
  (ha:(a_.names.any λ(n,k)=>n==y&&(k==.local||k==.cell))=false):mU (.ListComp FT gs a_ cJ) (some (.Name y py)) l env=pure true:=by
 have ky:env.kindOf y=some .local:=hy;have hb:env.blockKind=.function:=by unfold Env.blockKind;rw[hk];rfl
 unfold mU;simp only[hb,ky,ha,Expr.pos,hl];rfl
end
def abn (N:mX)(sc a_:nz)(own:List (Str×Nat)):Bool:=
 (match a_.kind with|.function=>true|_=>false)&&(a_.names.all λy=>decide (a_.names.lookup y.1=some y.2))&&(own.all λp=>decide (N[p.2]? =some p.1))&&
  (a_.names.all λy=>match y.2 with
   |.free=>(match sc.names.lookup y.1 with|some .cell=>true|some .free=>true|_=>false)
   |.local=>decide (y.1∈own.map (·.1))||decide (y.1∉N)
   |.cell=>decide (y.1∈own.map (·.1))||decide (y.1∉N)
   |_=>true)
def xP {N:mX}{sc a_:nz}{own:List (Str×Nat)}(h:abn N sc a_ own=true):N6 N sc a_ own:=by
 unfold abn at h;simp only[cM,fz,decide_eq_true_eq] at h;obtain⟨⟨⟨h1,h2⟩,h3⟩,h4⟩:=h;refine⟨?_,h2,h3,λy hy e=>?_,λy hy e=>?_⟩
 .split at h1
  .assumption
  .cases h1
 .have q:=h4 y hy;simp only[e] at q;split at q<;>first|exact .inl (by assumption)|exact .inr (by assumption)|cases q
 .have q:=h4 y hy;rcases e with e|e<;>(simp only[e,KU,decide_eq_true_eq] at q;exact q)
open PySem PySem.Spec PyProof.Rows
section
variable{prog:bJ}{w:cA}{A:Around}{R:Result->aL->Prop}{s:aL}{FT t0 i0 t1 i1:Expr}{avT avU:Fw}{a_:nz}{cJ:Pos}{it dM:kc}{env:Env}
end
section
variable{X:Cx}
end
open PySem PySem.Spec PyProof.Rows
section
variable{κ:Type}[DecidableEq κ]
def mS (cg:List (κ×V))(k:κ):Option V:=(cg.find? λkv=>decide (kv.1=k)).map (·.2)
def putK (cg:List (κ×V))(k:κ)(v:V):List (κ×V):=
 if(cg.any λkv=>decide (kv.1=k))=true then cg.map (λkv=>if kv.1=k then(kv.1,v) else kv) else cg++[(k,v)]
def uY (cg:List (κ×V))(k:κ):List (κ×V):=cg.filter λkv=>decide (kv.1≠k)
def mj {p:κ×V}{r:List (κ×V)}{k:κ}(e:p.1=k):mS (p::r) k=some p.2:=by simp[mS,oU,e]
def mi {p:κ×V}{r:List (κ×V)}{k:κ}(e:¬p.1=k):mS (p::r) k=mS r k:=by simp[mS,oU,e]
theorem tD (k:κ):∀cg:List (κ×V),(cg.any λkv=>decide (kv.1=k))=(mS cg k).isSome
 |[]=>rfl
 |p::r=>by
  rw[oH];by_cases e:p.1=k
  .simp only[mj e,ag e,Bool.true_or,Wt]
  .rw[mi e,ae e,Bool.false_or];exact tD k r
theorem Qs (k j:κ)(y:V):∀cg:List (κ×V),mS (cg.map λkv=>if kv.1=k then(kv.1,y) else kv) j=(mS cg j).map λx=>if j=k then y else x
 |[]=>rfl
 |p::r=>by
  have ih:=Qs k j y r;rw[cz];by_cases h:p.1=k
  .rw[aj h];by_cases e:p.1=j
   .rw[mj (p:=(p.1,y)) e,mj e,eX,aj (e.symm.trans h)]
   .rw[mi (p:=(p.1,y)) e,mi e,ih]
  .rw[ah h];by_cases e:p.1=j
   .rw[mj (p:=p) e,mj e,eX,ah (λz=>h (e.trans z))]
   .rw[mi (p:=p) e,mi e,ih]
theorem LU (k j:κ)(y:V):∀cg:List (κ×V),mS cg k=none->mS (cg++[(k,y)]) j=if j=k then some y else mS cg j
 |[],_=>by
  by_cases e:k=j
  .rw[aj e.symm];exact mj (p:=(k,y)) e
  .rw[ah (λz=>e z.symm)];exact mi (p:=(k,y)) e
 |p::r,hn=>by
  rw[xw];have hk:¬p.1=k:=λz=>by rw[mj z] at hn;cases hn
  rw[mi hk] at hn;have ih:=LU k j y r hn;by_cases e:p.1=j
  .rw[mj e,mj e,ah (λz=>hk (e.trans z))]
  .rw[mi e,mi e,ih]
def Dh (cg:List (κ×V))(k j:κ)(y:V):mS (putK cg k y) j=if j=k then some y else mS cg j:=by
 unfold putK;by_cases a:(cg.any λkv=>decide (kv.1=k))=true
 .rw[aj a,Qs];rw[tD] at a;by_cases e:j=k
  .obtain⟨x,hx⟩:=cX.mp a;rw[aj e,e,hx,eX,aj rfl]
  .rw[ah e];cases mS cg j with
   |none=>rfl
   |some x=>rw[eX,ah e]
 .rw[ah a];refine LU k j y cg ?_;rw[tD] at a;cases q:mS cg k with
  |none=>rfl
  |some x=>rw[q] at a;exact(a rfl).elim
def EN (cg:List (κ×V))(k:κ)(v:V):(putK cg k v).length<=cg.length+1:=by
 unfold putK;split
 .rw[aB];lia
 .rw[aO,aZ,dW];lia
def P6 {cg:List (κ×V)}{k:κ}(v:V)(h:mS cg k=none):putK cg k v=cg++[(k,v)]:=by
 unfold putK;rw[tD,h];exact ah (by decide)
def ur.D0 {o:Option V}{u:Option kc}(r:ur o u):o.isSome=u.isSome:=by
 cases o with
 |none=>cases u with
  |none=>rfl
  |some _=>exact(show False from r).elim
 |some _=>cases u with
  |none=>exact(show False from r).elim
  |some _=>rfl
def KV.val {cg:List (κ×V)}{vs:List (κ×kc)}(r:KV cg vs)(k:κ):ur (mS cg k) (L1 vs k):=by
 unfold KV at r;induction r with
 |nil=>exact m7
 | @cons p q ps qs h t ih=>
  obtain⟨h1,h2⟩:=h;by_cases e:p.1=k
  .have e':q.1=k:=h1.symm.trans e;have b:L1 (q::qs) k=some q.2:=by simp[L1,oU,e']
   rw[mj e,b];exact h2
  .have e':¬q.1=k:=λz=>e (h1.trans z);have b:L1 (q::qs) k=L1 qs k:=by simp[L1,oU,e']
   rw[mi e,b];exact ih
theorem KV.any {cg:List (κ×V)}{vs:List (κ×kc)}(r:KV cg vs)(k:κ):(cg.any λkv=>decide (kv.1=k))=vs.any λkv=>decide (kv.1=k):=by
 unfold KV at r;induction r with
 |nil=>rfl
 |cons h t ih=>rw[oH,oH,ih,h.1]
def KV.agd {cg:List (κ×V)}{vs:List (κ×kc)}(r:KV cg vs)(k:κ){y:V}{u:kc}(ry:RelV y u):
  KV (cg.map λkv=>if kv.1=k then(kv.1,y) else kv) (vs.map λkv=>if kv.1=k then(kv.1,u) else kv):=by
 unfold KV at r|-
 induction r with
 |nil=>exact .nil
 | @cons p q ps qs h t ih=>
  rw[cz,cz];refine .cons ?_ ih;obtain⟨h1,h2⟩:=h;by_cases e:p.1=k
  .rw[aj e,aj (h1.symm.trans e)];exact⟨h1,ry⟩
  .rw[ah e,ah (λz=>e (h1.trans z))];exact⟨h1,h2⟩
def KV.put {cg:List (κ×V)}{vs:List (κ×kc)}(r:KV cg vs)(k:κ){y:V}{u:kc}(ry:RelV y u):KV (putK cg k y) (stored vs k u):=by
 unfold putK stored;rw[r.any k];by_cases e:(vs.any λkv=>decide (kv.1=k))=true
 .rw[aj e,aj e];exact r.agd k ry
 .rw[ah e,ah e];exact Paired.snoc r ⟨Z,ry⟩
def KV.length {cg:List (κ×V)}{vs:List (κ×kc)}(r:KV cg vs):cg.length=vs.length:=Paired.length r
end
def TQ {P:bJ}{w:cA}{k:Key}{u:kc}(r:RelV (kV k) u):(lK P w).is k u=true:=by
 cases k with
 |inl i=>obtain⟨t,e⟩:=(show∃t,u=Value.int i t from r);subst e;exact Po P w i t
 |inr x=>obtain⟨t,e⟩:=(show∃t,u=Value.str x t from r);subst e;exact Pp P w x t
theorem Lu {P:bJ}{w:cA}:∀{ks:List Key} {us:gS},Vals (ks.map kV) us->ItemsAre (lK P w) ks us
 |[],_,r=>by rw[yU] at r;cases r;exact .nil
 |k::ks,_,r=>by
  rw[cz] at r;cases r with
  |cons h t=>exact .cons (TQ h) (Lu t)
abbrev KT (H:Hp):List (List Key×V)->List (List Key×lQ×kc)->Prop:=Paired λp q=>p.1=q.1/\H q.2.1=some (.tup (p.1.map kV))/\RelV p.2 q.2.2
def KT.val {H:Hp}{cg:List (List Key×V)}{xs:List (List Key×lQ×kc)}(r:KT H cg xs)(k:List Key):ur (mS cg k) ((Ux xs k).map (·.2)):=by
 induction r with
 |nil=>exact m7
 | @cons p q ps qs h t ih=>
  obtain⟨h1,_,h2⟩:=h;by_cases e:p.1=k
  .have e':q.1=k:=h1.symm.trans e;have b:Ux (q::qs) k=some q.2:=by simp[Ux,oU,e']
   rw[mj e,b];exact h2
  .have e':¬q.1=k:=λz=>e (h1.trans z);have b:Ux (q::qs) k=Ux qs k:=by simp[Ux,oU,e']
   rw[mi e,b];exact ih
def KT.agd {H:Hp}{cg:List (List Key×V)}{xs:List (List Key×lQ×kc)}(r:KT H cg xs)(k:List Key){y:V}{u:kc}(ry:RelV y u):
  KT H (cg.map λkv=>if kv.1=k then(kv.1,y) else kv) (xs.map (putAt k u)):=by
 induction r with
 |nil=>exact .nil
 | @cons p q ps qs h t ih=>
  rw[cz,cz];refine .cons ?_ ih;obtain⟨h1,h2,h3⟩:=h;unfold putAt;by_cases e:p.1=k
  .rw[aj e,aj (h1.symm.trans e)];exact⟨h1,h2,ry⟩
  .rw[ah e,ah (λz=>e (h1.trans z))];exact⟨h1,h2,h3⟩
def KT.put {H:Hp}{cg:List (List Key×V)}{xs:List (List Key×lQ×kc)}(r:KT H cg xs)(k:List Key){b:lQ}{y:V}{u:kc}(hb:H b=some (.tup (k.map kV)))(ry:RelV y u):
  KT H (putK cg k y) (storedH xs k b u):=by
 have e:(cg.any λkv=>decide (kv.1=k))=(Ux xs k).isSome:=by
  rw[tD,(r.val k).D0,W9]
 unfold putK storedH;rw[e];by_cases q:(Ux xs k).isSome=true
 .rw[aj q,aj q];exact r.agd k ry
 .rw[ah q,ah q];exact Paired.snoc r ⟨Z,hb,ry⟩
def KT.keeps {H H':Hp}{cg:List (List Key×V)}{xs:List (List Key×lQ×kc)}(r:KT H cg xs)(ht:∀b ys,H b=some (.tup ys)->H' b=some (.tup ys)):KT H' cg xs:=
 Paired.lR r λ_ _ z=>⟨z.1,ht _ _ z.2.1,z.2.2⟩
section
variable{P:bJ}{w:cA}{H:Hp}{h:Heap}{a:lQ}
def aeb {u:HO}(ok:wI P w H h)(e:Rd H a u):jq P w H h a u:=e.ok ok
def Tj {cg:List (Key×V)}(ok:wI P w H h)(e:Rd H a (.dK cg)):cg.length<=bu/\(a==oA)=false/\∃vs,KV cg vs/\h.DictOf (lK P w) a vs:=
 show jq P w H h a (.dK cg) from aeb ok e
def aiv {cg:List (Key×V)}(ok:wI P w H h)(e:H a=some (.dK cg)):cg.length<=bu/\(a==oA)=false/\∃vs,KV cg vs/\h.DictOf (lK P w) a vs:=Tj ok (.inl e)
def M3 {ks:List Key}(ok:wI P w H h)(e:H a=some (.tup (ks.map kV))):(N3 (lK P w)).is h ks a:=by
 obtain⟨_,dg,r,o,h1,h2,n,h3⟩:=(show jq P w H h a (.tup (ks.map kV)) from ok a _ e);exact⟨o,dg.toArray,n,h1,h2,h3,by simpa using Lu r⟩
def Tp {cg:List (List Key×V)}(ok:wI P w H h)(e:Rd H a (.dT cg)):cg.length<=bu/\(a==oA)=false/\
  ∃xs,KT H cg xs/\h.DictOfH (N3 (lK P w)) a xs:=by
 obtain⟨z,y,xs,r,o,es,ep,h1,h2,h3,h4,h5⟩:=(show jq P w H h a (.dT cg) from aeb ok e);refine⟨z,y,xs,r,o,es,ep,h1,h2,h3,h4,λx hx=>?_,h5⟩;have all:∀{l:List (List Key×V)} {m:List (List Key×lQ×kc)},KT H l m->∀x∈m,(N3 (lK P w)).is h x.1 x.2.1:=by
  intro l m q;induction q with
  |nil=>intro x hx;exact nomatch hx
  | @cons p q ps qs hq t ih=>
   intro x hx;rcases bo.mp hx with e|hx
   .subst e;exact M3 ok (by rw[<-hq.1];exact hq.2.1)
   .exact ih x hx
 exact all r x hx
def aix {cg:List (List Key×V)}(ok:wI P w H h)(e:H a=some (.dT cg)):cg.length<=bu/\(a==oA)=false/\
  ∃xs,KT H cg xs/\h.DictOfH (N3 (lK P w)) a xs:=Tp ok (.inl e)
end
def J0 (H:Hp)(a:lQ)(y:V)(r:Option V):Prop:=
 (∃cg k,Rd H a (.dK cg)/\y=kV k/\r=mS cg k)\/∃cg k b,Rd H a (.dT cg)/\y=.ref b/\H b=some (.tup (k.map kV))/\r=mS cg k
def ah1 (H:Hp)(a:lQ)(y v:V)(H':Hp):Prop:=
 (∃cg k,H a=some (.dK cg)/\y=kV k/\cg.length<bu/\H'=upd H a (.dK (putK cg k v)))\/
 ∃cg k b,H a=some (.dT cg)/\y=.ref b/\H b=some (.tup (k.map kV))/\cg.length<bu/\H'=upd H a (.dT (putK cg k v))
def J0.k {H:Hp}{a:lQ}{cg:List (Key×V)}{k:Key}(e:H a=some (.dK cg)):J0 H a (kV k) (mS cg k):=.inl ⟨cg,k,.inl e,Z,Z⟩
section
variable{X:Cx}{aA:jw}{σ:St}{H:Hp}{s:aL}{a:lQ}{y v:V}{u r:kc}{o:Option V}{A:Around}{E:j_}
def Inv.big (I:Inv X aA σ H s):oA<s.heap.objs.size:=by
 have h:mn<s.heap.objs.size:=(I.mod.glob.keeps I.bk).lt;exact Nat.lt_trans (by decide) h
def U7 {Q:j_}(hu:A.units+1<L0)(I:Inv X aA σ H s)(g:J0 H a y (some v))(ry:RelV y u)(h:∀w' s',Inv X aA σ H s'->RelV v w'->Q w' s'):
  bw (bA X.prog X.w) A (SU (.ref a) u) Q E s:=by
 rcases g with⟨cg,k,e,ey,l⟩|⟨cg,k,b,e,ey,eb,l⟩
 .subst ey;obtain⟨z,hd,vs,Qa,dd⟩:=Tj I.fV e;obtain⟨w',hw,rw'⟩:=ur.some_of (v:=v) (o:=L1 vs k) (by rw[l];exact Qa.val k);exact wpAny_getItem_of (TQ ry) dd.mapOf hw (h w' _ (I.tok _) rw')
 .subst ey;cases(show u=Value.ref b from ry);obtain⟨z,hd,xs,Qa,dd⟩:=Tp I.fV e;obtain⟨w',hw,rw'⟩:=ur.some_of (v:=v) (o:=(Ux xs k).map (·.2)) (by rw[l];exact Qa.val k);obtain⟨p,hp,WE⟩:=iZ.mp hw;refine wpAny_getItem_heap (JZ hu) (M3 I.fV eb) dd hp ?_;rw[WE];exact h w' _ (I.tok _) rw'
def abt {Q:j_}(hu:A.units+1<L0)(I:Inv X aA σ H s)(g:J0 H a y o)(ry:RelV y u)(h:∀s',Inv X aA σ H s'->Q (.bool (!o.isSome)) s'):
  bw (bA X.prog X.w) A (je .NotIn u (.ref a)) Q E s:=by
 rcases g with⟨cg,k,e,ey,l⟩|⟨cg,k,b,e,ey,eb,l⟩
 .subst ey;obtain⟨z,hd,vs,Qa,dd⟩:=Tj I.fV e;refine wpAny_notIn_of (TQ ry) hd dd.mapOf ?_;rw[<-(Qa.val k).D0,<-l];exact h _ (I.tok _)
 .subst ey;cases(show u=Value.ref b from ry);obtain⟨z,hd,xs,Qa,dd⟩:=Tp I.fV e;refine wpAny_notIn_heap (JZ hu) (M3 I.fV eb) hd dd ?_;have q:=(Qa.val k).D0;rw[W9] at q;rw[<-q,<-l];exact h _ (I.tok _)
def Tf {h':Heap}{t':Nat}{ob:HO}(I:Inv X aA σ H s)(mu:Mut (H a))(hs:Heap.SameBut a s.heap h')(he:∃q,h'.get? a=some q)(new:jq X.prog X.w (upd H a ob) h' a ob):
  Inv X aA σ (upd H a ob) {s with heap:=h',toks:=t'}:=
 I.write (x:=a) (e:=a) mu (.inl rfl) (λb q hb z=>(hs.2 b hb).trans z) he new
def aeZ {P:bJ}{w:cA}{H':Hp}{h':Heap}{cg:List (Key×V)}{vs:List (Key×kc)}(z:cg.length<=bu)(hd:(a==oA)=false)(Qa:KV cg vs)(dd:h'.DictOf (lK P w) a vs):
  jq P w H' h' a (.dK cg):=⟨z,hd,vs,Qa,dd⟩
def Va {H':Hp}{Q:Unit->aL->Prop}(hu:A.units+1<L0)(I:Inv X aA σ H s)(g:ah1 H a y v H')(ry:RelV y u)(rv:RelV v r)(h:∀s',Inv X aA σ H' s'->Q () s'):
  bw (bA X.prog X.w) A (setItem (.ref a) u r) Q E s:=by
 rcases g with⟨cg,k,e,ey,l,eH⟩|⟨cg,k,b,e,ey,eb,l,eH⟩
 .subst ey eH;obtain⟨z,hd,vs,Qa,dd⟩:=aiv I.fV e;have hz:vs.length<=bu:=by rw[<-Qa.length];exact z
  have hl:(putK cg k v).length<=bu:=by have:=EN cg k v;lia
  refine wpAny_setItem_pairs (hsz:=hz) (TQ ry) dd λh' dd' hs=>h _ ?_;have he:∃q,h'.get? a=some q:=let ⟨q,_,_,hq,_⟩:=dd';⟨q,hq⟩;exact Tf I (by rw[e];exact m7) hs he (aeZ hl hd (Qa.put k rv) dd')
 .subst ey eH;cases(show u=Value.ref b from ry);obtain⟨z,hd,xs,Qa,dd⟩:=aix I.fV e;have hz:xs.length<=bu:=by rw[<-Paired.length Qa];exact z
  have hl:(putK cg k v).length<=bu:=by have:=EN cg k v;lia
  refine wpAny_setItem_heap (hsz:=hz) (JZ hu) (M3 I.fV eb) dd λh' dd' hs=>h _ ?_;obtain⟨q,es,ep,hq,h2,h3,h4,_,h5⟩:=dd';refine Tf I (by rw[e];exact m7) hs ⟨q,hq⟩ ⟨hl,hd,_,(Qa.put k eb rv).keeps λc ys ec=>?_,q,es,ep,hq,h2,h3,h4,h5⟩;rw[aF (g_ ec e (λz=>nomatch z))];exact ec
end
section
variable{X:Cx}{aA:jw}{σ:St}{H:Hp}{s:aL}{a:lQ}{cg:List (Key×V)}{k:Key}{u:kc}{A:Around}{E:j_}
end
def aic (i:Expr):Prop:=∀ov iv,Qw i false ov iv=operate [ov,iv] (SU ov iv)
def acT {prog:bJ}{w:cA}{A:Around}{E:j_}{s:aL}{env:Env}{iW C1:Expr}{cJ:Pos}{T id:String}{Q:j_}
  (hl:kW (.type T) "__getitem__"=pure (some (.builtin id))) (hs:aic C1)
  (h:bw (bA prog w) A (eval iW env) (λo ip=>bw (bA prog w) A (eval C1 env) (λi mR=>mR.TypeIs o T/\bw (bA prog w) A (SU o i) Q E mR) E ip) E s):
  bw (bA prog w) A (eval (.Subscript iW C1 cJ) env) Q E s:=by
 refine ahT (dI h (λo ip abT=>dI abT (λi mR Yr=>?_) λ_ _ x=>x) λ_ _ x=>x);obtain⟨hT,Yr⟩:=Yr;unfold WQ;refine aR ?_;rw[getitemInPython_of_ne hT.not_modules];refine aR (wpAny_specialOf hT hl ?_);have fin:bw (bA prog w) A (Qw C1 false o i) (λr C_=>bw (bA prog w) A (letTemporaryGo iW o r >>=λ_=>pure r) Q E C_) E mR:=by
  rw[hs o i];exact wpAny_operating (dI Yr (λr C_ abU=>aR (wpAny_letTemporaryGo (bV abU))) λ_ _ x=>x)
 first
  |exact bV (aR fin)
  |exact aR (bV (aR fin))
  |exact aR fin
def OQ {X:Cx}{aA:jw}{σ:St}{H:Hp}{s:aL}{a:lQ}{y:V}{o:Option V}(I:Inv X aA σ H s)(g:J0 H a y o):s.TypeIs (.ref a) "dict":=by
 rcases g with⟨cg,k,e,_,_⟩|⟨cg,k,b,e,_,_,_⟩
 .obtain⟨_,_,vs,_,dd⟩:=Tj I.fV e;exact dd.typeIs
 .obtain⟨_,_,xs,_,dd⟩:=Tp I.fV e;exact dd.typeIs
inductive agM (Q:VK)(x:V)(y:V)(H2:Hp):Prop|i a v(_:x=.ref a)(_:J0 H2 a y (some v))(_:Q v H2)
def akI (td ty:TE):TE:=λσ H Q=>td σ H λx H1=>ty σ H1 (agM Q x)
inductive ZQ (Q:VK)(y:V)(x:V)(H2:Hp):Prop|i a o(_:x=.ref a)(_:J0 H2 a y o)(_:Q (.bl (!o.isSome)) H2)
def acY (ty td:TE):TE:=λσ H Q=>ty σ H λy H1=>td σ H1 (ZQ Q y)
inductive agg (D:Ends)(σ:St)(v:V)(x:V)(y:V)(H3:Hp):Prop|i a H4(_:x=.ref a)(_:ah1 H3 a y v H4)(_:D.nx σ H4)
def akg (td ty tv:TE):TS:=λD σ H=>tv σ H λv H1=>td σ H1 λx H2=>ty σ H2 (agg D σ v x)
section
variable{X:Cx}{o i e iW:Expr}{cJ xu JB:Pos}{td ty tv:TE}
def ace (hu:X.A.units+1<L0)(ho:PE X o td)(hi:PE X i ty)(hs:aic i):PE X (.Subscript o i cJ) (akI td ty):=by
 intro aA s σ H Q I h;refine acT PySem.F.slot_dict_getitem.lookup hs (jc (ho aA s σ H _ I h) λu s1 ⟨x,H1,I1,rx,q1⟩=>jc (hi aA s1 σ H1 _ I1 q1) λiv s2 ⟨y,H2,I2,ry,a,v,ex,g,q2⟩=>?_);subst ex;obtain rfl:u=Value.ref a:=rx;exact⟨OQ I2 g,U7 hu I2 g ry λw' s3 I3 rw'=>⟨v,H2,I3,rw',q2⟩⟩
def VH (hu:X.A.units+1<L0)(hi:PE X i ty)(ho:PE X o td):PC X .NotIn i o (acY ty td):=by
 intro aA s σ H Q I h;refine jc (hi aA s σ H _ I h) λiv s1 ⟨y,H1,I1,ry,q1⟩=>jc (ho aA s1 σ H1 _ I1 q1) λu s2 ⟨x,H2,I2,rx,a,ov,ex,g,q2⟩=>?_;subst ex;obtain rfl:u=Value.ref a:=rx;exact abt hu I2 g ry λs3 I3=>⟨.bl (!ov.isSome),H2,I3,Z,q2⟩
def acm (hu:X.A.units+1<L0)(ho:PE X o td)(hi:PE X i ty)(hv:PE X iW tv)(hs:mU iW (some (.Subscript o i xu)) cJ.line X.env=pure false):
  PS X (.Assign [.Subscript o i xu] iW cJ) (akg td ty tv):=by
 intro aA s σ H D I h;refine wpAny_Assign_Subscript (jc (hv aA s σ H _ I h) λr s1 ⟨v,H1,I1,rv,q1⟩=>jc (ho aA s1 σ H1 _ I1 q1) λu s2 ⟨x,H2,I2,rx,q2⟩=>jc (hi aA s2 σ H2 _ I2 q2) λiv s3 ⟨y,H3,I3,ry,a,H4,ex,g,q3⟩=>?_) hs;subst ex;obtain rfl:u=Value.ref a:=rx;exact Va hu I3 g ry rv λs4 I4=>⟨σ,H4,I4,q3⟩
end
def Xz {P:bJ}{w:cA}{H:Hp}(h:Heap)(hb:oA<h.objs.size):jq P w H (h.push {cls:=.type "dict",data:=.dict #[]}) h.objs.size (.dK []):=
 ⟨eT _,beq_eq_false_iff_ne.mpr (eP (cG hb)),[],.nil,Heap.DictOf.new h⟩
def agN:TE:=λ_ H Q=>∀p,H p=none->Q (.ref p) (upd H p (.dK []))
section
variable{X:Cx}{cJ:Pos}
def Y3:PE X (.Dict [] [] cJ) agN:=λaA s σ H Q I h=>
 wpAny_Dict_empty ⟨.ref s.heap.objs.size,_,I.laid (a:=s.heap.objs.size) (o:=.dK []) (t':=s.toks) (λ_ _ q=>Heap.get?_push_of_some _ q) (bq _) (Xz s.heap I.big),Z,h _ (I.fV.fresh (bq _))⟩
end
section
variable{X:Cx}{aA:jw}{σ:St}{H:Hp}{s:aL}{a:lQ}{y d:V}{u r:kc}{o:Option V}{A:Around}{E:j_}
end
section
variable{X:Cx}{o e f:Expr}{kM lj:Pos}{td ty tx:TE}
end
section
variable{X:Cx}{aA:jw}{σ:St}{H:Hp}{s:aL}{a:lQ}{cg:List (Key×V)}{A:Around}{E:j_}
end
section
variable{X:Cx}{aA:jw}{σ:St}{H:Hp}{s:aL}{a:lQ}{y:V}{u:kc}{A:Around}{E:j_}
end
open PySem PySem.Spec PyProof.Rows
section
variable{prog:bJ}{w:cA}{A:Around}{E:j_}
end
section
variable{X:Cx}
end
open PySem PySem.Spec PyProof.Rows
def Hu:rK "reversed"=some (.type "reversed"):=by decide+kernel
section
variable{X:Cx}{aA:jw}{σ:St}{H:Hp}{s:aL}{h':Heap}
def Inv.ac5 {t':Nat}{ch:pF}(I:Inv X aA σ H s)(k:∀b o,b∉ch->s.heap.get? b=some o->h'.get? b=some o)(hf:∀b∈ch,Fu X aA H b):Inv X aA σ H {s with heap:=h',toks:=t'}:=by
 have nit:∀b u,H b=some u->b∉ch:=λb u e z=>by
  have q:=(hf b z).1;rw[q] at e;cases e
 refine I.step (g':=s.gens) (d':=s.drawn) (ch:=ch) (λb hb=>⟨(hf b hb).2.2.2.1,(hf b hb).2.1,(hf b hb).2.2.2.2.1,(hf b hb).2.2.2.2.2⟩) (λb o _ _ hc e _=>k b o hc e) (λb o _ _ hc e _=>⟨o.slots,k b o hc e⟩)
  (λ_ _ _ _ n=>n) (λb o hc e=>⟨o,k b o hc e⟩) (λ_ _ e=>e) (λ_ _ _ e=>e) (λb ps e=>⟨#[],by rw[e];simp⟩) (λm hm=>?_) (λb u e=>?_) I.bare
 .obtain⟨o,es,ep,ho,r⟩:=hm;exact⟨o,es,ep,k _ o (λz=>(hf _ z).2.1 rfl) ho,r⟩
 .refine(I.fV b u e).zZ (λc v hc q=>k c v ?_ q) (λ_ q=>q) λ_ _ q=>q;rcases hc with z|z
  .rw[z];exact nit b u e
  .exact nit c _ z
def Inv.LR {t':Nat}{ch:pF}{T:lQ}{ob:HO}(I:Inv X aA σ H s)(k:∀b o,b∉ch->s.heap.get? b=some o->h'.get? b=some o)(hf:∀b∈ch,Fu X aA H b)(hT:s.heap.objs.size<=T)
  (new:jq X.prog X.w (upd H T ob) h' T ob):Inv X aA σ (upd H T ob) {s with heap:=h',toks:=t'}:=by
 have hn:H T=none:=I.fV.fresh hT;have nit:∀b u,H b=some u->b∉ch:=λb u e z=>by
  have q:=(hf b z).1;rw[q] at e;cases e
 refine I.step (g':=s.gens) (d':=s.drawn) (ch:=ch) (λb hb=>⟨(hf b hb).2.2.2.1,(hf b hb).2.1,(hf b hb).2.2.2.2.1,(hf b hb).2.2.2.2.2⟩) (λb o _ _ hc e _=>k b o hc e) (λb o _ _ hc e _=>⟨o.slots,k b o hc e⟩)
  (λb o _ e n=>?_) (λb o hc e=>⟨o,k b o hc e⟩) (λb xs e=>?_) (λb o u e=>?_) (λb ps e=>⟨#[],?_⟩) (λm hm=>?_) (λb u e=>?_) I.bare
 .rw[aF (cG (bc (Heap.lt_size e) hT))];exact n
 .rw[aF (aI e hn)];exact e
 .rw[aF (aI e hn)];exact e
 .rw[aF (aI e hn),e];simp
 .obtain⟨o,es,ep,ho,r⟩:=hm;exact⟨o,es,ep,k _ o (λz=>(hf _ z).2.1 rfl) ho,r⟩
 .by_cases hb:b=T
  .subst hb;rw[aq] at e;cases e;exact new
  .rw[aF hb] at e;refine(I.fV b u e).zZ (λc v hc q=>k c v ?_ q) (λc q=>by rw[aF (aI q hn)];exact q) λc xs q=>by rw[aF (aI q hn)];exact q
   rcases hc with z|z
   .rw[z];exact nit b u e
   .exact nit c _ z
end
section
variable{X:Cx}
def Y8 {tg:Expr}{aA:jw}{σ:St}{H:Hp}{s:aL}{R:It->Hp->Prop}{J:It}{tn:Nat->Heap->Prop}{tk:Nat}(I:Inv X aA σ H s)(o:Obj)
  (T:Turn X.prog X.w X.K tg J [s.heap.objs.size] s.heap.objs.size tn) (st:tn 0 (s.heap.push o)) (q:R J H):PIE X aA σ tg R (.ref s.heap.objs.size) {s with heap:=s.heap.push o,toks:=tk}:=by
 refine⟨s.heap.objs.size,[s.heap.objs.size],tn,J,H,Z,I.kept λb ob e=>Heap.get?_push_of_some _ e,T,st,λb hb=>?_,q⟩;have e:b=s.heap.objs.size:=by simpa using hb
 subst e;exact I.RD (bq _) (I.fV.fresh (bq _))
end
def Itc (lo c:Int)(n:Nat):It:=⟨λi _=>i<n,λi H x H'=>H'=H/\x=.int (lo+(i:Nat)*c),λi _=>n<=i⟩
def Qq {P:bJ}{w:cA}{K:au}{tg:Expr}(it:lQ)(lo c:Int)(n:Nat):Turn P w K tg (Itc lo c n) [it] it (λi h=>Qv h it (lo+(i:Nat)*c) ((n:Int)-(i:Nat)) c) where
 mem:=by simp
 obj:=λi h st b hb=>by
  have e:b=it:=by simpa using hb
  subst e;exact⟨_,st,λv z=>nomatch z⟩
 keep:=λi h h' st k=>k it (by simp) _ st
 item:=by
  intro X hP hw hK hc i aA s σ H E I hf st hg;subst hP hw hK;obtain⟨f0,f1,f2,f3,f4,f5⟩:=hf it (by simp);have W:=Walks.range (prog:=X.prog) (w:=X.w) (I.ok.hd hc) it lo c n;refine W.item i s _ _ hg st λv h' tk hv uO kk=>?_;obtain⟨t,rfl⟩:=hv;have I1:Inv X aA σ H {s with heap:=h',toks:=tk}:=I.turned (λb o hb e=>kk b o (by simpa using hb) e) f0 f1 f3 f4 f5;exact⟨_,Z,Tz (s:={s with heap:=h',toks:=tk}) (n:="range_iterator") uO rfl rfl (by decide) ⟨.int (lo+(i:Nat)*c),H,I1,⟨t,Z⟩,⟨Z,Z⟩,uO,λb hb=>(hf b hb).1⟩⟩
 done:=by
  intro X hP hw hK hc i aA s σ H E I hf st hg;subst hP hw hK;obtain⟨f0,f1,f2,f3,f4,f5⟩:=hf it (by simp);exact aaZ (I.ok.hd hc) st (by have:n<=i:=hg;lia) λh' eb=>⟨Z,I.turned (t':=s.toks) (λb o hb e=>eb b o hb e) f0 f1 f3 f4 f5⟩
 self:=λA i s Q E st h=>aaY st h
def RgC (i j c:Int)(n:Nat):Prop:=c≠0/\c.natAbs<1073741824/\Builtin.Range.small i j c=true/\Builtin.Range.rangeSize i j c=n
def RgC.neg {i j:Int}(ha: -(2^62)<=i)(ha':i<2^62)(hb: -(2^62)<=j)(hb':j<2^62):RgC i j (-1) (i-j).toNat:=
 ⟨by decide,by decide,PySem.W.small_down ha ha' hb hb',PySem.W.rangeSize_downNat i j⟩
inductive afI (R:It->Hp->Prop)(vs:b_)(H1:Hp):Prop|i(i j c:Int)(n:Nat)(_:vs=[.int i,.int j,.int c])(_:RgC i j c n)(_:R (Itc i c n) H1)
def ajB (ta:TA):TI:=λσ H R=>ta σ H (afI R)
section
variable{X:Cx}{tg:Expr}
def zk {a b c:Expr}{ta:TA}{p cJ:Pos}(hg:Gl X "range")(hm:X.mg "range"=none)(ha:PA X [a,b,c] ta)
  (hs:autoParam (dv [a,b,c] X.env=(false,eval a X.env)::dv [b,c] X.env) Z_r) (ot:autoParam ((m9 cJ (dv [b,c] X.env)).any (·.1)=false) Z_r):
  PI X tg (.Call (.Name "range" p) [a,b,c] [] cJ) (ajB ta):=by
 intro aA s σ H R I h;refine Call_ (wm I hg hm ahU (eK (jc (ha cJ aA s σ H _ I h) λus s1 ⟨vs,H1,I1,r1,q1⟩=>?_) hs ot));obtain⟨i,j,k,n,e,⟨c0,c1,c2,c3⟩,q⟩:=q1;subst e;cases r1 with
 |cons r rr=>
  cases rr with
  |cons r' rr=>
   cases rr with
   |cons r'' rr=>
    cases rr;obtain⟨t,rfl⟩:=r;obtain⟨t',rfl⟩:=r';obtain⟨t'',rfl⟩:=r'';refine call_range_3 c0 ?_ (.inl (Oe c1));refine ahY (IsRange.new ..) c2 ?_;have I2:Inv X aA σ H1 {s1 with heap:=s1.heap.push {cls:=.type "range",data:=.fields #[.int i t,.int j t',.int k t'']}}:=I1.kept (t':=s1.toks) λb o e=>Heap.get?_push_of_some _ e;refine Y8 (tk:=s1.toks) I2 _ (Qq _ i k n) ?_ q;have e1:i+((0:Nat):Int)*k=i:=by simp
    have e2:(n:Int)-((0:Nat):Int)=Builtin.Range.rangeSize i j k:=by rw[c3];simp
    show Qv _ _ (i+((0:Nat):Int)*k) ((n:Int)-((0:Nat):Int)) k;rw[e1,e2];exact Heap.get?_push_size _ rfl
end
def wc {lo c:Int}{n:Nat}{g:TG}{tb:TS}{D:Ends}{σ:St}{H:Hp}(Pv:Nat->St->Hp->Prop)(h0:Pv 0 σ H)
  (hs:∀i σ H,i<n->Pv i σ H->g (.int (lo+(i:Nat)*c)) σ H λmG H2=>tb {D with nx:=Pv (i+1),ct:=Pv (i+1),bk:=D.nx} mG H2) (hd:∀σ H,Pv n σ H->D.nx σ H):
  ∃W:Nat->Nat->St->Hp->Prop,(∃m,W 0 m σ H)/\∀i m σ H,W i m σ H->
   ((Itc lo c n).stop i H/\D.nx σ H)\/((Itc lo c n).go i H/\∃N:St->Hp->Prop,(∀gz H',N gz H'->∃m',m'<m/\W (i+1) m' gz H')/\∀x H',(Itc lo c n).Wc i H x H'->g x σ H' λmG H2=>tb {D with nx:=N,ct:=N,bk:=D.nx} mG H2):=by
 refine⟨λi m σ H=>m=n-i/\i<=n/\Pv i σ H,⟨n,by simp,eT _,h0⟩,?_⟩;rintro i m σ H ⟨rfl,hi,p⟩;by_cases BF:i<n
 .refine .inr ⟨BF,Pv (i+1),λgz H' p'=>⟨n-(i+1),by lia,Z,BF,p'⟩,λx H' y=>?_⟩;obtain⟨e,y⟩:=y;subst e y;exact hs i σ _ BF p
 .have e:i=n:=by lia
  subst e;exact .inl ⟨bq _,hd σ H p⟩
def Itv (K:au)(a:lQ)(n:Nat):It:=
 ⟨λi H=>i<n/\∃(xs:b_) (x:V),nM K H a xs/\xs[n-1-i]? =some x,λi H x H'=>H'=H/\∀xs,nM K H a xs->xs[n-1-i]? =some x,λi _=>n<=i⟩
def ZW {P:bJ}{w:cA}{K:au}{tg:Expr}(a it:lQ)(n:Nat):Turn P w K tg (Itv K a n) [it] it (λi h=>i<=n/\h.IsRevIter it a ((n:Int)-1-(i:Nat))) where
 mem:=by simp
 obj:=λi h st b hb=>by
  have e:b=it:=by simpa using hb
  subst e;obtain⟨_,o,e,c,d⟩:=st;exact⟨o,e,λv z=>by rw[d] at z;cases z⟩
 keep:=λi h h' st k=>⟨st.1,st.2.at λo e=>k it (by simp) o e⟩
 item:=by
  intro X hP hw hK hc i aA s σ H E I hf st hg;subst hP hw hK;obtain⟨hin,xs,x,hq,hx⟩:=hg;obtain⟨dg,rv,p,hz⟩:=I.list hq;obtain⟨u,hu,ru⟩:=rv.get hx;obtain⟨f0,f1,f2,f3,f4,f5⟩:=hf it (by simp);obtain⟨_,JS⟩:=st;have e1:(n:Int)-1-((i:Nat):Int)=((n-1-i:Nat):Int):=by lia
  rw[e1] at JS;refine wpAny_pyNext_rev_item JS p.isList (x:=u) (by simpa using hu) λh' uO sb=>?_;have e2:((n-1-i:Nat):Int)-1=(n:Int)-1-((i+1:Nat):Int):=by lia
  rw[e2] at uO;have I1:Inv X aA σ H {s with heap:=h'}:=I.turned (t':=s.toks) (λb o hb e=>(sb.2 b hb).trans e) f0 f1 f3 f4 f5;obtain⟨o,e,c,d⟩:=id uO;exact⟨u,Z,Tz (s:={s with heap:=h'}) e c d (by decide) ⟨x,H,I1,ru,⟨Z,λys hy=>by rw[I.yw hy hq];exact hx⟩,⟨hin,uO⟩,λb hb=>(hf b hb).1⟩⟩
 done:=by
  intro X hP hw hK hc i aA s σ H E I hf st hg;subst hP hw hK;obtain⟨f0,f1,f2,f3,f4,f5⟩:=hf it (by simp);obtain⟨hin,JS⟩:=st;have hge:n<=i:=hg;have e1:(n:Int)-1-((i:Nat):Int)= -1:=by lia
  rw[e1] at JS;exact wpAny_pyNext_rev_end (I.ok.hd hc) JS λh' eb=>⟨Z,I.turned (t':=s.toks) (λb o hb e=>eb b o hb e) f0 f1 f3 f4 f5⟩
 self:=λA i s Q E st h=>aeB st.2 h
inductive ajy (K:au)(R:It->Hp->Prop)(vs:b_)(H1:Hp):Prop|i(a:lQ)(xs:b_)(_:vs=[.ref a])(_:nM K H1 a xs)(_:R (Itv K a xs.length) H1)
def aoQ (K:au)(ta:TA):TI:=λσ H R=>ta σ H (ajy K R)
section
variable{X:Cx}{tg:Expr}
def Fd {e:Expr}{ta:TA}{p cJ:Pos}(hg:Gl X "reversed")(hm:X.mg "reversed"=none)(ha:PA X [e] ta)(hs:autoParam (dv [e] X.env=[(false,eval e X.env)]) Z_r):PI X tg (.Call (.Name "reversed" p) [e] [] cJ) (aoQ X.K ta):=by
 intro aA s σ H R I h;refine Call_ (wm I hg hm Hu (eK (jc (ha cJ aA s σ H _ I h) λus s1 ⟨vs,H1,I1,r1,q1⟩=>?_) hs rfl));obtain⟨a,xs,e,hq,q⟩:=q1;subst e;cases r1 with
 |cons r rr=>
  cases rr;cases r;obtain⟨dg,rv,p',hz⟩:=I1.list hq;have hl:=rv.length;have e1:((dg.toArray.size:Nat):Int)-1=(xs.length:Int)-1-((0:Nat):Int):=by simp only[bB];lia
  refine call_reversed_list p'.isList (aeB (l:=a) (i:=((dg.toArray.size:Nat):Int)-1) ⟨_,Heap.get?_push_size _ rfl,Z,Z⟩ ?_);refine Y8 (tk:=s1.toks) I1 _ (ZW a _ xs.length) ⟨eT _,?_⟩ q;rw[<-e1];exact⟨_,Heap.get?_push_size _ rfl,Z,Z⟩
end
section
variable{prog:bJ}{w:cA}{A:Around}{E:j_}{s:aL}
end
section
variable{X:Cx}{aA:jw}{σ:St}{H:Hp}{s:aL}{d:lQ}{o:Obj}
end
section
variable{P:bJ}{w:cA}{K:au}{tg:Expr}{d:lQ}{o:Obj}{es:Array DictEntry}{ep:Nat}
end
section
variable{X:Cx}{tg e:Expr}{td:TE}{kM lj:Pos}
end
def Ite (K:au)(a:lQ):It:=
 ⟨λi H=>∃(xs:b_) (x:V),nM K H a xs/\xs[i]? =some x,λi H v H'=>∃T x,v=.ref T/\H T=none/\H'=upd H T (.tup [.int (i:Nat),x])/\∀xs,nM K H a xs->xs[i]? =some x,λi H=>∃xs:b_,nM K H a xs/\xs.length<=i⟩
def V6 {P:bJ}{w:cA}{K:au}{Rm:Fw}{kk:Nat}{JB:Pos}(a e it:lQ):
  Turn P w K (.Tuple Rm kk JB) (Ite K a) [e,it] e (λi h=>(∃old,IsEnum h e it ((i:Nat):Int) old)/\h.IsListIter it a i/\e≠it) where
 mem:=by simp
 obj:=λi h st b hb=>by
  obtain⟨⟨old,he⟩,⟨o,ho,hc,hd⟩,_⟩:=st;have e':b=e\/b=it:=by simpa using hb
  rcases e' with z|z
  .rw[z];exact⟨_,he,λv q=>nomatch q⟩
  .rw[z];exact⟨o,ho,λv q=>by rw[hd] at q;cases q⟩
 keep:=λi h h' st k=>let ⟨⟨old,he⟩,hi,GI⟩:=st;⟨⟨old,k e (by simp) _ he⟩,hi.at λo q=>k it (by simp) o q,GI⟩
 item:=by
  intro X hP hw hK hc i aA s σ H E I hf st hg;subst hP hw hK;obtain⟨⟨old,he⟩,JS,GI⟩:=st;obtain⟨xs,x,hq,hx⟩:=hg;obtain⟨dg,rv,p,hz⟩:=I.list hq;obtain⟨u,hu,ru⟩:=rv.get hx;have hel:e<s.heap.objs.size:=Heap.lt_size he;have hil:it<s.heap.objs.size:=by obtain⟨_,q,_⟩:=JS;exact Heap.lt_size q
  refine wpAny_pyNext_enum_item he JS p.isList (x:=u) (by simpa using hu) GI λh' ho an1 hT hsz hk=>?_;refine⟨_,Z,wpAny_letOwnedTupleGo_enum (s:={s with heap:=h',toks:=s.toks+1}) ho λh'' he' sb=>?_⟩;have hT2:h''.get? s.heap.objs.size=some {cls:=.type "tuple",data:=.seq #[.int i s.toks,u]}:=(sb.2 _ (UO hel)).trans hT;have new:jq X.prog X.w (upd H s.heap.objs.size (.tup [.int (i:Nat),x])) h'' s.heap.objs.size (.tup [.int (i:Nat),x]):=
   ⟨by show 2<=bu;decide,[.int i s.toks,u],.cons ⟨_,Z⟩ (.cons ru .nil),⟨_,hT2,Z,_,Z⟩⟩
  have I1:Inv X aA σ (upd H s.heap.objs.size (.tup [.int (i:Nat),x])) {s with heap:=h'',toks:=s.toks+1}:=
   I.LR (ch:=[e,it]) (λb ob hb q=>(sb.2 b (λz=>hb (by simp[z]))).trans (hk b ob (λz=>hb (by simp[z])) (λz=>hb (by simp[z])) q)) hf (bq _) new
  refine⟨.ref s.heap.objs.size,_,I1,Z,⟨_,x,Z,I.fV.fresh (bq _),Z,λys hy=>by rw[I.yw hy hq];exact hx⟩,⟨⟨u,?_⟩,an1.at λo q=>(sb.2 it (eP GI)).trans q,GI⟩,λb hb=>?_⟩
  .have e1:((i+1:Nat):Int)=(i:Int)+1:=by lia
   rw[e1];exact he'
  .have hb':b<s.heap.objs.size:=by
    have e':b=e\/b=it:=by simpa using hb
    rcases e' with z|z
    .rw[z];exact hel
    .rw[z];exact hil
   rw[aF (cG hb')];exact(hf b hb).1
 done:=by
  intro X hP hw hK hc i aA s σ H E I hf st hg;subst hP hw hK;obtain⟨⟨old,he⟩,JS,GI⟩:=st;obtain⟨xs,hq,hx⟩:=hg;obtain⟨dg,rv,p,hz⟩:=I.list hq;obtain⟨f0,f1,f2,f3,f4,f5⟩:=hf it (by simp);have hl:=rv.length;exact wpAny_pyNext_enum_end (I.ok.hd hc) he JS p.isList (by simp;lia) λh' eb=>⟨Z,I.turned (t':=s.toks) (λb o hb q=>eb b o hb q) f0 f1 f3 f4 f5⟩
 self:=λA i s Q E st h=>let ⟨⟨_,he⟩,_⟩:=st;akX he h
inductive afE (K:au)(R:It->Hp->Prop)(vs:b_)(H1:Hp):Prop|i a xs(_:vs=[.ref a])(_:nM K H1 a xs)(_:R (Ite K a) H1)
def ajx (K:au)(ta:TA):TI:=λσ H R=>ta σ H (afE K R)
def GN {X:Cx}{e:Expr}{ta:TA}{p cJ JB:Pos}{Rm:Fw}{kk:Nat}(hg:Gl X "enumerate")(hm:X.mg "enumerate"=none)(ha:PA X [e] ta)(hs:autoParam (dv [e] X.env=[(false,eval e X.env)]) Z_r):
  PI X (.Tuple Rm kk JB) (.Call (.Name "enumerate" p) [e] [] cJ) (ajx X.K ta):=by
 intro aA s σ H R I h;refine Call_ (wm I hg hm boot_enumerate (eK (jc (ha cJ aA s σ H _ I h) λus s1 ⟨vs,H1,I1,r1,q1⟩=>?_) hs rfl));obtain⟨a,xs,ex,hq,q⟩:=q1;subst ex;cases r1 with
 |cons r rr=>
  cases rr;cases r;obtain⟨dg,rv,p',hz⟩:=I1.list hq;refine call_enumerate_list p'.isList λh' he JS hsz hk=>akX he ?_;have I2:Inv X aA σ H1 {s1 with heap:=h'}:=I1.kept (t':=s1.toks) hk;refine⟨s1.heap.objs.size+1,[s1.heap.objs.size+1,s1.heap.objs.size],_,_,H1,Z,I2,V6 a (s1.heap.objs.size+1) s1.heap.objs.size,⟨⟨.none,he⟩,JS,Nat.succ_ne_self _⟩,λb hb=>?_,q⟩;have e':b=s1.heap.objs.size+1\/b=s1.heap.objs.size:=by simpa using hb
  have O_:s1.heap.objs.size<=b:=by
   rcases e' with z|z
   .rw[z];exact jt _ _
   .rw[z];exact bq _
  exact I1.RD O_ (I1.fV.fresh O_)
def U3:rK "zip"=some (.type "zip"):=by decide+kernel
def Itz (K:au)(a b:lQ):It:=
 ⟨λi H=>∃(xs ys:b_) (x y:V),nM K H a xs/\nM K H b ys/\xs[i]? =some x/\ys[i]? =some y,
  λi H v H'=>∃T x y,v=.ref T/\H T=none/\H'=upd H T (.tup [x,y])/\(∀xs,nM K H a xs->xs[i]? =some x)/\∀ys,nM K H b ys->ys[i]? =some y,
  λi H=>∃xs ys:b_,nM K H a xs/\nM K H b ys/\(xs.length<=i\/ys.length<=i)⟩
def ZX {P:bJ}{w:cA}{K:au}{Rm:Fw}{kk:Nat}{JB:Pos}{a b z TI TO i1 i2:lQ}(D:ZipApart z TI TO i1 i2 a b):
  Turn P w K (.Tuple Rm kk JB) (Itz K a b) [z,TI,TO,i1,i2] z (λi h=>IsZip h z TI TO .none/\IsPair h TI (.ref i1) (.ref i2)/\(∃x y,IsPair h TO x y)/\h.IsListIter i1 a i/\h.IsListIter i2 b i) where
 mem:=by simp
 obj:=λi h st c hc=>by
  obtain⟨hz,XZ,⟨x,y,hTO⟩,⟨o1,e1,_,d1⟩,⟨o2,e2,_,d2⟩⟩:=st;have e':c=z\/c=TI\/c=TO\/c=i1\/c=i2:=by simpa using hc
  rcases e' with q|q|q|q|q
  .rw[q];exact⟨_,hz,λv q=>nomatch q⟩
  .rw[q];exact⟨_,XZ,λv q=>nomatch q⟩
  .rw[q];exact⟨_,hTO,λv q=>nomatch q⟩
  .rw[q];exact⟨o1,e1,λv q=>by rw[d1] at q;cases q⟩
  .rw[q];exact⟨o2,e2,λv q=>by rw[d2] at q;cases q⟩
 keep:=λi h h' st k=>by
  obtain⟨hz,XZ,⟨x,y,hTO⟩,h1,h2⟩:=st;exact⟨k z (by simp) _ hz,k TI (by simp) _ XZ,⟨x,y,k TO (by simp) _ hTO⟩,h1.at λo q=>k i1 (by simp) o q,h2.at λo q=>k i2 (by simp) o q⟩
 item:=by
  intro X hP hw hK hc i aA s σ H E I hf st hg;subst hP hw hK;obtain⟨hz,XZ,⟨x0,y0,hTO⟩,h1,h2⟩:=st;obtain⟨xs,ys,x,y,hqx,hqy,hx,hy⟩:=hg;obtain⟨dg,rv,p,_⟩:=I.list hqx;obtain⟨Iq,rv2,p2,_⟩:=I.list hqy;obtain⟨u,hu,ru⟩:=rv.get hx;obtain⟨u2,hu2,ru2⟩:=rv2.get hy;have hzl:z<s.heap.objs.size:=Heap.lt_size hz;refine wpAny_pyNext_zip_item D hz XZ hTO h1 h2 p.isList p2.isList (x:=u) (y:=u2) (by simpa using hu) (by simpa using hu2) λh' z' TO' RE h2' hT hsz hk=>?_;refine⟨_,Z,wpAny_letOwnedTupleGo_zip (s:={s with heap:=h'}) z' λh'' z'' sb=>?_⟩;have hT2:h''.get? s.heap.objs.size=some {cls:=.type "tuple",data:=.seq #[u,u2]}:=(sb.2 _ (UO hzl)).trans hT;have new:jq X.prog X.w (upd H s.heap.objs.size (.tup [x,y])) h'' s.heap.objs.size (.tup [x,y]):=
   ⟨by show 2<=bu;decide,[u,u2],.cons ru (.cons ru2 .nil),⟨_,hT2,Z,_,Z⟩⟩
  have I1:Inv X aA σ (upd H s.heap.objs.size (.tup [x,y])) {s with heap:=h''}:=
   I.LR (t':=s.toks) (ch:=[z,TI,TO,i1,i2]) (λc o hb q=>(sb.2 c (λq'=>hb (by simp[q']))).trans (hk c o (λq'=>hb (by simp[q'])) (λq'=>hb (by simp[q'])) (λq'=>hb (by simp[q'])) (λq'=>hb (by simp[q'])) q)) hf (bq _) new
  refine⟨.ref s.heap.objs.size,_,I1,Z,⟨_,x,y,Z,I.fV.fresh (bq _),Z,λl hl=>by rw[I.yw hl hqx];exact hx,λl hl=>by rw[I.yw hl hqy];exact hy⟩,⟨z'',?_,⟨u,u2,?_⟩,?_,?_⟩,λc hcm=>?_⟩
  .exact(sb.2 _ D.TIz).trans (hk _ _ D.TIz D.TITO D.TIi1 D.TIi2 XZ)
  .exact(sb.2 _ D.TOz).trans TO'
  .exact RE.at λo q=>(sb.2 _ D.i1z).trans q
  .exact h2'.at λo q=>(sb.2 _ D.i2z).trans q
  .have BF:c<s.heap.objs.size:=by
    have e':c=z\/c=TI\/c=TO\/c=i1\/c=i2:=by simpa using hcm
    rcases e' with q|q|q|q|q
    .rw[q];exact hzl
    .rw[q];exact Heap.lt_size XZ
    .rw[q];exact Heap.lt_size hTO
    .rw[q];obtain⟨_,e1,_⟩:=h1;exact Heap.lt_size e1
    .rw[q];obtain⟨_,e2,_⟩:=h2;exact Heap.lt_size e2
   rw[aF (cG BF)];exact(hf c hcm).1
 done:=by
  intro X hP hw hK hc i aA s σ H E I hf st hg;subst hP hw hK;obtain⟨hz,XZ,⟨x0,y0,hTO⟩,h1,h2⟩:=st;obtain⟨xs,ys,hqx,hqy,RG⟩:=hg;obtain⟨dg,rv,p,_⟩:=I.list hqx;obtain⟨Iq,rv2,p2,_⟩:=I.list hqy;have l1:=rv.length;have l2:=rv2.length;have he:dg.toArray[i]? =none\/Iq.toArray[i]? =none:=by
   rcases RG with q|q
   .exact .inl (by simp;lia)
   .exact .inr (by simp;lia)
  exact wpAny_pyNext_zip_end (I.ok.hd hc) D hz XZ hTO h1 h2 p.isList p2.isList he λh' hk=>⟨Z,I.ac5 (t':=s.toks) (ch:=[z,TI,TO,i1,i2]) (λc o hb q=>
   hk c o (λq'=>hb (by simp[q'])) (λq'=>hb (by simp[q'])) (λq'=>hb (by simp[q'])) (λq'=>hb (by simp[q'])) q) hf⟩
 self:=λA i s Q E st h=>aml st.1 h
inductive ajC (K:au)(R:It->Hp->Prop)(vs:b_)(H1:Hp):Prop|i a b xs ys(_:vs=[.ref a,.ref b])(_:nM K H1 a xs)(_:nM K H1 b ys)(_:R (Itz K a b) H1)
def aoR (K:au)(ta:TA):TI:=λσ H R=>ta σ H (ajC K R)
def Bm {X:Cx}{e e2:Expr}{ta:TA}{p cJ JB:Pos}{Rm:Fw}{kk:Nat}(hg:Gl X "zip")(hm:X.mg "zip"=none)(ha:PA X [e,e2] ta)
  (hs:autoParam (dv [e,e2] X.env=(false,eval e X.env)::dv [e2] X.env) Z_r) (ot:autoParam ((m9 cJ (dv [e2] X.env)).any (·.1)=false) Z_r):
  PI X (.Tuple Rm kk JB) (.Call (.Name "zip" p) [e,e2] [] cJ) (aoR X.K ta):=by
 intro aA s σ H R I h;refine Call_ (wm I hg hm U3 (eK (jc (ha cJ aA s σ H _ I h) λus s1 ⟨vs,H1,I1,r1,q1⟩=>?_) hs ot));obtain⟨a,b,xs,ys,ex,hqx,hqy,q⟩:=q1;subst ex;cases r1 with
 |cons r rr=>
  cases rr with
  |cons r' rr=>
   cases rr;cases r;cases r';obtain⟨dg,rv,p1,_⟩:=I1.list hqx;obtain⟨Iq,rv2,p2,_⟩:=I1.list hqy;have la:a<s1.heap.objs.size:=p1.lt;have lb:b<s1.heap.objs.size:=p2.lt;refine call_zip_2 p1.isList p2.isList λh' hz XZ hTO h1 h2 hsz hk=>aml hz ?_;have I2:Inv X aA σ H1 {s1 with heap:=h'}:=I1.kept (t':=s1.toks) hk;refine⟨s1.heap.objs.size+4,[s1.heap.objs.size+4,s1.heap.objs.size+2,s1.heap.objs.size+3,s1.heap.objs.size,s1.heap.objs.size+1],_,_,H1,Z,I2,ZX (PySem.W.ktu_apart s1.heap.objs.size a b la lb),⟨hz,XZ,⟨_,_,hTO⟩,h1,h2⟩,λc hcm=>?_,q⟩;have e':c=s1.heap.objs.size+4\/c=s1.heap.objs.size+2\/c=s1.heap.objs.size+3\/c=s1.heap.objs.size\/c=s1.heap.objs.size+1:=by simpa using hcm
   have O_:s1.heap.objs.size<=c:=by
    rcases e' with z|z|z|z|z
    .rw[z];exact jt _ _
    .rw[z];exact jt _ _
    .rw[z];exact jt _ _
    .rw[z];exact bq _
    .rw[z];exact jt _ _
   exact I1.RD O_ (I1.fV.fresh O_)
end L2
section
namespace Bits
open PySem PyProof.Rows
def EB {x:Int}(k:Nat)(hx:0<=x):Builtin.bitAnd x (2^k-1)=x%2^k:=by
 obtain⟨n,rfl⟩:=S0 hx;have hp:0<2^k:=pE k;rw[two_pow_cast];have e:((2^k:Nat):Int)-1=((2^k-1:Nat):Int):=by
  generalize(2:Nat)^k=m at hp;lia
 rw[e,bitAnd_pp (by lia) (by lia),bF,bF,Nat.and_two_pow_sub_one_eq_mod]
 first
  |rfl
  |exact rP _ _
  |simp
def Gd (m:Nat):∀n:Nat,(m^^^n)+2*(m&&& n)=m+n:=by
 induction m using Nat.strongRecOn with
 |_ m ih=>
  intro n;by_cases h0:m=0
  .subst h0;simp
  .have ih':=ih (m / 2) (by lia) (n / 2);rw[<-Nat.xor_div_two,<-Nat.and_div_two] at ih';have o1:= @Nat.xor_mod_two_eq_one m n;have a1:= @Nat.and_mod_two_eq_one m n;lia
def U1 {x y:Int}(hx:0<=x)(hy:0<=y):Builtin.bitXor x y=((x.toNat^^^y.toNat:Nat):Int):=by
 have e:=Gd x.toNat y.toNat;rw[bitXor_and,bitAnd_pp hx hy];lia
end Bits
end
section
namespace TL
open PySem PySem.Builtin PySem.Builtin.Str PySem.StrLaws
end TL
end
namespace L2
open PySem PySem.Spec PyProof.Rows
section
variable{X:Cx}{aA:jw}{σ:St}{H:Hp}{s:aL}{Q:VK}
end
section
variable{X:Cx}
end
section
variable{X:Cx}{o e:Expr}{to te:TE}
end
open PySem PySem.Spec PyProof.Rows
section
variable{X:Cx}
end
end L2
namespace Att
open PySem PySem.W PySem.Calls PyProof.Rows
section
variable{prog:bJ}{w:cA}{A:Around}{E:j_}{s:aL}{K:Frag}
end
end Att
namespace L2
open PySem PySem.Spec PyProof.Rows
open PySem PySem.Spec PyProof.Rows
open PySem PySem.Spec PyProof.Rows
def inClass (s:Stmt)(j:Nat):Stmt:=match s with
 |.ClassDef _ _ _ qB _ _ _ _ _ _ _=>qB.getD j (.Pass ⟨0,0,0,0⟩)
 |_=>.Pass ⟨0,0,0,0⟩
def GH (s:Stmt):Arguments:=match s with
 |.FunctionDef _ a _ _ _ _ _ _ _ _=>a
 |_=>{posonlyargs:=[],args:=[],vararg:=none,kwonlyargs:=[],kw_defaults:=[],kwarg:=none,defaults:=[]}
def rQ (s:Stmt):List Stmt:=match s with
 |.FunctionDef _ _ b _ _ _ _ _ _ _=>b
 |_=>[]
def dZ (s:Stmt):nz:=match s with
 |.FunctionDef _ _ _ _ _ _ sc _ _ _=>sc
 |_=>{kind:=.function,names:=[],isGenerator:=false,isCoroutine:=false}
abbrev jf:NR:=λ_ _ _ _ _ _=>False
abbrev E0:XK:=λ_ _ _=>False
def bG {X:Cx}:Passes jf X E0:=λ_ _ _ _ _ _ _ h=>h.elim
structure Fun (K:au)(x qual:Str)(st:Stmt)(f:lQ)(fd:eN):Prop where
 ex:∃(oc:kc) (od:Option lQ) (kV doc pm:kc) (an:Option lQ) (sP ct:kc) (YX:Array (Option kc)),
  fd=sL x qual (GH st) (rQ st) (dZ st) .none kV doc pm an sP ct/\K.lookup f=some ⟨oc,od,.func fd,YX⟩/\J7 K sP qual=true
 kp:il K (.ref f)=true
section
variable{P:bJ}{w:cA}{K:au}{mg:sM}{rZ:Heap}
def Fun.ok {x eU:Str}{st:Stmt}{f:lQ}{fd:eN}{N ps:mX}{k:Nat}{sp:Sp}(F:Fun K x eU st f fd)(S:vJ N ps (dZ st))(QE:∀vs H Q E,sp vs H Q E->vs.length=ps.length)
  (yt:∀(sP:kc) (A:Around) (outer:List Env) (s:aL) (H:Hp) (vs:b_) (Q:VK) (E:XK),lC k (A.deeper (tI eU (dZ st) s.heap.objs.size f sP))->sp vs H Q E->
   ∃t,J6 (AY jf P w K mg rZ N eU (dZ st) f sP A outer s H E).nox (rQ st) t/\t {nx:=λ_ H'=>Q .gQ H',rt:=Q} (start N vs) H):lx P w K mg rZ jf (k+1) f fd ps sp:=by
 obtain⟨oc,od,kV,Tn,pm,an,sP,ct,YX,rfl,lk,Wz⟩:=F.ex;refine adI lk Wz S QE λA outer s H vs Q E hr JT=>?_;obtain⟨t,h,q⟩:=yt sP A outer s H vs Q E hr JT;exact⟨t,h.nox,q⟩
end
def Yo {A:Around}{k:Nat}(hr:lC k A):A.units+1<L0:=jG (Nat.add_le_add_left (by decide:1<=64) _) hr.units
section
variable{X:Cx}
def pv (i:Nat){x:Str}{cJ:Pos}(hN:autoParam (X.N[i]? =some x) Z_r)(hv:autoParam (Vis X.env.scope x) Z_t)(hd:autoParam (Dy x) Z_d)
  (Wz:autoParam ((x==("__classdict__":Str))=false) Z_d):PE X (.Name x cJ) (Em i):=af9 hN hv hd Wz
end
def fK {A B:Prop}(h:B):if false=true then A else B:=by
 rw[ah bH];exact h
def eY {A B:Prop}(h:A):if true=true then A else B:=by
 rw[aj rfl];exact h
def aC (H H':Hp):Prop:=∀b o,H b=some o->H' b=some o
def aC.refl (H:Hp):aC H H:=λ_ _ h=>h
def aC.trans {H H1 H2:Hp}(a:aC H H1)(b:aC H1 H2):aC H H2:=λc o h=>b c o (a c o h)
def aC.free {H H':Hp}(e:aC H H'){l:lQ}(h:H' l=aid):H l=aid:=by
 cases q:H l with
 |none=>rfl
 |some o=>
  rw[e l o q] at h;cases h
def aC.seq {K:au}{H H':Hp}{a:lQ}{xs:b_}(e:aC H H')(h:nM K H a xs):nM K H' a xs:=by
 rcases h with(h|⟨o,h⟩)|h
 .exact .inl (.inl (e _ _ h))
 .exact .inl (.inr ⟨o,e _ _ h⟩)
 .exact .inr h
section
variable{κ:Type}[DecidableEq κ]
def Z0 {cg:List (κ×V)}{k:κ}(h:mS cg k=none):¬k∈cg.map (·.1):=by
 intro m;obtain⟨p,hp,e⟩:=bj.mp m;have q:(cg.any λkv=>decide (kv.1=k))=true:=adn.mpr ⟨p,hp,ag e⟩;rw[tD,h] at q;exact absurd q (by simp)
def ac6 {cg:List (κ×V)}{k:κ}{v:V}(h:mS cg k=some v):k∈cg.map (·.1):=by
 have q:(cg.any λkv=>decide (kv.1=k))=true:=by
  rw[tD,h]
  all_goals rfl
 obtain⟨p,hp,e⟩:=adn.mp q;exact bj.mpr ⟨p,hp,of_decide_eq_true e⟩
theorem M_:∀{l:List κ} {k:κ},l.Nodup->¬k∈l->(l++[k]).Nodup
 |[],k,_,_=>by simp
 |a::r,k,h,hk=>by
  obtain⟨h1,h2⟩:=iT.mp h;show(a::(r++[k])).Nodup;refine iT.mpr ⟨λm=>?_,M_ h2 λm=>hk (bo.mpr (Qx m))⟩;rcases c_.mp m with q|q
  .exact h1 q
  .exact hk (bo.mpr (Ad (gc.mp q).symm))
def ab3 {cg:List (κ×V)}{k:κ}(v:V)(hn:(cg.map (·.1)).Nodup)(h:mS cg k=none):((putK cg k v).map (·.1)).Nodup:=by
 rw[P6 v h,jU];exact M_ hn (Z0 h)
def Lh {p:κ×V}{r:List (κ×V)}{k:κ}(e:p.1=k):uY (p::r) k=uY r k:=by
 unfold uY;rw[ado,ah (by simp[e])]
def DQ {p:κ×V}{r:List (κ×V)}{k:κ}(e:¬p.1=k):uY (p::r) k=p::uY r k:=by
 unfold uY;rw[ado,aj (by simp[e])]
theorem OR:∀{cg:List (κ×V)} {k:κ},¬k∈cg.map (·.1)->uY cg k=cg
 |[],_,_=>rfl
 |p::r,k,h=>by
  have h':¬k∈r.map (·.1):=λm=>by
   obtain⟨q,hq,e⟩:=bj.mp m;exact h (bj.mpr ⟨q,bo.mpr (Qx hq),e⟩)
  rw[DQ λe=>h (bj.mpr ⟨p,bo.mpr (Ad rfl),e⟩),OR h']
def Lg {cg:List (κ×V)}{k:κ}{p:κ×V}(h:p∈uY cg k):p∈cg:=(oV.mp h).1
theorem IK:∀{cg:List (κ×V)} {k:κ},(cg.map (·.1)).Nodup->((uY cg k).map (·.1)).Nodup
 |[],_,_=>Bz
 |p::r,k,h=>by
  have h:(p.1::r.map (·.1)).Nodup:=h;obtain⟨h1,h2⟩:=iT.mp h;by_cases e:p.1=k
  .rw[Lh e];exact IK h2
  .rw[DQ e];show(p.1::(uY r k).map (·.1)).Nodup;refine iT.mpr ⟨λm=>h1 ?_,IK h2⟩;obtain⟨q,hq,eq⟩:=bj.mp m;exact bj.mpr ⟨q,Lg hq,eq⟩
theorem Le:∀{cg:List (κ×V)} {k:κ},(cg.map (·.1)).Nodup->k∈cg.map (·.1)->(uY cg k).length+1=cg.length
 |[],_,_,m=>by simp at m
 |p::r,k,h,m=>by
  have h:(p.1::r.map (·.1)).Nodup:=h;have m:k=p.1\/k∈r.map (·.1):=bo.mp m;obtain⟨h1,h2⟩:=iT.mp h;by_cases e:p.1=k
  .subst e;rw[Lh rfl,OR h1]
   all_goals rfl
  .have m':k∈r.map (·.1):=m.resolve_left λz=>e z.symm;have q:=Le h2 m';rw[DQ e,aZ,aZ];lia
end
def at_of {xs:b_}{z:Int}{j:Nat}{v:V}(e:z=(j:Int))(h:xs[j]? =some v):UW xs z=some v:=by
 rw[e];exact abi h
def ajZ {α:Type}{l:List α}(hN:l.Nodup){i j:Nat}{x:α}(a:l[i]? =some x)(b:l[j]? =some x):i=j:=by
 obtain⟨h1,e1⟩:=aN.mp a;obtain⟨h2,e2⟩:=aN.mp b;exact(adp hN).mp (e1.trans e2.symm)
open PySem PySem.Spec PyProof.Rows
open PySem.W (WData Codec OpenSpec Well WellAll ReadsW ReadsAllW)
mutual
inductive Dw (K:au)(H:Hp):V->WData->Prop
 |gQ:Dw K H .gQ .none
 |bl (b:Bool):Dw K H (.bl b) (.bool b)
 |int (i:Int):Dw K H (.int i) (.int i)
 |str (x:Str):Dw K H (.str x) (.str x)
 |EC (b:Array UInt8):Dw K H (.EC b) (.bytes b.toList)
 |lst {a:lQ} {xs:b_} {ds:List WData}:nM K H a xs->wG K H xs ds->Dw K H (.ref a) (.list ds)
 |tup {a:lQ} {xs:b_} {ds:List WData}:Mb K H a xs->wG K H xs ds->Dw K H (.ref a) (.tuple ds)
inductive wG (K:au)(H:Hp):b_->List WData->Prop
 |nil:wG K H [] []
 |cons {v:V} {vs:b_} {d:WData} {ds:List WData}:Dw K H v d->wG K H vs ds->wG K H (v::vs) (d::ds)
end
theorem Tq {K:au}{H:Hp}:∀ns:bX,wG K H (ns.map V.int) (ns.map WData.int)
 |[]=>.nil
 |n::r=>.cons (.int n) (Tq r)
theorem TM {K:au}{H:Hp}:∀(ns:bX) (xs:b_),wG K H xs (ns.map WData.int)->xs=ns.map V.int
 |[],xs,h=>by
  cases h;rfl
 |n::r,xs,h=>by
  cases h with
  |cons h1 h2=>
   cases h1;rw[TM r _ h2]<;>rfl
section
variable{P:bJ}{w:cA}{K:au}{H:Hp}{h:Heap}{R:W_}{cl:Str->Option lQ}
def agG {a:lQ}{xs:b_}(fV:wI P w H h)(KX:K.In h)(q:nM K H a xs):∃(dg:gS) (o:Obj) (n:Nat),Vals xs dg/\h.get? a=some o/\o.cls=.type "list"/\o.data=.seq dg.toArray n:=by
 rcases q with q|⟨o,dg,n,e,hc,_,hd,_,hv⟩
 .obtain⟨_,dg,n,hv,e⟩:=(show jq P w H h a (.lst xs) from q.ok fV);exact⟨dg,_,n,hv,e,Z,Z⟩
 .exact⟨dg.toList,o,n,hv,KX _ _ e,hc,by simp[hd]⟩
def agH {a:lQ}{xs:b_}(fV:wI P w H h)(KX:K.In h)(q:Mb K H a xs):∃(dg:gS) (o:Obj) (n:Nat),Vals xs dg/\h.get? a=some o/\o.cls=.type "tuple"/\o.data=.seq dg.toArray n:=by
 rcases q with q|⟨o,dg,n,e,hc,hd,_,hv⟩
 .obtain⟨_,dg,hv,o,e,hc,n,hd⟩:=(show jq P w H h a (.tup xs) from q.ok fV);exact⟨dg,o,n,hv,e,hc,hd⟩
 .exact⟨dg.toList,o,n,hv,KX _ _ e,hc,by simp[hd]⟩
mutual
theorem Dw.reads (fV:wI P w H h)(KX:K.In h):∀(d:WData) (v:V) (u:kc),Dw K H v d->RelV v u->∃as,ReadsW R cl h u d as
 |.none,_,_,x,r=>by
  cases x;cases r;exact⟨_,ReadsW.none⟩
 |.bool b,_,_,x,r=>by
  cases x;cases r;exact⟨_,ReadsW.bool b⟩
 |.int i,_,_,x,r=>by
  cases x;obtain⟨t,rfl⟩:=r;exact⟨_,ReadsW.int i t⟩
 |.str s,_,_,x,r=>by
  cases x;obtain⟨t,rfl⟩:=r;exact⟨_,ReadsW.str s t⟩
 |.bytes b,_,_,x,r=>by
  cases x;obtain⟨t,rfl⟩:=r;exact⟨_,ReadsW.bytes _ t⟩
 |.list ds,_,_,x,r=>by
  cases x with
  |lst hs ha=>
   cases r;obtain⟨dg,o,n,rv,ho,hc,hd⟩:=agG fV KX hs;obtain⟨as,hr⟩:=Dw.readsAll fV KX ds _ dg ha rv;exact⟨_,ReadsW.list ho hc hd hr⟩
 |.tuple ds,_,_,x,r=>by
  cases x with
  |tup hs ha=>
   cases r;obtain⟨dg,o,n,rv,ho,hc,hd⟩:=agH fV KX hs;obtain⟨as,hr⟩:=Dw.readsAll fV KX ds _ dg ha rv;exact⟨_,ReadsW.tuple ho hc hd hr⟩
 |.float _,_,_,x,_=>by cases x
 |.dict _,_,_,x,_=>by cases x
 |.bytearray _,_,_,x,_=>by cases x
 |.set _,_,_,x,_=>by cases x
 |.frozenset _,_,_,x,_=>by cases x
 |.obj _ _,_,_,x,_=>by cases x
theorem Dw.readsAll (fV:wI P w H h)(KX:K.In h):∀(ds:List WData) (vs:b_) (us:gS),wG K H vs ds->Vals vs us->∃as,ReadsAllW R cl h us ds as
 |[],_,_,x,r=>by
  cases x;cases r;exact⟨_,ReadsAllW.nil⟩
 |d::ds,_,_,x,r=>by
  cases x with
  |cons h1 h2=>
   cases r with
   |cons r1 r2=>
    obtain⟨as,q1⟩:=Dw.reads fV KX d _ _ h1 r1;obtain⟨bs,q2⟩:=Dw.readsAll fV KX ds _ _ h2 r2;exact⟨_,ReadsAllW.cons q1 q2⟩
end
end
mutual
def Uc:WData->Bool
 |.none=>true
 |.bool _=>true
 |.int _=>true
 |.str _=>true
 |.bytes _=>true
 |.list xs=>Gh xs
 |.tuple xs=>Gh xs
 |_=>false
def Gh:List WData->Bool
 |[]=>true
 |x::r=>Uc x&&Gh r
end
theorem PZ {α:Type}{f:α->WData}(h:∀a,Uc (f a)=true):∀l:List α,Gh (l.map f)=true
 |[]=>rfl
 |x::r=>by
  show(Uc (f x)&&Gh (r.map f))=true;rw[h x,PZ h r]<;>rfl
theorem yH:∀(c:Codec) (a:c.denote),Uc (c.enc a)=true
 |.unit,_=>rfl
 |.bool,_=>rfl
 |.int _ _,_=>rfl
 |.nat _ _,_=>rfl
 |.u8,_=>rfl
 |.bytes _ _,_=>rfl
 |.text _ _ _ _,_=>rfl
 |.list _ _ c,a=>PZ (λx=>yH c x) a
 |.pair c d,a=>by
  show(Uc (c.enc a.1)&&(Uc (d.enc a.2)&&true))=true;rw[yH c a.1,yH d a.2]<;>rfl
 |.triple c d e,a=>by
  show(Uc (c.enc a.1)&&(Uc (d.enc a.2.1)&&(Uc (e.enc a.2.2)&&true)))=true;rw[yH c a.1,yH d a.2.1,yH e a.2.2]<;>rfl
 |.option c,none=>rfl
 |.option c,some x=>yH c x
theorem LJ:∀(cs:List Codec) (a:Codec.denoteAll cs),Gh (Codec.encAll cs a)=true
 |[],_=>rfl
 |c::cs,a=>by
  show(Uc (c.enc a.1)&&Gh (Codec.encAll cs a.2))=true;rw[yH c a.1,LJ cs a.2]<;>rfl
theorem Bw:∀{xs:List WData} {d:WData},d∈xs->d.weight<=WData.weightAll xs
 |[],d,h=>absurd h (by simp)
 |x::r,d,h=>by
  show d.weight<=x.weight+1+WData.weightAll r;rcases bo.mp h with e|m
  .rw[e];omega
  .have z:=Bw m;omega
def toV:kc->V
 |.none=>.gQ
 |.bool b=>.bl b
 |.int i _=>.int i
 |.str x _=>.str x
 |.bytes b _=>.EC b
 |.ref a=>.ref a
 |_=>.gQ
def UQ (A:pF):kc->Prop
 |.none=>True
 |.bool _=>True
 |.int _ _=>True
 |.str _ _=>True
 |.bytes _ _=>True
 |.ref a=>a∈A
 |_=>False
def UQ.mono {A B:pF}(h:∀a∈A,a∈B):∀{u:kc},UQ A u->UQ B u:=λ{u} x=>by
 cases u with
 |ref a=>exact h a x
 |none=>trivial
 |bool b=>trivial
 |int i t=>trivial
 |str s t=>trivial
 |bytes b t=>trivial
 |_=>exact dU x
def Ze {A:pF}{u:kc}(x:UQ A u):RelV (toV u) u:=by
 cases u with
 |ref a=>rfl
 |none=>rfl
 |bool b=>rfl
 |int i t=>exact⟨t,Z⟩
 |str s t=>exact⟨t,Z⟩
 |bytes b t=>exact⟨t,Z⟩
 |_=>exact dU x
theorem vn {A:pF}:∀{vs:gS},(∀u∈vs,UQ A u)->Vals (vs.map toV) vs
 |[],_=>.nil
 |u::r,h=>.cons (Ze (h u (aU ..))) (vn λx hx=>h x (aP _ hx))
def wF (h:Heap)(A:pF)(a:lQ):Prop:=∃vs:gS,vs.length<=bu/\(∀u∈vs,UQ A u)/\
 (h.get? a=some {cls:=.type "list",data:=.seq vs.toArray}\/h.get? a=some {cls:=.type "tuple",data:=.seq vs.toArray})
def wF.mono {h:Heap}{A B:pF}{a:lQ}(k:∀a∈A,a∈B)(x:wF h A a):wF h B a:=by
 obtain⟨vs,h1,h2,h3⟩:=x;exact⟨vs,h1,λu hu=>(h2 u hu).mono k,h3⟩
theorem t7 {P:JY}{h:Heap}:∀{vs:gS} {ds:List WData},WellAll P h vs ds->vs.length=ds.length
 |_,_,.nil=>rfl
 |_,_,.cons _ b=>by
  show _+1=_+1;rw[t7 b]
def LW {P:JY}{h:Heap}{v:kc}{ds:List WData}(x:Well P h v (.list ds)):∃(a:lQ) (vs:gS),v=.ref a/\h.get? a=some {cls:=.type "list",data:=.seq vs.toArray}/\WellAll P h vs ds:=by
 cases x with
 |list ho oG=>exact⟨_,_,Z,ho,oG⟩
def JF {P:JY}{h:Heap}{v:kc}{ds:List WData}(x:Well P h v (.tuple ds)):∃(a:lQ) (vs:gS),v=.ref a/\h.get? a=some {cls:=.type "tuple",data:=.seq vs.toArray}/\WellAll P h vs ds:=by
 cases x with
 |tuple ho oG=>exact⟨_,_,Z,ho,oG⟩
def LV {P:JY}{h:Heap}{us:gS}{d:WData}{ds:List WData}(x:WellAll P h us (d::ds)):∃(v:kc) (vs:gS),us=v::vs/\Well P h v d/\WellAll P h vs ds:=by
 cases x with
 |cons a b=>exact⟨_,_,Z,a,b⟩
def TY {n:Nat}(h:n<=1048576):n<=bu:=bt h (by decide)
section
variable{P:JY}{h:Heap}
mutual
theorem Xe:∀(d:WData) (v:kc),Well P h v d->Uc d=true->d.weight<=1048576->∃A:pF,UQ A v/\∀a∈A,wF h A a
 |.none,_,x,_,_=>by
  cases x;exact⟨[],trivial,λa m=>absurd m (by simp)⟩
 |.bool b,_,x,_,_=>by
  cases x;exact⟨[],trivial,λa m=>absurd m (by simp)⟩
 |.int i,_,x,_,_=>by
  cases x;exact⟨[],trivial,λa m=>absurd m (by simp)⟩
 |.str s,_,x,_,_=>by
  cases x;exact⟨[],trivial,λa m=>absurd m (by simp)⟩
 |.bytes b,_,x,_,_=>by
  cases x;exact⟨[],trivial,λa m=>absurd m (by simp)⟩
 |.list ds,_,x,p,z=>by
  obtain⟨a,vs,rfl,ho,oG⟩:=LW x;have z2:WData.weightAll ds<=1048576:=z;obtain⟨A,h1,h2⟩:=BV ds _ oG p λd hd=>bt (Bw hd) z2;have k:∀b∈A,b∈a::A:=λb hb=>aP _ hb;refine⟨a::A,aU ..,λb hb=>?_⟩;rcases bo.mp hb with e|m
  .rw[e];exact⟨vs,TY (by rw[t7 oG];exact bt (G_ ds) z2),λu hu=>(h1 u hu).mono k,.inl ho⟩
  .exact(h2 b m).mono k
 |.tuple ds,_,x,p,z=>by
  obtain⟨a,vs,rfl,ho,oG⟩:=JF x;have z2:WData.weightAll ds<=1048576:=z;obtain⟨A,h1,h2⟩:=BV ds _ oG p λd hd=>bt (Bw hd) z2;have k:∀b∈A,b∈a::A:=λb hb=>aP _ hb;refine⟨a::A,aU ..,λb hb=>?_⟩;rcases bo.mp hb with e|m
  .rw[e];exact⟨vs,TY (by rw[t7 oG];exact bt (G_ ds) z2),λu hu=>(h1 u hu).mono k,.inr ho⟩
  .exact(h2 b m).mono k
 |.float _,_,_,p,_=>dX (show false=true from p)
 |.dict _,_,_,p,_=>dX (show false=true from p)
 |.bytearray _,_,_,p,_=>dX (show false=true from p)
 |.set _,_,_,p,_=>dX (show false=true from p)
 |.frozenset _,_,_,p,_=>dX (show false=true from p)
 |.obj _ _,_,_,p,_=>dX (show false=true from p)
theorem BV:∀(ds:List WData) (vs:gS),WellAll P h vs ds->Gh ds=true->(∀d∈ds,d.weight<=1048576)->∃A:pF,(∀u∈vs,UQ A u)/\∀a∈A,wF h A a
 |[],_,x,_,_=>by
  cases x;exact⟨[],λu m=>absurd m (by simp),λa m=>absurd m (by simp)⟩
 |d::ds,_,x,p,z=>by
  obtain⟨v,vs,rfl,x1,x2⟩:=LV x;have q:Uc d=true/\Gh ds=true:=eZ.mp p;obtain⟨A,a1,a2⟩:=Xe d v x1 q.1 (z d (aU ..));obtain⟨B,b1,b2⟩:=BV ds vs x2 q.2 λe he=>z e (aP _ he);have kA:∀b∈A,b∈A++B:=λb hb=>c_.mpr (.inl hb);have kB:∀b∈B,b∈A++B:=λb hb=>c_.mpr (.inr hb);refine⟨A++B,λu hu=>?_,λb hb=>?_⟩
  .rcases bo.mp hu with e|m
   .rw[e];exact a1.mono kA
   .exact(b1 u m).mono kB
  .rcases c_.mp hb with m|m
   .exact(a2 b m).mono kA
   .exact(b2 b m).mono kB
end
end
def abO (o:Obj):Option HO:=match o.data with
 |.seq vs _=>if(o.cls==Value.type "list")=true then some (.MP o (.lst (vs.toList.map toV))) else some (.MP o (.tup (vs.toList.map toV)))
 |_=>none
def vM (K:au)(h:Heap)(A:pF):Hp:=λb=>if b∈A then(if(K.lookup b).isNone=true then(h.get? b).bind abO else none) else none
def Oc (H:Hp):Prop:=∀b,H b=none\/∃o u,H b=some (.MP o u)
def Pa (vs:gS):abO {cls:=.type "list",data:=.seq vs.toArray}=some (.MP {cls:=.type "list",data:=.seq vs.toArray} (.lst (vs.map toV))):=by
 show(if(Value.type "list"==Value.type "list")=true then some (HO.MP {cls:=.type "list",data:=.seq vs.toArray} (.lst (vs.toArray.toList.map toV))) else some (HO.MP {cls:=.type "list",data:=.seq vs.toArray} (.tup (vs.toArray.toList.map toV))))=_;rw[aj (beq_self_eq_true _)]
def Pb (vs:gS):abO {cls:=.type "tuple",data:=.seq vs.toArray}=some (.MP {cls:=.type "tuple",data:=.seq vs.toArray} (.tup (vs.map toV))):=by
 show(if(Value.type "tuple"==Value.type "list")=true then some (HO.MP {cls:=.type "tuple",data:=.seq vs.toArray} (.lst (vs.toArray.toList.map toV))) else some (HO.MP {cls:=.type "tuple",data:=.seq vs.toArray} (.tup (vs.toArray.toList.map toV))))=_;rw[ah (by decide)]
section
variable{P:bJ}{w:cA}{K:au}{h:Heap}{A:pF}
def GF {b:lQ}{o:Obj}(hb:b∈A)(hk:K.lookup b=none)(e:h.get? b=some o):vM K h A b=abO o:=by
 unfold vM;rw[aj hb,hk,aj (show(none:Option Obj).isNone=true from rfl),e]<;>rfl
def ab6 {b:lQ}{u:HO}(q:vM K h A b=some u):b∈A/\K.lookup b=none:=by
 unfold vM at q;by_cases hb:b∈A
 .rw[aj hb] at q;cases hk:K.lookup b with
  |none=>exact⟨hb,Z⟩
  |some o=>
   rw[hk,ah (by simp)] at q;cases q
 .rw[ah hb] at q;cases q
def GG (ar:∀a∈A,wF h A a){b:lQ}{u:HO}(q:vM K h A b=some u):K.lookup b=none/\∃vs:gS,vs.length<=bu/\(∀u∈vs,UQ A u)/\
  ((h.get? b=some {cls:=.type "list",data:=.seq vs.toArray}/\u=.MP {cls:=.type "list",data:=.seq vs.toArray} (.lst (vs.map toV)))\/
   (h.get? b=some {cls:=.type "tuple",data:=.seq vs.toArray}/\u=.MP {cls:=.type "tuple",data:=.seq vs.toArray} (.tup (vs.map toV)))):=by
 obtain⟨hb,hk⟩:=ab6 q;obtain⟨vs,h1,h2,h3⟩:=ar b hb;refine⟨hk,vs,h1,h2,?_⟩;rcases h3 with e|e
 .rw[GF hb hk e,Pa] at q;exact .inl ⟨e,(bh q).symm⟩
 .rw[GF hb hk e,Pb] at q;exact .inr ⟨e,(bh q).symm⟩
def UT (ar:∀a∈A,wF h A a):Oc (vM K h A):=λb=>by
 cases q:vM K h A b with
 |none=>exact .inl rfl
 |some u=>
  obtain⟨_,vs,_,_,⟨_,e⟩|⟨_,e⟩⟩:=GG ar q
  .exact .inr ⟨_,_,by rw[e]⟩
  .exact .inr ⟨_,_,by rw[e]⟩
def abh (ar:∀a∈A,wF h A a):wI P w (vM K h A) h:=λb u q=>by
 obtain⟨_,vs,h1,h2,⟨e,rfl⟩|⟨e,rfl⟩⟩:=GG ar q
 .exact⟨e,by rw[aB];exact h1,vs,_,vn h2,e⟩
 .exact⟨e,by rw[aB];exact h1,vs,vn h2,_,e,Z,_,Z⟩
def GS {c c':kc}{vs us:gS}(e:(some {cls:=c,data:=.seq vs.toArray}:Option Obj)=some {cls:=c',data:=.seq us.toArray}):c=c'/\vs=us:=by
 have e1:=bh e;have e2:c=c':=congrArg Obj.cls e1;have e3:Data.seq vs.toArray=Data.seq us.toArray:=congrArg Obj.data e1;injection e3 with e4
 refine⟨e2,?_⟩;have e5:=congrArg ahZ e4;simpa using e5
def amY (KX:K.In h)(ar:∀a∈A,wF h A a){a:lQ}{vs:gS}(ha:a∈A)(e:h.get? a=some {cls:=.type "list",data:=.seq vs.toArray}):(∀u∈vs,UQ A u)/\nM K (vM K h A) a (vs.map toV):=by
 obtain⟨us,h1,h2,h3⟩:=ar a ha;have hu:us=vs:=by
  rcases h3 with q|q
  .rw[e] at q;exact(GS q).2.symm
  .rw[e] at q;exact absurd (Value.type.inj (GS q).1) (by decide)
 subst hu;refine⟨h2,?_⟩;cases hk:K.lookup a with
 |none=>exact .inl (.inr ⟨_,by rw[GF ha hk e,Pa]⟩)
 |some o=>
  have e2:=KX a o hk;rw[e] at e2;obtain rfl:=bh e2;exact .inr ⟨_,us.toArray,_,hk,Z,Z,Z,by rw[bB];exact h1,by simpa using vn h2⟩
def amZ (KX:K.In h)(ar:∀a∈A,wF h A a){a:lQ}{vs:gS}(ha:a∈A)(e:h.get? a=some {cls:=.type "tuple",data:=.seq vs.toArray}):(∀u∈vs,UQ A u)/\Mb K (vM K h A) a (vs.map toV):=by
 obtain⟨us,h1,h2,h3⟩:=ar a ha;have hu:us=vs:=by
  rcases h3 with q|q
  .rw[e] at q;exact absurd (Value.type.inj (GS q).1) (by decide)
  .rw[e] at q;exact(GS q).2.symm
 subst hu;refine⟨h2,?_⟩;cases hk:K.lookup a with
 |none=>exact .inl (.inr ⟨_,by rw[GF ha hk e,Pb]⟩)
 |some o=>
  have e2:=KX a o hk;rw[e] at e2;obtain rfl:=bh e2;exact .inr ⟨_,us.toArray,_,hk,Z,Z,by rw[bB];exact h1,by simpa using vn h2⟩
mutual
theorem ae0 {Pm:JY}(KX:K.In h)(ar:∀a∈A,wF h A a):∀(d:WData) (v:kc),Well Pm h v d->Uc d=true->UQ A v->Dw K (vM K h A) (toV v) d
 |.none,_,x,_,_=>by
  cases x;exact .gQ
 |.bool b,_,x,_,_=>by
  cases x;exact .bl b
 |.int i,_,x,_,_=>by
  cases x;exact .int i
 |.str s,_,x,_,_=>by
  cases x;exact .str s
 |.bytes b,_,x,_,_=>by
  cases x;have z:=Dw.EC (K:=K) (H:=vM K h A) b.toArray;exact z
 |.list ds,_,x,p,hu=>by
  obtain⟨a,vs,rfl,ho,oG⟩:=LW x;obtain⟨h2,hs⟩:=amY KX ar hu ho;exact .lst hs (ME KX ar ds _ oG p h2)
 |.tuple ds,_,x,p,hu=>by
  obtain⟨a,vs,rfl,ho,oG⟩:=JF x;obtain⟨h2,hs⟩:=amZ KX ar hu ho;exact .tup hs (ME KX ar ds _ oG p h2)
 |.float _,_,_,p,_=>dX (show false=true from p)
 |.dict _,_,_,p,_=>dX (show false=true from p)
 |.bytearray _,_,_,p,_=>dX (show false=true from p)
 |.set _,_,_,p,_=>dX (show false=true from p)
 |.frozenset _,_,_,p,_=>dX (show false=true from p)
 |.obj _ _,_,_,p,_=>dX (show false=true from p)
theorem ME {Pm:JY}(KX:K.In h)(ar:∀a∈A,wF h A a):∀(ds:List WData) (vs:gS),WellAll Pm h vs ds->Gh ds=true->(∀u∈vs,UQ A u)->wG K (vM K h A) (vs.map toV) ds
 |[],_,x,_,_=>by
  cases x;exact .nil
 |d::ds,_,x,p,hu=>by
  obtain⟨v,vs,rfl,x1,x2⟩:=LV x;have q:Uc d=true/\Gh ds=true:=eZ.mp p;exact .cons (ae0 KX ar d v x1 q.1 (hu _ (aU ..))) (ME KX ar ds vs x2 q.2 λu m=>hu u (aP _ m))
end
end
def VX {P:bJ}{w:cA}{K:au}{mg mb:sM}{CX:NR}{k:Nat}{fa:lQ}{fd:eN}{ps:mX}{sp:Sp}{ip:aL}{KS:gS}{ds:List WData}{R:W_}{cl:Str->Option lQ}{d0:WData}
  (KX:K.In ip.heap) (hns:ip.heap.Ns mn mg) (hb:ip.heap.Ns ahV mb) (hbb:∀x:Str,x≠"__name__"->mb x=rK x) (an5:ip.heap.NoLimit) (hg:ip.gens= #[])
  (hwl:WellAll w.params ip.heap KS ds) (ot:Gh ds=true) (hwt:∀d∈ds,d.weight<=1048576) (hr:lC k SS)
  (F:∀rZ:Heap,K.In rZ->rZ.Ns mn mg->lx P w K mg rZ CX k fa fd ps sp) (adO:∀(s:aL) (us:gS),us.length=ps.length->LZ s fd ⟨us,[]⟩ (ps.zip us)) (iP:ds.length=ps.length)
  (JT:∀(H:Hp) (xs:b_),Oc H->wG K H xs ds->sp xs H (λv H'=>Dw K H' v d0) λ_ _ _=>False)
  (hCX:∀H e s',CX [] H ip (λ_ _ _=>False) e s'->False):
  vq (bA P w) SS (.call (.ref fa) ⟨KS,[]⟩) (λr s'=>∃u as,r=.ok (.ret u)/\ReadsW R cl s'.heap u d0 as/\OldK ip.heap s'.heap/\s'.os=ip.os/\Gr s'.gens) ip:=by
 obtain⟨A,ho,ar⟩:=BV ds KS hwl ot hwt;have hO:Oc (vM K ip.heap A):=UT ar;have fV:wI P w (vM K ip.heap A) ip.heap:=abh ar;have hS:=ME KX ar ds KS hwl ot ho;have hV:=vn ho;have hK:∀b u,vM K ip.heap A b=some u->K.lookup b=none:=λb u q=>(GG ar q).1;have noA:∀{b:lQ} {o:Obj} {es:Array DictEntry} {ep:Nat},ip.heap.get? b=some o->o.data=.dict es ep->vM K ip.heap A b=none:=λ{b o es ep} e d=>by
  cases q:vM K ip.heap A b with
  |none=>rfl
  |some u=>
   obtain⟨_,vs,_,_,⟨e2,_⟩|⟨e2,_⟩⟩:=GG ar q
   .rw[e2] at e;cases e;have d':Data.seq vs.toArray _=Data.dict es ep:=d;cases d'
   .rw[e2] at e;cases e;have d':Data.seq vs.toArray _=Data.dict es ep:=d;cases d'
 generalize vM K ip.heap A=H at hO fV hS hK noA;have Td:∀{b:lQ} {o:Obj},ip.heap.get? b=some o->H b=none->(MT ip.heap H).get? b=some o:=λe n=>Ya e n;have nsK:∀{b:lQ} {m:sM},ip.heap.Ns b m->(MT ip.heap H).Ns b m:=λ{b m} ⟨o,es,ep,e,d,r⟩=>⟨o,es,ep,Td e (noA e d),d,r⟩;have nK:∀b o,K.lookup b=some o->H b=none:=λb o e=>by
  cases q:H b with
  |none=>rfl
  |some u=>
   rw[hK b u q] at e;cases e
 have hKb:K.In (MT ip.heap H):=λb o e=>Td (KX b o e) (nK b o e);have hM:Mod K mg (MT ip.heap H):=⟨hKb,nsK hns,⟨mb,nsK hb,hbb⟩,let ⟨mc,h1,h2⟩:=an5;⟨mc,nsK h1,h2⟩⟩;have e0:J5 P w K mg (MT ip.heap H) SS [] ip H:=⟨Z,hM,λb o e=>ab7 e,f7 (Vq _ _),trivial,λb hb=>absurd (show b∈([]:pF) from hb) (by simp),fV,.of_eq hg⟩;have hl:KS.length=ps.length:=by rw[t7 hwl];exact iP
 refine BM ((F _ hKb (nsK hns)).run SS [] ip H ⟨KS,[]⟩ KS (KS.map toV) _ _ hr e0 (adO ip KS hl) hV (JT H _ hO hS)) λr s' x=>?_;cases r with
 |error e=>exact(hCX H e s' x).elim
 |ok fl=>
  cases fl with
  |next=>exact dU x
  |brk=>exact dU x
  |cont=>exact dU x
  |ret u=>
   obtain⟨v,H',os,bare,un,ajh,r',q⟩:=x;have kept:∀b o,ip.heap.get? b=some o->s'.heap.get? b=some o:=λb o e=>by
    cases q2:H b with
    |none=>exact un.keep b o e q2 (by intro z;exact absurd (show b∈([]:pF) from z) (by simp)) (by simp)
    |some u2=>
     rcases hO b with z|⟨ob,u3,z⟩
     .rw[q2] at z;cases z
     .have z2:=un.frzs b ob _ z;obtain⟨e1,_⟩:=fV b _ z;obtain⟨e2,_⟩:=ajh b _ z2;rw[e] at e1;cases e1;exact e2
   have KX':K.In s'.heap:=λb o e=>kept b o (KX b o e);obtain⟨as,hrd⟩:=Dw.reads (R:=R) (cl:=cl) ajh KX' d0 v u q r';exact⟨u,as,Z,hrd,OldK.of_keep kept,os,bare⟩
def Iz {ds:List WData}(h:WData.layableAll ds=true):∀d∈ds,d.weight<=1048576:=λd hd=>
 (PySem.W.layableW_iff.mp (fz.mp h d hd)).2.2
theorem HL:∀(cs:List Codec) (a:Codec.denoteAll cs),(Codec.encAll cs a).length=cs.length
 |[],_=>rfl
 |c::cs,a=>by
  show(Codec.encAll cs a.2).length+1=cs.length+1;rw[HL cs a.2]
def Wa {r:OpenSpec}{k:Nat}{q:bJ}{YC:mX}{XP:(sM)->Heap->Prop}{YP:cA->Heap->Prop}{d:DefRec}{K:JY->au}{CX:cA->NR}{ps:mX}{sp:cA->Sp}
  (Yp:r.wellSaid=true) (hdf:d.params.defaults=[]) (iP:r.args.length=ps.length) (hr:lC k SS)
  (hY:∀(w:cA) (h:Heap),YP w h->(K w.params).In h)
  (F:∀(w:cA) (mg:sM) (fa:lQ) (h:Heap),YP w h->(K w.params).In h->h.Ns mn mg->mg d.name=some (.ref fa)->
   ∃fd:eN,(∀(s:aL) (us:gS),us.length=ps.length->LZ s fd ⟨us,[]⟩ (ps.zip us))/\
    ∀rZ:Heap,(K w.params).In rZ->rZ.Ns mn mg->lx r.prog w (K w.params) mg rZ (CX w) k fa fd ps (sp w))
  (JT:∀(w:cA) (H:Hp) (xs:b_) (a:Codec.denoteAll r.args),Oc H->Codec.withinAll r.args a=true->Codec.app r.args r.asked a=true->wG (K w.params) H xs (Codec.encAll r.args a)->
   sp w xs H (λv H'=>Dw (K w.params) H' v (r.ret.enc (Codec.app r.args r.f a))) λ_ _ _=>False)
  (hCX:∀(w:cA) (H:Hp) (s:aL) (e:kc) (s':aL),CX w [] H s (λ_ _ _=>False) e s'->False):
  abc q YC XP YP r d [] (λf vs=>amO f vs):=by
 intro w s_0 ip mg mb G Y fa o pm cd Tn dV kV ho hd Wz hD hmg hg args KS as aom abL hrd hwl lu;obtain⟨a,e1,e2⟩:=PySem.W.os_pre_some aom;obtain⟨e3,hwi⟩:=Codec.encAll_of_decAll r.args args a e1;subst e3;have KX:=hY w _ Y;obtain⟨fd,hb,hF⟩:=F w mg fa _ Y KX G.T.g hmg;refine PySem.W.enter_call (BM (VX (R:=[]) (cl:=classAt s_0.heap) (d0:=r.ret.enc (Codec.app r.args r.f a)) KX G.T.g G.T.b G.T.builtins G.T.nolimit hg hwl (LJ _ _) (Iz abL) hr hF hb (by rw[HL];exact iP)
  (λH xs hO hS=>JT w H xs a hO hwi e2 hS) λH e s'=>hCX w H ip e s') λr' s' hq=>?_)
 obtain⟨u,as',rfl,h1,h2,h3,h4⟩:=hq;exact⟨.inl ⟨u,_,as',Z,λ_=>rfl,h1,(OpenSpec.post_iff Yp hwi _ _).mpr rfl,λz=>dX (show false=true from z)⟩,h2,h3,h4⟩
def SM {r:OpenSpec}{k:Nat}{q:bJ}{YC:mX}{XP:(sM)->Heap->Prop}{YP:cA->Heap->Prop}{d:DefRec}{K:JY->au}{CX:NR}{ps:mX}{sp:au->Sp}
  (Yp:r.wellSaid=true) (hdf:d.params.defaults=[]) (iP:r.args.length=ps.length) (hr:lC k SS)
  (hY:∀(w:cA) (h:Heap),YP w h->(K w.params).In h)
  (F:∀(w:cA) (mg:sM) (fa:lQ) (h:Heap),YP w h->(K w.params).In h->h.Ns mn mg->mg d.name=some (.ref fa)->
   ∃fd:eN,(∀(s:aL) (us:gS),us.length=ps.length->LZ s fd ⟨us,[]⟩ (ps.zip us))/\
    ∀rZ:Heap,(K w.params).In rZ->rZ.Ns mn mg->lx r.prog w (K w.params) mg rZ CX k fa fd ps (sp (K w.params)))
  (JT:∀(K:au) (H:Hp) (xs:b_) (a:Codec.denoteAll r.args),Oc H->Codec.withinAll r.args a=true->Codec.app r.args r.asked a=true->wG K H xs (Codec.encAll r.args a)->
   sp K xs H (λv H'=>Dw K H' v (r.ret.enc (Codec.app r.args r.f a))) λ_ _ _=>False)
  (hCX:∀(H:Hp) (s:aL) (e:kc) (s':aL),CX [] H s (λ_ _ _=>False) e s'->False):
  abc q YC XP YP r d [] (λf vs=>amO f vs):=
 Wa (K:=K) (CX:=λ_=>CX) (sp:=λw=>sp (K w.params)) Yp hdf iP hr hY F (λw H xs a h1 h2 h3 h4=>JT (K w.params) H xs a h1 h2 h3 h4) λ_ H s e s'=>hCX H s e s'
open PySem PySem.Spec PyProof.Rows
variable{H:Hp}{lo:Nat}{o oe:Obj}{Q E:j_}{h':Heap}{Ex:XK}{A A':Around}{s:aL}{a Mf:lQ}{X:Cx}{aA:jw}{d:Option lQ}{cJ:Pos}
def Ft (Mf:lQ)(H:Hp)(lo:Nat)(h:Heap)(e:lQ)(C:kc)(d:Option lQ)(wt:Bool):Prop:=
 H e=none/\lo<=e/\∃oe vs,h.get? e=some oe/\oe.cls=C/\oe.dict=d/\oe.data=.fields vs/\vs.size=6/\(C=.ref Mf->vs[2]? =some .none)/\
  ((wt=false/\vs[1]? =some .none)\/∃T oT ts,vs[1]? =some (.ref T)/\H T=none/\lo<=T/\T≠e/\h.get? T=some oT/\oT.data=.fields ts/\3<ts.size)
structure L5 (fs:pF)(H:Hp)(lo:Nat)(h h':Heap):Prop where
 keep:∀b o,b∉fs->(b<lo\/H b≠none\/∀vs,o.data≠.fields vs)->h.get? b=some o->h'.get? b=some o
 slot:∀b o,b∈fs->h.get? b=some o->∃sl,h'.get? b=some {o with slots:=sl}
 there:∀b o,h.get? b=some o->∃o',h'.get? b=some o'
def L5.trans {fs:pF}{h h1 h2:Heap}(a:L5 fs H lo h h1)(b:L5 fs H lo h1 h2):L5 fs H lo h h2 where
 keep:=λc o hc z e=>b.keep c o hc z (a.keep c o hc z e)
 slot:=λc o hc e=>by
  obtain⟨sl,e1⟩:=a.slot c o hc e;obtain⟨sl2,e2⟩:=b.slot c _ hc e1;exact⟨sl2,e2⟩
 there:=λc o e=>by
  obtain⟨o1,e1⟩:=a.there c o e;exact b.there c o1 e1
def L5.refl {fs:pF}{h:Heap}:L5 fs H lo h h:=⟨λ_ _ _ _ e=>e,λ_ o _ e=>⟨o.slots,e⟩,λ_ o e=>⟨o,e⟩⟩
def isRec (o:Option Obj):Bool:=match o with
 |some o=>(match o.data with|.fields _=>true|_=>false)
 |none=>false
def Zd (h:Heap)(H:Hp)(lo:Nat):pF:=(aK h.objs.size).filter λb=>decide (lo<=b)&&((H b).isNone&&isRec (h.get? b))
def ab8 {h:Heap}{b:lQ}(hb:b∈Zd h H lo):lo<=b/\H b=none/\∃o vs,h.get? b=some o/\o.data=.fields vs:=by
 unfold Zd at hb;have h2:=(oV.mp hb).2;simp only[cM,decide_eq_true_eq,Ma] at h2;obtain⟨h1,h3,h4⟩:=h2;refine⟨h1,h3,?_⟩;cases e:h.get? b with
 |none=>rw[e] at h4;cases h4
 |some o=>
  rw[e] at h4;cases hd:o.data with
  |fields vs=>exact⟨o,vs,Z,hd⟩
  |_=>simp only[isRec,hd] at h4;cases h4
def Pz {h:Heap}{b:lQ}(hb:b∉Zd h H lo)(e:h.get? b=some o)(n:H b=none):b<lo\/∀vs,o.data≠.fields vs:=by
 rcases uo b lo with q|q
 .exact .inl q
 .refine .inr λvs hd=>hb ?_;unfold Zd;refine oV.mpr ⟨cb.mpr (Heap.lt_size e),?_⟩;simp only[cM,decide_eq_true_eq,Ma];exact⟨q,n,by rw[e];simp only[isRec,hd]⟩
section
variable{X:Cx}{aA:jw}{σ:St}{H:Hp}{s:aL}{h':Heap}{lo:Nat}
def Inv.afv (I:Inv X aA σ H s)(f:L5 (F9 X.stack) H lo s.heap h'):wI X.prog X.w H h':=λb u e=>by
 refine(I.fV b u e).zZ (λc v hc q=>?_) (λ_ q=>q) λ_ _ q=>q;have hn:H c≠none:=by
  rcases hc with z|z
  .rw[z,e];exactλx=>nomatch x
  .rw[z];exactλx=>nomatch x
 exact f.keep c v (λz=>hn (I.NG c z)) (.inr (.inl hn)) q
def Inv.Tr {t':Nat}(I:Inv X aA σ H s)(hp:∀p∈X.pn++aA,p.1<lo)(f:L5 (F9 X.stack) H lo s.heap h')(lu:X.s_0.heap.objs.size<=lo):Inv X aA σ H {s with heap:=h',toks:=t'}:=by
 have aj3:∀b,b≠X.env.locals->b∉X.fs->b∉F9 X.stack:=λb h1 h2 z=>by
  rcases bo.mp (I.NH b z) with q|q
  .exact h1 q
  .exact h2 q
 obtain⟨m0,hns,_⟩:=id I.loc;obtain⟨oL,esL,epL,hoL,hdL,_⟩:=id hns;have slotAt:∀b o,s.heap.get? b=some o->H b=none->(b∈F9 X.stack\/b<lo\/∀vs,o.data≠.fields vs)->∃sl,h'.get? b=some {o with slots:=sl}:=λb o e n z=>by
  rcases Classical.em (b∈F9 X.stack) with q|q
  .exact f.slot b o q e
  .rcases z with z|z|z
   .exact absurd z q
   .exact⟨o.slots,f.keep b o q (.inl z) e⟩
   .exact⟨o.slots,f.keep b o q (.inr (.inr z)) e⟩
 refine I.step (g':=s.gens) (d':=s.drawn) (t':=t') (ch:=Zd s.heap H lo) (λb hb=>?_) (λb o h1 h2 hc e n=>?_) (λb o h1 h2 hc e n=>?_) (λ_ _ _ _ n=>n) (λb o _ e=>f.there b o e)
  (λ_ _ e=>e) (λ_ _ _ e=>e) (λb ps e=>⟨#[],by rw[e];simp⟩) (λm hm=>?_) (I.afv f) I.bare
 .obtain⟨h1,h2,o,vs,h3,h4⟩:=ab8 hb;refine⟨.inr (bt lu h1),λz=>?_,λx c e z=>?_,λp hpp=>?_⟩
  .rw[z,hoL] at h3;cases h3;rw[hdL] at h4;cases h4
  .obtain⟨v,oc,hoc,hdc⟩:=I.cell x c e;rw[z,h3] at hoc;cases hoc;rw[h4] at hdc;cases hdc
  .exact cG (bc (hp p hpp) h1)
 .rcases Pz hc e n with q|q
  .exact f.keep b o (aj3 b h1 h2) (.inl q) e
  .exact f.keep b o (aj3 b h1 h2) (.inr (.inr q)) e
 .refine slotAt b o e n (.inr ?_);rcases Pz hc e n with q|q
  .exact .inl q
  .exact .inr q
 .obtain⟨o,es,ep,ho,hd,r⟩:=hm;obtain⟨sl,e1⟩:=slotAt _ o ho I.free (.inr (.inr λvs q=>by rw[hd] at q;cases q));exact⟨_,es,ep,e1,hd,r⟩
end
open PySem PySem.Spec PyProof.Rows
def HK (f:Array kc->Array kc)(o:Obj):(Obj.mapFields f o).dict=o.dict:=by
 unfold Obj.mapFields;split<;>rfl
def YL (a:lQ):(Value.ref a !=Value.none)=true:=by simp
section
variable{X:Cx}{aA:jw}{σ:St}{H:Hp}{s:aL}{lo:Nat}{M:Model}{A:Around}{E:j_}{Mf e L:lQ}{C:kc}{d:Option lQ}{wt:Bool}{OS ju:Env}{uG:List Env}
def ab4 {head fr fl:kc}{pl:gS}(ot:IsPlace pl)(h:∀(O:Obj) (ts:Array kc),O.data=.fields ts->3<ts.size->O.isFreed=false->Q (.ref s.heap.objs.size) {s with heap:=s.heap.push O}):
  bw M A (EntryCells.newEntry head fr .none fl .none pl) Q E s:=by
 unfold EntryCells.newEntry;unfold newFields;exact L3 (h _ _ rfl (by simp only[bB,aO,aZ,dW];lia) rfl) (ot.sizeOk5 _ _ _ _ _)
def wz {h:Heap}{r:lQ}{vs:Array kc}(hr:h.get? r=some o)(hd:o.data=.fields vs)(i:Nat)(x:kc):
  (∀b,b≠r->(h.update r (Obj.mapFields (·.setIfInBounds i x))).get? b=h.get? b)/\
  ∃o',(h.update r (Obj.mapFields (·.setIfInBounds i x))).get? r=some o'/\o'.cls=o.cls/\o'.dict=o.dict/\o'.data=.fields (vs.setIfInBounds i x):=
 ⟨λb hb=>Heap.get?_update_other _ _ λz=>hb z.symm,_,Heap.get?_update_self _ hr (Obj.isFreed_of_fields (Obj.data_mapFields hd _)),Obj.cls_mapFields _ _,HK _ _,Obj.data_mapFields hd _⟩
def Inv.aj1 (I:Inv X aA σ H s){r:lQ}{vs:Array kc}(hr:s.heap.get? r=some o)(hd:o.data=.fields vs):r∉F9 X.stack:=λhm=>
 match I.stack.mem hm with
 |⟨_,_,q,nf⟩=>nf vs (by rw[bh (q.symm.trans hr)];exact hd)
def L5.one (I:Inv X aA σ H s){r:lQ}{o':Obj}{vs:Array kc}(hr:s.heap.get? r=some o)(hd:o.data=.fields vs)(hn:H r=none)(hl:lo<=r)
  (k:∀b,b≠r->h'.get? b=s.heap.get? b) (e:h'.get? r=some o'):L5 (F9 X.stack) H lo s.heap h':=by
 have nf:=I.aj1 hr hd;refine⟨λb q hb z w=>?_,λb q hb w=>⟨q.slots,(k b λz=>nf (z ▸ hb)).trans w⟩,λb q w=>?_⟩
 .refine(k b λy=>?_).trans w;subst y;have eo:o=q:=bh (hr.symm.trans w);rcases z with z|z|z
  .exact b8 _ (bc z hl)
  .exact z hn
  .exact z vs (eo ▸ hd)
 .by_cases y:b=r
  .exact⟨o',y ▸ e⟩
  .exact⟨q,(k b y).trans w⟩
def Ll {vs:Array kc}{head:kc}{abG:Bool}{Q:Unit->aL->Prop}(I:Inv X aA σ H s)(hp:∀p∈X.pn++aA,p.1<lo)(lu:X.s_0.heap.objs.size<=lo)
  (NX:A.frames=some X.stack) (uz:X.stack=ju::uG) (Dv:ju.frame=some L) (hf:OS.frame=some L)
  (he:s.heap.get? e=some oe) (hn:H e=none) (O_:lo<=e) (hd:oe.data=.fields vs) (hsz:vs.size=6) (hk:oe.cls=.ref Mf->vs[2]? =some .none)
  (h:∀h',Inv X aA σ H {s with heap:=h'}->L5 (F9 X.stack) H lo s.heap h'->Ft Mf H lo h' e oe.cls oe.dict true->Q () {s with heap:=h'}):
  bw M A (do let a<-Dt OS;let pl<-entryPlaceOf L abG;let b<-EntryCells.newEntry head a .none (rawInt L) .none pl;setField (.ref e) 1 b) Q E s:=by
 have hfo:Dt OS=Dt ju:=by unfold Dt;rw[hf,Dv]
 have aiZ:=I.aj1 he hd;have hl:=I.stack;rw[uz] at hl NX aiZ;rw[hfo];refine aR (wpAny_frameOf_fun NX hl Dv λg1 ⟨z1,z2,z3⟩=>aR (wpAny_entryPlaceOf λpl ot=>aR (ab4 ot λO ts hO hts EK=>?_)));have e1:g1.get? e=some oe:=(z2 e aiZ).trans he;have e2:(g1.push O).get? e=some oe:=Heap.get?_push_of_some O e1;have ne:g1.objs.size≠e:=λz=>b8 _ (lM (Heap.lt_size e1) z);obtain⟨k1,o',k2,k3,k4,k5⟩:=wz e2 hd 1 (.ref g1.objs.size);refine xc e2 hd (by lia) ?_;have fl:L5 (F9 X.stack) H lo s.heap ((g1.push O).update e (Obj.mapFields (·.setIfInBounds 1 (.ref g1.objs.size)))):=by
  have f1:L5 (F9 X.stack) H lo s.heap (g1.push O):=by
   rw[uz];exact⟨λb o hb _ q=>Heap.get?_push_of_some O ((z2 b hb).trans q),λb o _ q=>let ⟨sl,q1⟩:=z3 b o q;⟨sl,Heap.get?_push_of_some O q1⟩,λb o q=>let ⟨sl,q1⟩:=z3 b o q;⟨_,Heap.get?_push_of_some O q1⟩⟩
  exact f1.trans (L5.one (I.Tr (t':=s.toks) hp f1 lu) e2 hd hn O_ k1 k2)
 refine h _ (I.Tr (t':=s.toks) hp fl lu) fl ⟨hn,O_,o',_,k2,k3,k4,k5,by simp[hsz],λq=>?_,.inr ⟨g1.objs.size,O,ts,?_,?_,?_,ne,(k1 _ ne).trans (Heap.get?_push_size g1 EK),hO,hts⟩⟩
 .rw[eV (by decide)];exact hk q
 .rw[Array.getElem?_setIfInBounds_self_of_lt (by lia)]
 .rw[z1];exact I.fV.fresh (bq _)
 .exact bt O_ (cY (Heap.lt_size e1))
def yn {Q:Unit->aL->Prop}(I:Inv X aA σ H s)(hp:∀p∈X.pn++aA,p.1<lo)(lu:X.s_0.heap.objs.size<=lo)(F:Ft Mf H lo s.heap e C d wt)
  (NX:A.frames=some X.stack) (uz:X.stack=ju::uG) (Dv:ju.frame=some L) (hf:OS.frame=some L)
  (h:∀h',Inv X aA σ H {s with heap:=h'}->L5 (F9 X.stack) H lo s.heap h'->Ft Mf H lo h' e C d true->Q () {s with heap:=h'}):bw M A (AG (.ref e) OS) Q E s:=by
 obtain⟨hn,O_,oe,vs,he,rfl,rfl,hd,hsz,hk,tr⟩:=F;unfold AG;simp only[hf];rcases tr with⟨_,h1⟩|⟨T,oT,ts,h1,hTn,X1,hTe,hT,hdT,WI⟩
 .refine aR (mq he hd h1 ?_);rw[ah (by decide)];exact Ll I hp lu NX uz Dv hf he hn O_ hd hsz hk h
 .refine aR (mq he hd h1 ?_);rw[aj (YL T)];obtain⟨fl,h3⟩:∃fl,ts[3]? =some fl:=⟨_,NP WI⟩;refine aR (mq (vs:=ts) hT hdT h3 ?_);by_cases hq:(fl==rawInt L)=true
  .rw[aj hq];exact bV (h s.heap I .refl ⟨hn,O_,oe,vs,he,Z,Z,hd,hsz,hk,.inr ⟨T,oT,ts,h1,hTn,X1,hTe,hT,hdT,WI⟩⟩)
  .rw[ah hq];obtain⟨k1,o',k2,_⟩:=wz hT hdT 3 Value.none;have fl1:=L5.one I hT hdT hTn X1 k1 k2;exact aR (xc hT hdT WI (Ll (I.Tr (t':=s.toks) hp fl1 lu) hp lu NX uz Dv hf ((k1 e (eP hTe)).trans he) hn O_ hd hsz hk λh' I2 f2 F2=>h h' I2 (fl1.trans f2) F2))
def yZ {Q:Unit->aL->Prop}{fr:Option lQ}(I:Inv X aA σ H s)(hp:∀p∈X.pn++aA,p.1<lo)(lu:X.s_0.heap.objs.size<=lo)(F:Ft Mf H lo s.heap e C d wt)
  (h:∀h',Inv X aA σ H {s with heap:=h'}->L5 (F9 X.stack) H lo s.heap h'->Ft Mf H lo h' e C d wt->Q () {s with heap:=h'}):bw M A (Gw (.ref e) fr) Q E s:=by
 obtain⟨hn,O_,oe,vs,he,rfl,rfl,hd,hsz,hk,tr⟩:=F;unfold Gw;rcases tr with⟨hw,h1⟩|⟨T,oT,ts,h1,hTn,X1,hTe,hT,hdT,WI⟩
 .refine aR (mq he hd h1 ?_);rw[ah (by decide)];exact bV (h s.heap I .refl ⟨hn,O_,oe,vs,he,Z,Z,hd,hsz,hk,.inl ⟨hw,h1⟩⟩)
 .refine aR (mq he hd h1 ?_);rw[aj (YL T)];obtain⟨k1,o',k2,_,_,k5⟩:=wz hT hdT 3 (fr.elim Value.none λf=>rawInt f);have fl1:=L5.one I hT hdT hTn X1 k1 k2;exact xc hT hdT WI (h _ (I.Tr (t':=s.toks) hp fl1 lu) fl1 ⟨hn,O_,oe,vs,(k1 e (eP hTe)).trans he,Z,Z,hd,hsz,hk,.inr ⟨T,o',_,h1,hTn,X1,hTe,k2,k5,by simpa using WI⟩⟩)
def H_ (F:Ft Mf H lo s.heap e C d true)(h:∀T,Q (.ref T) s):bw M A (field (.ref e) 1) Q E s:=by
 obtain⟨hn,O_,oe,vs,he,rfl,rfl,hd,hsz,hk,tr⟩:=F;rcases tr with⟨hw,h1⟩|⟨T,oT,ts,h1,_⟩
 .cases hw
 .exact mq he hd h1 (h T)
def Ia {α:Type}{aqj:String}{Q:α->aL->Prop}(I:Inv X aA σ H s)(hp:∀p∈X.pn++aA,p.1<lo)(lu:X.s_0.heap.objs.size<=lo)(F:Ft Mf H lo s.heap e C d true)
  (h:∀h',Inv X aA σ H {s with heap:=h'}->L5 (F9 X.stack) H lo s.heap h'->Ft Mf H lo h' e C d true->E (.ref e) {s with heap:=h'}):bw M A (QK aqj (.ref e) OS:Sem α) Q E s:=by
 unfold QK;refine aR (H_ F λT=>?_);rw[ah (by simp)];exact aR (yZ I hp lu F λh' I' f' F'=>wpAny_throw (h h' I' f' F'))
def tN (P:bJ)(w:cA)(Mf:lQ):NR:=λouter H s E e s'=>∃(a:lQ) (C:kc) (d:Option lQ) (H':Hp),e=.ref a/\s'.os=s.os/\Gr s'.gens/\Un (F9 outer) [] H H' s.heap s'.heap/\wI P w H' s'.heap/\
 Ft Mf H' s.heap.objs.size s'.heap a C d true/\E C d H'
def Vg {Q:Unit->aL->Prop}(I:Inv X aA σ H s)(hp:∀p∈X.pn++aA,p.1<lo)(hex:X.ex=[])(lu:X.s_0.heap.objs.size<=lo)(F:Ft Mf H lo s.heap e C d wt)
  (NX:A.frames=some X.stack) (uz:X.stack=ju::uG) (Dv:ju.frame=some L) (hf:OS.frame=some L) (q:Ex C d H)
  (h:∀s',tN X.prog X.w Mf X.outer X.H_0 X.s_0 Ex (.ref e) s'->Q () s'):bw M A (leaving OS (.ref e)) Q E s:=by
 unfold leaving;refine aR (yn I hp lu F NX uz Dv hf λh1 I1 f1 F1=>?_);refine yZ I1 hp lu F1 λh2 I2 f2 F2=>?_;refine h _ ⟨e,C,d,H,Z,I2.os,I2.bare,?_,I2.fV,?_,q⟩
 .have:=I2.rZ;rw[hex] at this;exact this
 .obtain⟨a1,a2,oe,vs,a3,a4,a5,a6,a7,a8,tr⟩:=F2;refine⟨a1,bt lu a2,oe,vs,a3,a4,a5,a6,a7,a8,?_⟩;rcases tr with⟨z,_⟩|⟨T,oT,ts,b1,b2,b3,b4⟩
  .cases z
  .exact .inr ⟨T,oT,ts,b1,b2,bt lu b3,b4⟩
def Inv.aiJ {ev:kc}{s':aL}(I:Inv X aA σ H s)(h:tN X.prog X.w Mf X.stack H s Ex ev s'):
  ∃a C d H' lo,ev=.ref a/\Inv X aA σ H' s'/\(∀p∈X.pn++aA,p.1<lo)/\X.s_0.heap.objs.size<=lo/\Ft Mf H' lo s'.heap a C d true/\Ex C d H':=by
 obtain⟨a,C,d,H',rfl,hos,hb,un,fV,F,q⟩:=h;exact⟨a,C,d,H',_,Z,I.Xn (ch:=[]) hos un fV hb (λb z=>absurd z (by simp)),λp hp=>Heap.lt_size (I.pin p hp).1,I.sz,F,q⟩
def Raises (X:Cx)(Mf:lQ)(Ex:XK):Prop:=∀(aA:jw) (σ:St) (H:Hp) (s:aL) (lo:Nat) (e:lQ) (C:kc) (d:Option lQ) (wt:Bool),Inv X aA σ H s->(∀p∈X.pn++aA,p.1<lo)->X.s_0.heap.objs.size<=lo->
 Ft Mf H lo s.heap e C d wt->Ex C d H->X.xe (.ref e) s
def Raises.passes (h:Raises X Mf Ex):Passes (tN X.prog X.w Mf) X Ex:=λaA σ H s e s' I c=>by
 obtain⟨a,C,d,H',lo,rfl,I',hp,lu,F,q⟩:=I.aiJ c;exact h aA σ H' s' lo a C d true I' hp lu F q
def aY {P:bJ}{w:cA}{K:au}{mg:sM}{rZ:Heap}{N:mX}{eU:Str}{a_:nz}{f:lQ}{sP:kc}{outer:List Env}{E:XK}:
  Raises (AY (tN P w Mf) P w K mg rZ N eU a_ f sP A outer s H E) Mf E:=λaA σ H' s' lo e C d wt I hp lu F q=>
 Vg (X:=AY (tN P w Mf) P w K mg rZ N eU a_ f sP A outer s H E) I hp rfl lu F I.ok.frames rfl rfl rfl q λs'' z=>z
end
open PySem PySem.Spec PyProof.Rows
abbrev bmE:gS:=[.type "Exception",.type "BaseException",.type "object"]
def ac8:kW (.type "Exception") "kind"=pure none:=by rw[typeLookup_type,adi];kernel_rfl
def Z3:kW (.type "Exception") "place"=pure none:=by rw[typeLookup_type,adi];kernel_rfl
inductive XEx (K:au)(C N:lQ):Prop|i nm q bs sn sub ab col dd k0 k1 k2 k3 k5(_:K.lookup C=some (fW nm q C N bs bmE true sn sub ab col dd k0 k1 k2 k3 k5 "Exception.__new__"))
structure tL (K:au)(C N:lQ):Prop where
 ex:XEx K C N
 ok:abd K N=true
 sa:fi K N "__setattr__"=some none
 ga:fi K N "__getattribute__"=some none
 gh:fi K N "__getattr__"=some none
 kp:il K (.ref C)=true
section
variable{prog:bJ}{w:cA}{A:Around}{E:j_}{h:Heap}{g:Array AF}{dr:aad}{t:Nat}{os:SQ}{K:au}{C N x:lQ}{name:Str}{v:kc}
def tL.ns (c:tL K C N)(k:K.In h):h.Ns N (h.nsMap N):=.of_isNs (PySem.W.isNs_of_in k c.ok)
def tL.no (c:tL K C N)(k:K.In h){n:Str}(e:fi K N n=some none):h.nsMap N n=none:=PySem.W.nsMap_none_of_in k c.ok e
end
section
variable{prog:bJ}{w:cA}{A:Around}{E:j_}{h:Heap}{g:Array AF}{dr:aad}{t:Nat}{os:SQ}{C N x:lQ}{name:Str}{v:kc}
 {nm q:Str} {bs bm:gS} {sn:mX} {sub:gS} {ab:Bool} {col:Option Bool} {dd:Option lQ} {k0 k1 k2 k3 k5:Option kc} {B newId sa ad7:String} {mN:sM} {o:Obj} {vs:Array kc}
open Builtin Builtin.ObjectAttr
def Z8 {tk:Tok}{Q:Fin->aL->Prop}(SF:StoreFacts B bm sa ad7)(hC:h.get? C=some (fW nm q C N bs bm true sn sub ab col dd k0 k1 k2 k3 k5 newId))(hn:h.Ns N mN)(hna:mN name=none)(hB:kW (.type B) name=pure none)
  (hx:h.get? x=some o) (hc:o.cls=.ref C) (hd:o.data=.fields vs) (Cw:o.dict=none)
  (hq:∀h' tk',h'.get? x=some {o with dict:=some h.objs.size}->h'.Ns1 h.objs.size (λy=>if y=name then some v else none)->(∀b ob,b≠x->h.get? b=some ob->h'.get? b=some ob)->Q (.done (.ret .none)) ⟨h',g,dr,tk',os⟩):
  bw (bA prog w) A (Builtin.«object.__setattr__» ⟨[.ref x,.str name tk,v],[]⟩) Q E ⟨h,g,dr,t,os⟩:=by
 have ajl:=SF.passes (.ref x);unfold Builtin.«object.__setattr__»
 repeat (first|rw[refuse_eq]|rw[refuseLoop_ref,ajl]|(with_reducible refine bU hx ?_;rw[hc])|with_reducible refine wpAny_mroOf_exc hC ?_ |(with_reducible refine iX hC hn SF.mro hB ?_;rw[hna])|wp_step)
 rw[Cw,hd];show bw (bA prog w) A (do
  let d<-alloc {cls:=Value.type "dict",data:=Data.dict #[]}
  update x λo=>{o with dict:=some d}
  dictMade (Value.ref C) x d) _ _ _
 have g1:(h.push {cls:=.type "dict",data:=.dict #[]}).get? x=some o:=Heap.get?_push_of_some _ hx;have nx:x≠h.objs.size:=λz=>b8 _ (lM (Heap.lt_size hx) z.symm);have fr:({o with dict:=some h.objs.size}:Obj).isFreed=false:=by
  obtain⟨oc,od,odt,YX⟩:=o;have hd:odt=.fields vs:=hd;subst hd;rfl
 have g2:=Heap.get?_update_self (λ(u:Obj)=>{u with dict:=some h.objs.size}) g1 fr;have g3:((h.push {cls:=.type "dict",data:=.dict #[]}).update x λ(u:Obj)=>{u with dict:=some h.objs.size}).get? h.objs.size=some {cls:=.type "dict",data:=.dict #[]}:=
  (Heap.get?_update_ne _ _ _ _ nx.symm).trans (Heap.get?_push_at rfl rfl)
 refine aR (wpAny_alloc' (aR (WR g1 (bV ?_))));show bw _ _ (storeInDict h.objs.size (.str name tk) name v) _ _ _;unfold storeInDict;unfold newKeyGuard;refine aR (bV (aR (wpAny_nsSet1 (Heap.Ns1.of_empty ⟨_,#[],_,g3,Z,(λe he=>absurd he (by simp)),λ_=>rfl⟩) λh' n' sb=>?_)));obtain⟨oD,esD,epD,hoD,hdD,hcD⟩:=n'.count (Within.cons name v Within.nil);refine aR (amj hoD (by rw[hdD];exact amg (bt hcD (by rw[aZ,dW,aE];lia))) (bV ?_));exact hq h' _ ((sb.2 x nx).trans g2) n' λb ob hb e=>(sb.2 b λz=>b8 _ (lM (Heap.lt_size e) z.symm)).trans ((Heap.get?_update_ne _ _ _ _ hb).trans (Heap.get?_push_of_some _ e))
def adf {Q:Unit->aL->Prop}(SF:StoreFacts B bm sa ad7)(hC:h.get? C=some (fW nm q C N bs bm true sn sub ab col dd k0 k1 k2 k3 k5 newId))(hn:h.Ns N mN)(hns:mN "__setattr__"=none)(hna:mN name=none)(hB:kW (.type B) name=pure none)
  (hx:h.get? x=some o) (hc:o.cls=.ref C) (hd:o.data=.fields vs) (Cw:o.dict=none)
  (hq:∀h' tk',h'.get? x=some {o with dict:=some h.objs.size}->h'.Ns1 h.objs.size (λy=>if y=name then some v else none)->(∀b ob,b≠x->h.get? b=some ob->h'.get? b=some ob)->Q () ⟨h',g,dr,tk',os⟩):
  bw (bA prog w) A (setAttr (.ref x) name v) Q E ⟨h,g,dr,t,os⟩:=by
 have adO:=SF.slot.bind (.ref x);unfold setAttr;unfold callSpecial?;unfold specialOf
 repeat (any_goals (first|assumption|(with_reducible refine bU hx ?_;rw[hc])|(with_reducible refine iX hC hn SF.mro SF.slot.lookup ?_;rw[hns])|wp_step))
 refine Fs SF.slot.plain SF.entry (wpAny_check_sa SF hC hx hc (Z8 SF hC hn hna hB hx hc hd Cw λh' tk' a1 a2 a3=>?_))
 repeat (any_goals (first|assumption|wp_step))
 exact hq h' _ a1 a2 a3
def Z4 {tk:Tok}{dx:lQ}{mA:sM}{Q:Fin->aL->Prop}(an8:mroOf (.type B)=pure bm)(hC:h.get? C=some (fW nm q C N bs bm true sn sub ab col dd k0 k1 k2 k3 k5 newId))(hn:h.Ns N mN)(hna:mN name=none)(hB:kW (.type B) name=pure none)
  (hx:h.get? x=some o) (hc:o.cls=.ref C) (hd:o.data=.fields vs) (Cw:o.dict=some dx) (hm:h.Ns1 dx mA) (hv:mA name=some v) (hq:Q (.done (.ret v)) ⟨h,g,dr,t,os⟩):
  bw (bA prog w) A (Builtin.«object.__getattribute__» ⟨[.ref x,.str name tk],[]⟩) Q E ⟨h,g,dr,t,os⟩:=by
 unfold Builtin.«object.__getattribute__»
 repeat (first|(with_reducible refine bU hx ?_;rw[hc])|(with_reducible refine iX hC hn an8 hB ?_;rw[hna])|wp_step)
 rw[hd];show bw _ _ (instanceDict x false) _ _ _;unfold instanceDict
 repeat (first|(with_reducible refine bU hx ?_;rw[hc])|with_reducible refine bU hC ?_ |wp_step)
 rw[Cw]
 repeat (first|(with_reducible refine wpAny_nsGet hm.ns ?_;rw[hv])|wp_step)
 exact hq
def akQ {tk:Tok}{dx:lQ}{mA:sM}{fill Rn:Bool}(FB:ExcAttrBase B bm)(hC:h.get? C=some (fW nm q C N bs bm true sn sub ab col dd k0 k1 k2 k3 k5 newId))(hn:h.Ns N mN)
  (hng:mN "__getattribute__"=none) (hnh:mN "__getattr__"=none) (hna:mN name=none) (hB:kW (.type B) name=pure none)
  (hx:h.get? x=some o) (hc:o.cls=.ref C) (hd:o.data=.fields vs) (Cw:o.dict=some dx) (hm:h.Ns1 dx mA) (hv:mA name=some v) (hh:handedOut v=pure v) (hq:Q v ⟨h,g,dr,t,os⟩):
  bw (bA prog w) A (getAttrBy (.ref x) (.str name tk) fill Rn) Q E ⟨h,g,dr,t,os⟩:=by
 have b0:=FB.ga.bind (.ref x);have b1:(Rn&&onTheHeap (Value.builtin "BaseException.__getattribute__"))=false:=by cases Rn<;>rfl
 have b3:(Value.builtin "BaseException.__getattribute__"==Value.builtin "object.__getattribute__")=false:=by decide+kernel
 have b2:(onTheHeap (Value.ref C)&&Value.builtin "BaseException.__getattribute__"==Value.builtin "object.__getattribute__")=false:=by rw[b3];rfl
 repeat (any_goals (first|assumption|(with_reducible refine bU hx ?_;rw[hc])|(with_reducible refine iX hC hn FB.mro FB.ga.lookup ?_;rw[hng])|(with_reducible refine iX hC hn FB.mro FB.noGetattr ?_;rw[hnh])|wp_step))
 refine Fs FB.ga.plain F.entry_bexc_ga (wpAny_check_ga_own FB hC .base hx hc (Z4 FB.mro hC hn hna hB hx hc hd Cw hm hv ?_))
 repeat (any_goals (first|assumption|wp_step))
def ada {dx:lQ}{mA:sM}{Rn:Bool}(FB:ExcAttrBase B bm)(hC:h.get? C=some (fW nm q C N bs bm true sn sub ab col dd k0 k1 k2 k3 k5 newId))(hn:h.Ns N mN)
  (hng:mN "__getattribute__"=none) (hnh:mN "__getattr__"=none) (hna:mN name=none) (hB:kW (.type B) name=pure none)
  (hx:h.get? x=some o) (hc:o.cls=.ref C) (hd:o.data=.fields vs) (Cw:o.dict=some dx) (hm:h.Ns1 dx mA) (hv:mA name=some v) (hh:handedOut v=pure v) (hq:Q v ⟨h,g,dr,t+1,os⟩):
  bw (bA prog w) A (aaV (.ref x) name Rn) Q E ⟨h,g,dr,t,os⟩:=by
 unfold aaV
 repeat (any_goals (first|assumption|with_reducible apply akQ FB hC hn hng hnh hna hB hx hc hd Cw hm hv hh|wp_step))
end
open PySem PySem.Spec PyProof.Rows
def del (H:Hp)(a:lQ):Hp:=λb=>if b=a then none else H b
def OP:del H a a=none:=by unfold del;rw[aj rfl]
def vT {b:lQ}(h:b≠a):del H a b=H b:=by unfold del;rw[ah h]
def XE (e C:lQ)(d:Option lQ):Heap->Prop:=λh=>∃oe vs,h.get? e=some oe/\oe.cls=.ref C/\oe.dict=d/\oe.data=.fields vs/\vs.size=6/\vs[1]? =some .none/\vs[2]? =some .none
def GB (d:lQ)(fs:List (Str×V)):Heap->Prop:=λh=>∃mA,h.Ns1 d mA/\(∀f,ur (fs.lookup f) (mA f))/\Fz mA (fs.map (·.1))
section
variable{P:bJ}{w:cA}{H:Hp}{h:Heap}{e C d:lQ}{od:Option lQ}{fs:List (Str×V)}
def Z2 (x:XE e C od h):jq P w H h e (.ext (XE e C od)):=by
 obtain⟨oe,vs,z,r⟩:=id x;exact⟨x,⟨oe,z⟩,λh1 h2 ⟨o1,v1,q,r1⟩ k=>⟨o1,v1,k _ q,r1⟩⟩
def aet (x:GB d fs h):jq P w H h d (.ext (GB d fs)):=by
 obtain⟨mA,n,r⟩:=id x;obtain⟨o,es,ep,q,_⟩:=id n;exact⟨x,⟨o,q⟩,λh1 h2 ⟨m1,n1,r1⟩ k=>⟨m1,n1.at k,r1⟩⟩
def vV {φ:Heap->Prop}(ok:wI P w H h)(e:H a=some (.ext φ)):φ h:=(ok a _ e).1
end
section
variable{X:Cx}{aA:jw}{σ:St}{H:Hp}{s:aL}
def Inv.forget {φ:Heap->Prop}(I:Inv X aA σ H s)(e:H a=some (.ext φ))(ha:X.s_0.heap.objs.size<=a):Inv X aA σ (del H a) s:=by
 have low:∀b o,X.s_0.heap.get? b=some o->b≠a:=λb o q z=>b8 _ (bc (Heap.lt_size q) (z ▸ ha));have un:=I.rZ;refine⟨I.ok,I.os,I.bare,⟨un.keep,un.slot,λb o q n x=>?_,un.there,λb xs q=>?_,λb o u q=>?_,λb ps q=>?_⟩,I.loc,I.cell,?_,λx c q=>?_,λp hp=>?_,λb o q=>?_,I.len⟩
 .rw[vT (low b o q)];exact un.free b o q n x
 .have z:=un.tups b xs q;rw[vT (λy=>by rw[y,e] at z;cases z)];exact z
 .have z:=un.frzs b o u q;rw[vT (λy=>by rw[y,e] at z;cases z)];exact z
 .obtain⟨m,z⟩:=un.tbls b ps q;exact⟨m,by rw[vT (λy=>by rw[y,e] at z;cases z)];exact z⟩
 .unfold del;split<;>first|rfl|exact I.free
 .unfold del;split<;>first|rfl|exact I.pO x c q
 .obtain⟨z1,z2,z3⟩:=I.pin p hp;refine⟨z1,?_,z3⟩;unfold del;split<;>first|rfl|exact z2
 .have hb:b≠a:=λz=>by rw[z,OP] at q;cases q
  rw[vT hb] at q;exact(I.fV b o q).zZ (λc v _ z=>z) (λc z=>by rw[vT (λy=>by rw[y,e] at z;cases z)];exact z) λc xs z=>by rw[vT (λy=>by rw[y,e] at z;cases z)];exact z
def Inv.aep {o:HO}(I:Inv X aA σ H s)(aoj:∀p∈X.pn++aA,p.1≠a)(hn:H a=none)(ha:X.s_0.heap.objs.size<=a)(hL:a≠X.env.locals)(hc:∀x c,X.env.cells.lookup x=some c->c≠a)
  (ok:jq X.prog X.w (upd H a o) s.heap a o):Inv X aA σ (upd H a o) s:=by
 have low:∀b u,X.s_0.heap.get? b=some u->b≠a:=λb u q z=>b8 _ (bc (Heap.lt_size q) (z ▸ ha));have un:=I.rZ;have ne:∀{b u},H b=some u->b≠a:=λq=>aI q hn;refine⟨I.ok,I.os,I.bare,⟨un.keep,un.slot,λb u q n x=>?_,un.there,λb xs q=>?_,λb u v q=>?_,λb ps q=>?_⟩,I.loc,I.cell,?_,λx c q=>?_,λp hpp=>?_,λb u q=>?_,I.len⟩
 .rw[aF (low b u q)];exact un.free b u q n x
 .rw[aF (ne (un.tups b xs q))];exact un.tups b xs q
 .rw[aF (ne (un.frzs b u v q))];exact un.frzs b u v q
 .obtain⟨m,z⟩:=un.tbls b ps q;exact⟨m,by rw[aF (ne z)];exact z⟩
 .rw[aF hL.symm];exact I.free
 .rw[aF (hc x c q)];exact I.pO x c q
 .obtain⟨z1,z2,z3⟩:=I.pin p hpp;exact⟨z1,by rw[aF (aoj p hpp)];exact z2,z3⟩
 .by_cases hb:b=a
  .subst hb;rw[aq] at q;cases q;exact ok
  .rw[aF hb] at q;exact(I.fV b u q).zZ (λc v _ z=>z) (λc z=>by rw[aF (ne z)];exact z) λc xs z=>by rw[aF (ne z)];exact z
def Inv.Zc (I:Inv X aA σ H s){vs:Array kc}(e:s.heap.get? a=some o)(d:o.data=.fields vs):a≠X.env.locals/\∀x c,X.env.cells.lookup x=some c->c≠a:=by
 refine⟨λz=>?_,λx c q z=>?_⟩
 .obtain⟨m,⟨oL,es,ep,hL,dL,_⟩,_⟩:=I.loc;rw[<-z,e] at hL;cases hL;rw[d] at dL;cases dL
 .obtain⟨v,oc,hcl,dc⟩:=I.cell x c q;rw[z,e] at hcl;cases hcl;rw[d] at dc;cases dc
end
structure Oh (K:au)(N:lQ)(f:Str):Prop where
 own:fi K N f=some none
 rZ:kW (.type "Exception") f=pure none
inductive Sxf (f:Str)(K:au)(D:Ends)(σ:St)(y:V)(x:V)(H2:Hp):Prop|i a C N(_:x=.ref a)(_:tL K C N)(_:Oh K N f)(_:
 ((H2 a=some (.ext (XE a C none))/\∀dd,H2 dd=none->dd≠a->D.nx σ (upd (upd H2 a (.ext (XE a C (some dd)))) dd (.ext (GB dd [(f,y)]))))\/
  ∃dd fs,H2 a=some (.ext (XE a C (some dd)))/\H2 dd=some (.ext (GB dd fs))/\fs.length<1000/\D.nx σ (upd H2 dd (.ext (GB dd (vj f y fs))))))
def sXF (ta tv:TE)(f:Str)(K:au):TS:=λD σ H=>tv σ H λy H1=>ta σ H1 (Sxf f K D σ y)
section
variable{X:Cx}{o iW:Expr}{f:Str}{cJ xu:Pos}{ta tv:TE}
def Np (ha:PE X o ta)(hv:PE X iW tv)(hs:mU iW (some (.Attribute o f xu)) cJ.line X.env=pure false):PS X (.Assign [.Attribute o f xu] iW cJ) (sXF ta tv f X.K):=by
 intro aA s σ H D I h;refine NO (jc (hv aA s σ H _ I h) ?_) hs;rintro u s1 ⟨y,H1,I1,ry,q⟩;refine jc (ha aA s1 σ H1 _ I1 q) ?_;rintro ov s2 ⟨x,H2,I2,rx,a,C,N,rfl,c,n,q2⟩;obtain rfl:ov=Value.ref a:=rx;obtain⟨nm,qn,bs,sn,sub,ab,col,Wy,k0,k1,k2,k3,k5,e0⟩:=c.ex;have uC:=I2.zb;have hC:=uC _ _ e0;rcases q2 with⟨hE,nx⟩|⟨dd,fs,hE,hD,hl,nx⟩
 .obtain⟨oe,vs,z1,z2,z3,z4,z5⟩:=vV I2.fV hE;obtain⟨WE,g2,dr2,t2,os2⟩:=s2;refine adf NU hC (c.ns uC) (c.no uC c.sa) (c.no uC n.own) n.rZ z1 z2 z4 z3 λh' tk' a1 a2 a3=>?_;have fresh:H2 WE.objs.size=none:=I2.fV.fresh (bq _);have ne:WE.objs.size≠a:=λq=>b8 _ (lM (Heap.lt_size z1) q);have I3:Inv X aA σ (upd H2 a (.ext (XE a C (some WE.objs.size)))) ⟨h',g2,dr2,tk',os2⟩:=
   I2.write (x:=a) (e:=a) (h':=h') (t':=tk') (by rw[hE];exact m7) (.inl rfl) (λb u hb q=>a3 b u hb q) ⟨_,a1⟩ (Z2 ⟨_,vs,a1,z2,Z,z4,z5⟩)
  have lt:∀b ob,WE.get? b=some ob->b≠WE.objs.size:=λb ob q z=>b8 _ (lM (Heap.lt_size q) z.symm);refine⟨σ,_,I3.aep (a:=WE.objs.size) (o:=.ext (GB WE.objs.size [(f,y)])) (λp hp=>lt _ _ (I2.pin p hp).1) (by rw[aF ne];exact fresh) I2.sz (λz=>b8 _ (lM I2.lt z)) (λx c' q=>?_) (aet ⟨_,a2,λg=>?_,λg hg=>?_⟩),nx _ fresh ne⟩
  .obtain⟨v,oc,q1,_⟩:=I2.cell x c' q;exact lt _ _ q1
  .by_cases hg:g=f
   .subst hg;show ur (lB g [(g,y)]) (if g=g then some u else none);rw[aj rfl,List.lookup_cons_self];exact ry
   .show ur (lB g [(f,y)]) (if g=f then some u else none);rw[ah hg,jn,beq_false_of_ne hg];exact m7
  .by_cases hgf:g=f
   .rw[hgf];exact aU
   .exact absurd (ah hgf) hg
 .obtain⟨oe,vs,z1,z2,z3,z4,z5⟩:=vV I2.fV hE;obtain⟨mA,n1,Qa,wi⟩:=vV I2.fV hD;have ned:dd≠a:=λz=>by
   obtain⟨ob,es,ep,q1,q2,_⟩:=n1;rw[z,z1] at q1;cases q1;rw[z4] at q2;cases q2
  .obtain⟨WE,g2,dr2,t2,os2⟩:=s2;have VB:a≠C:=λq=>by rw[q,hC] at z1;cases z1;cases z4
   refine PySem.store_attr NU hC (c.ns uC) (c.no uC c.sa) (c.no uC n.own) n.rZ VB ⟨oe,z1,z2,(λcc q=>by rw[z4] at q;cases q),.inr ⟨dd,z3,ned,n1⟩⟩ (λh' tk' J a3 a4=>?_) wi (by rw[aB,aE];lia);obtain⟨o1,b1,b2,b3,b4,b5⟩:=a4 oe z1;have eo:o1=oe:=by
    obtain⟨x1,x2,x3,x4⟩:=o1;obtain⟨y1,y2,y3,y4⟩:=oe;have e5:=b5 dd z3;dsimp only at b2 b3 b4 e5 z3;subst b2 b3 b4;rw[e5,z3]
   have n2:h'.Ns1 dd (λz=>if z=f then some u else mA z):=by
    obtain⟨o2,q1,_,_,q4⟩:=J;rw[b1,eo] at q1;cases q1;rcases q4 with⟨q4,_⟩|⟨d2,q4,_,q5⟩
    .rw[z3] at q4;cases q4
    .rw[z3] at q4;cases q4;exact q5
   have hdo:∃ob,h'.get? dd=some ob:=let ⟨ob,_,_,q,_⟩:=n2;⟨ob,q⟩;refine⟨σ,_,I2.write (x:=dd) (e:=dd) (h':=h') (t':=tk') (by rw[hD];exact m7) (.inl rfl) (λb ob hb q=>?_) hdo (aet ⟨_,n2,λg=>?_,λg hg=>?_⟩),nx⟩
   .by_cases hba:b=a
    .subst hba;have:ob=oe:=bh (q.symm.trans z1);rw[this,b1,eo]
    .exact a3 b ob hba (λo0 dx q0 q1=>by rw[z1] at q0;cases q0;rw[z3] at q1;cases q1;exact hb) q
   .show ur ((vj f y fs).lookup g) (if g=f then some u else mA g);rw[yx];by_cases hg:g=f
    .rw[aj hg,aj hg];exact ry
    .rw[ah hg,ah hg];exact Qa g
   .by_cases hgf:g=f
    .rw[hgf];exact(u6 f y fs).1
    .refine(u6 f y fs).2 g (wi g λz=>hg ?_);show(if g=f then some u else mA g)=none;rw[ah hgf];exact z
def sXI (ta:TE)(K:au):TS:=λD σ H=>ta σ H λx H2=>∃a C N d,[x]=[V.ref a]/\tL K C N/\H2 a=some (.ext (XE a C d))/\D.nx σ (upd H2 a (.ext (XE a C d)))
def ac9 {K:au}:PySem.W.findCls K (.type "Exception") (.type "type") "__init__"=some (.val (.builtin "Exception.__init__")):=by rfl
end
section
variable{prog:bJ}{w:cA}{A:Around}{E:j_}{h:Heap}{g:Array AF}{dr:aad}{t:Nat}{os:SQ}{C N x:lQ}
 {nm q:Str} {bs bm:gS} {sn:mX} {sub:gS} {ab:Bool} {col:Option Bool} {dd:Option lQ} {k0 k1 k2 k3 k5:Option kc} {B newId yu:String} {o:Obj} {vs:Array kc}
def JH (F:BK B newId yu bm)(hC:h.get? C=some (fW nm q C N bs bm true sn sub ab col dd k0 k1 k2 k3 k5 newId))(hx:h.get? x=some o)(hc:o.cls=.ref C)(hd:o.data=.fields vs)(hsz:vs.size=6)
  (hq:∀h' o' z,h'.get? x=some o'->o'.cls=o.cls->o'.dict=o.dict->o'.data=.fields (vs.setIfInBounds 0 z)->(∀b ob,b≠x->h.get? b=some ob->h'.get? b=some ob)->Q .none ⟨h',g,dr,t,os⟩):
  bw (bA prog w) A (call (.builtin yu) [.ref x]) Q E ⟨h,g,dr,t,os⟩:=by
 refine BO (Fs F.init.plain F.initEntry (wpAny_check_init_sub F hC hx hc ?_));unfold Builtin.«BaseException.__init__»;dsimp only;rw[ah (by simp)];unfold newTuple;unfold Builtin.BaseException.bexcPut;obtain⟨z0,hz⟩:∃z,vs[0]? =some z:=⟨_,NP (show 0<vs.size by lia)⟩;have g1:=Heap.get?_push_of_some (h:=h) {cls:=.type "tuple",data:=.seq ([]:gS).toArray} hx;obtain⟨k1,o',k2,k3,k4,k5⟩:=wz g1 hd 0 (.ref h.objs.size);refine aR (L3 (aR (aR (mq g1 hd hz (aR (xc g1 hd (by lia) ?_))))) (by show 0<=bu;decide));have fin:=hq _ o' _ k2 k3 k4 k5 λb ob hb e=>(k1 b hb).trans (Heap.get?_push_of_some _ e);cases z0<;>first|exact wpAny_letGo (bV fin)|exact bV (bV fin)
end
section
variable{X:Cx}{ta:TE}{cJ:Pos}
def P5 {e:Expr}{np kM lj:Pos}{pl:Sem Bool}(hg:Gl X "Exception")(hm:X.mg "Exception"=none)(ha:PE X e ta)(hs:autoParam (dv [e] X.env=[(false,eval e X.env)]) Z_r)
  (ot:autoParam ((m9 lj (dv [] X.env)).any (·.1)=false) Z_r)
  (ht:eval (.Call (.Attribute (.Name "Exception" np) "__init__" kM) [e] [] lj) X.env=(do
   let ov<-eval (.Name "Exception" np) X.env
   BN kM.atName
   let (f,first)<-vt [ov] (wC ov "__init__" pl)
   Fq lj f first (m9 lj (dv [e] X.env)) (w_ lj (oz [] X.env))):=by rfl)
  (hsw:autoParam (mU (.Call (.Attribute (.Name "Exception" np) "__init__" kM) [e] [] lj) none cJ.line X.env=pure false) Z_r):
  PS X (.Expr (.Call (.Attribute (.Name "Exception" np) "__init__" kM) [e] [] lj) cJ) (sXI ta X.K):=by
 intro aA s σ H D I h;refine wpAny_Expr_any (qf (pl:=pl) (wm I hg hm PyProof.Rows.Boot.«Exception» ?_ (by decide) (by decide)) ht) I.quiet hsw;obtain⟨m0,F0⟩:=I.fr;refine PySem.W.method_type F0 I.ok.mod.uC (by kernel_rfl) (by decide+kernel) ac9 rfl ?_;have hh:Jy ta Gp σ H (λvs H2=>∃a C N d,vs=[V.ref a]/\tL X.K C N/\H2 a=some (.ext (XE a C d))/\D.nx σ (upd H2 a (.ext (XE a C d)))):=h;refine BB (jc ((ak ha ax hs) lj aA _ σ H _ (I.tok _) hh) λus s1 ⟨vs,H1,I1,r,a,C,N,d,ev,c,hE,q⟩=>?_) hs ot;subst ev;obtain rfl:=Vals.agc r;obtain⟨nm,qn,bs,sn,sub,ab,col,Wy,k0,k1,k2,k3,k5,e0⟩:=c.ex;have hC:=I1.zb _ _ e0;obtain⟨oe,vs,z1,z2,z3,z4,z5,z6,z7⟩:=vV I1.fV hE;obtain⟨WE,g2,dr2,t2,os2⟩:=s1;refine JH m6 hC z1 z2 z4 z5 λh' o' z a1 a2 a3 a4 a5=>⟨σ,_,I1.write (x:=a) (e:=a) (h':=h') (t':=t2) (by rw[hE];exact m7) (.inl rfl) (λb u hb e=>a5 b u hb e) ⟨_,a1⟩ (Z2 ⟨o',_,a1,a2.trans z2,a3.trans z3,a4,?_,?_,?_⟩),q⟩
 .rw[oB];exact z5
 .rw[eV (by decide)];exact z6
 .rw[eV (by decide)];exact z7
end
open PySem PySem.Spec PyProof.Rows
abbrev Cx.as (X:Cx)(A':Around)(E:j_):Cx:={X with A:=A',calm:=false,xe:=E}
def Inv.Jp {σ:St}(I:Inv X aA σ H s)(hf:A'.frames=some X.stack)(E:j_):Inv (X.as A' E) aA σ H s:=
 ⟨⟨I.ok.mod,I.ok.kind,I.ok.glob,I.ok.blt,I.ok.above,I.ok.inj,I.ok.has,I.ok.cab,λh=>(nomatch h),hf,I.ok.stk,I.ok.exf,I.ok.bs,I.ok.QR,I.ok.Px,I.ok.OU,I.ok.yq,I.ok.Qy⟩,I.os,I.bare,I.rZ,I.loc,I.cell,I.free,I.pO,I.pin,I.fV,I.len⟩
def Inv.uI {σ:St}(I:Inv (X.as A' E) aA σ H s)(ok:X.Ok):Inv X aA σ H s:=
 ⟨ok,I.os,I.bare,I.rZ,I.loc,I.cell,I.free,I.pO,I.pin,I.fV,I.len⟩
structure xK (k:Nat)(A:Around):Prop where
 dp:A.depth+3*k+5<Uz
 un:A.units+16*k+200<L0
def lC.h {k:Nat}(r:lC k A):xK k A:=⟨r.dp,r.un⟩
def xK.make {k:Nat}(r:xK (k+1) A)(C:lQ)(us:gS)(kw:List (Str×kc)):xK k (A.under (.builtin "type.__call__" ⟨.ref C::us,kw⟩)):=
 ⟨by have:=r.dp;rw[ID];lia,by have:=r.un;rw[IE];lia⟩
def FnH (P:bJ)(w:cA)(K:au)(mg:sM)(rZ:Heap)(f:lQ)(fd:eN)(ps:mX)(sp:b_->Hp->VK->Prop):Prop:=
 ∀(A:Around) (outer:List Env) (s:aL) (H:Hp) (args:Args) (us:gS) (vs:b_) (Q:VK),xK 1 A->J5 P w K mg rZ A outer s H->LZ s fd args (ps.zip us)->Vals vs us->sp vs H Q->
  vq (bA P w) A (.call (.ref f) args) (CR jf outer P w H s Q E0) s
section
variable{P:bJ}{w:cA}{K:au}{mg:sM}{rZ:Heap}
def qE (A:Around)(h:Option kc):(A.mark h).frames=A.frames:=by first|rfl|simp[Around.mark]
def Fun.okH {x eU:Str}{st:Stmt}{f:lQ}{fd:eN}{N ps:mX}{sp:b_->Hp->VK->Prop}(F:Fun K x eU st f fd)(S:vJ N ps (dZ st))(QE:∀vs H Q,sp vs H Q->vs.length=ps.length)
  (yt:∀(sP:kc) (A:Around) (outer:List Env) (s:aL) (H:Hp) (vs:b_) (Q:VK),sp vs H Q->
   ∃t,J6 ((AY jf P w K mg rZ N eU (dZ st) f sP A outer s H E0).as (A.deeper (tI eU (dZ st) s.heap.objs.size f sP)) λ_ _=>False) (rQ st) t/\t {nx:=λ_ H'=>Q .gQ H',rt:=Q} (start N vs) H):
  FnH P w K mg rZ f fd ps sp:=by
 obtain⟨oc,od,kV,Tn,pm,an,sP,ct,YX,rfl,lk,Wz⟩:=F.ex;intro A outer s H args us vs Q hr e0 hb r JT;have hl:=QE _ _ _ JT;have KX:K.In s.heap:=e0.mod.uC.keeps λb o e=>(e0.bs b o e).1;have lim:s.heap.NoLimit:=e0.mod.nolimit.keeps λb o e=>(e0.bs b o e).1;have Yc:∀y∈ps.zip us,(dZ st).names.lookup y.1=some .local\/((dZ st).names.lookup y.1=some .cell/\((fm (s.heap.objs.size+1) (dZ st).names []).lookup y.1).isSome=true):=λ⟨n,v⟩ hy=>by
  rcases S.par n (zB hy).1 with q|q
  .exact .inl q
  .exact .inr ⟨q,xi _ _ _ (.inl q)⟩
 refine adj (by have:=hr.dp;lia) (KX _ _ lk) rfl S.co S.gen rfl (UR KX Wz) (hb _ _ _ _ ?_);refine UA S.kind Yc λenv he s1 x=>?_;subst he;refine⟨lim.keeps x.toInCall.keep,codeAny_func ?_⟩;obtain⟨t,ht,hq⟩:=yt sP A outer s H vs Q JT;have e1:J5 P w K mg rZ {A with handled:=none} outer s H:=⟨e0.frames,e0.mod,e0.bs,e0.QR,e0.yq,e0.Qy,e0.fV,e0.bare⟩;have I0:Inv (AY jf P w K mg rZ N eU (dZ st) f sP {A with handled:=none} outer s H E0) [] (start N vs) H s1:=Ls S rfl e1 hl r x;have I:=I0.Jp (A':=A.deeper (tI eU (dZ st) s.heap.objs.size f sP)) (Around.frames_deeper e0.frames) λ_ _=>False;refine dI (ht [] s1 (start N vs) H _ I hq) (λfl s' hs=>?_) λe s' hs=>hs.elim;have fin:∀{gz:St} {H':Hp} {v:V} {u:kc},Inv ((AY jf P w K mg rZ N eU (dZ st) f sP A outer s H E0).as (A.deeper (tI eU (dZ st) s.heap.objs.size f sP)) λ_ _=>False) [] gz H' s'->RelV v u->Q v H'->CE outer P w H s Q u s':=
  λ{gz H' v u} J rv q=>⟨v,H',J.os,J.bare,J.rZ,J.fV,rv,q⟩
 cases fl with
 |ret u=>
  obtain⟨v,gz,H',J,rv,q⟩:=hs;exact fin J rv q
 |next=>
  obtain⟨gz,H',J,q⟩:=hs;exact fin (v:=V.gQ) (u:=Value.none) J rfl q
 |brk=>
  obtain⟨_,_,_,q⟩:=hs;exact dU q
 |cont=>
  obtain⟨_,_,_,q⟩:=hs;exact dU q
end
def ZF (C:lQ)(ns:mX):b_->Hp->VK->Prop:=λvs H Q=>∃(e:lQ) (xs:b_),vs=.ref e::xs/\xs.length=ns.length/\H e=some (.ext (XE e C none))/\
 ∀(H':Hp) (dd:lQ) (fs:List (Str×V)),H' e=some (.ext (XE e C (some dd)))->H' dd=some (.ext (GB dd fs))->H dd=none->dd≠e->(∀(i:Nat) n x,ns[i]? =some n->xs[i]? =some x->fs.lookup n=some x)->(∀b o,H b=some o->b≠e->H' b=some o)->Q .gQ H'
structure XMk (K:au)(C N f:lQ):Prop where
 cls:tL K C N
 ini:fi K N "__init__"=some (some (.ref f))
 fn:xj K (.ref f)=true
def RW {K:au}{h:Heap}{N:lQ}{m:sM}{n:Str}{v:kc}(k:K.In h)(G:h.Ns N m)(e:fi K N n=some (some v)):m n=some v:=by
 obtain⟨o,es,ep,ho,hd,_,hf⟩:=G;unfold fi at e;split at e
 .rename_i q;have z:=k _ _ q;rw[ho] at z;cases z;cases hd;split at e
  .rename_i en he;cases e;rw[<-hf];unfold nsFind;unfold findBy;rw[<-WS,he];rfl
  .split at e<;>cases e
 .cases e
section
variable{prog:bJ}{w:cA}{A:Around}{E:j_}{h:Heap}{g:Array AF}{dr:aad}{t:Nat}{os:SQ}{C N fI:lQ}
 {nm q:Str} {bs bm:gS} {sn:mX} {sub:gS} {ab:Bool} {col:Option Bool} {dd:Option lQ} {k0 k1 k2 k3 k5:Option kc} {B newId yu:String} {mN:sM} {oI:Obj} {rest:gS}
abbrev pj (h:Heap)(C:lQ):Obj:={cls:=.ref C,data:=.fields #[.ref h.objs.size,.none,.none,.none,.bool false,.none]}
abbrev rF (rest:gS):Obj:={cls:=.type "tuple",data:=.seq rest.toArray}
def ade (F:BK B newId yu bm){Q:Fin->aL->Prop}(hC:h.get? C=some (fW nm q C N bs bm true sn sub ab col dd k0 k1 k2 k3 k5 newId))(hn:h.Ns N mN)(hi:mN "__init__"=some (.ref fI))(hfI:h.get? fI=some oI)(hfc:oI.cls=.type "function")(hz:rest.length<=bu)
  (hq:bw (bA prog w) A (call (.ref fI) (.ref (h.objs.size+1)::rest)) (λr s'=>r=.none/\Q (.done (.ret (.ref (h.objs.size+1)))) s') E ⟨(h.push (rF rest)).push (pj h C),g,dr,t,os⟩):
  bw (bA prog w) A (Builtin.«type.__call__» ⟨.ref C::rest,[]⟩) Q E ⟨h,g,dr,t,os⟩:=by
 repeat (first|with_reducible refine bU hC ?_ |with_reducible refine amk hC ?_ |wp_step)
 refine Wd (Code.quiet_builtin _ F.quiet) (ag2 F hC (ag1 F hC ?_ hz));have up:∀b ob,h.get? b=some ob->((h.push (rF rest)).push (pj h C)).get? b=some ob:=λb ob e=>Heap.get?_push_of_some _ (Heap.get?_push_of_some _ e);have gx:((h.push (rF rest)).push (pj h C)).get? (h.objs.size+1)=some (pj h C):=by
  have:=Heap.get?_push_size (h.push (rF rest)) (o:=pj h C) rfl
  rwa [Heap.size_push] at this
 have ni:(Value.ref C::bm).contains (.ref C)=true:=by simp
 show bw _ _ _ _ _ (⟨(h.push (rF rest)).push (pj h C),g,dr,t,os⟩:aL);unfold isInstance
 repeat (first|with_reducible refine bU gx ?_ |(with_reducible refine lE (up _ _ hC) ?_;rw[ni])|wp_step)
 show bw _ _ (kW (.ref C) _) _ _ _;refine iX (up _ _ hC) (hn.keeps up) F.mroIs F.init.lookup ?_;rw[hi];refine mV (aR ?_);unfold bindSpecial;refine aR (wpAny_typeOf (T:="function") ⟨_,up _ _ hfI,hfc⟩ ?_);rw[aj (by decide)];refine bV (aR (dI hq (λr s' hr=>?_) λ_ _ z=>z));obtain⟨rfl,hQ⟩:=hr
 wp_walk
 exact hQ
def adb (F:BK B newId yu bm)(hC:h.get? C=some (fW nm q C N bs bm true sn sub ab col dd k0 k1 k2 k3 k5 newId))(hn:h.Ns N mN)(hi:mN "__init__"=some (.ref fI))(hfI:h.get? fI=some oI)(hfc:oI.cls=.type "function")(hz:rest.length<=bu)
  (hq:bw (bA prog w) (A.under (.builtin "type.__call__" ⟨.ref C::rest,[]⟩)) (call (.ref fI) (.ref (h.objs.size+1)::rest)) (λr s'=>r=.none/\Q (.ref (h.objs.size+1)) s') E ⟨(h.push (rF rest)).push (pj h C),g,dr,t,os⟩):
  bw (bA prog w) A (call (.ref C) rest) Q E ⟨h,g,dr,t,os⟩:=by
 have f1:=tc_lookup;have f2:=tc_bind (.ref C);have f3:(⟨h,g,dr,t,os⟩:aL).TypeIs (.ref C) "type":=⟨_,hC,Z⟩;refine BO (codeAny_of_tree ?_);show bw _ _ (callAny (.ref C) _) _ _ _
 repeat (any_goals (first|assumption|with_reducible refine bU hC ?_ |wp_step))
 exact⟨Z,aag (Code.quiet_builtin _ (by decide+kernel)) entry_typeCall (We hC (ade F hC hn hi hfI hfc hz hq))⟩
end
section
variable{X:Cx}{aA:jw}{σ:St}{H:Hp}{s:aL}{C N f:lQ}{fd:eN}{ps:mX}{ns:mX}
def aeu {us:gS}{xs:b_}(M:XMk X.K C N f)(F:FnH X.prog X.w X.K X.mg X.rZ f fd ps (ZF C ns))(hr:xK 2 A)(hf:A.frames=some X.stack)(hb:Binds X.K fd ps [])(TK:ps.length=ns.length+1)
  (I:Inv X aA σ H s) (r:Vals xs us) (hl:xs.length=ns.length) (hz:us.length<=bu)
  (h:∀e dd fs H2 s',Inv X aA σ H2 s'->H2 e=none->s.heap.objs.size<=e->XE e C (some dd) s'.heap->H2 dd=some (.ext (GB dd fs))->H dd=none->(∀(i:Nat) n x,ns[i]? =some n->xs[i]? =some x->fs.lookup n=some x)->aC H H2->Q (.ref e) s'):
  bw (bA X.prog X.w) A (call (.ref C) us) Q E s:=by
 obtain⟨nm,qn,bs,sn,sub,ab,col,Wy,k0,k1,k2,k3,k5,e0⟩:=M.cls.ex;have uC:=I.zb;have hC:=uC _ _ e0;have hi:s.heap.nsMap N "__init__"=some (.ref f):=RW uC (M.cls.ns uC) M.ini;obtain⟨oI,lI,cI⟩:∃oI,X.K.lookup f=some oI/\oI.cls=.type "function":=by
  have z:=M.fn;unfold xj at z;have z:=beq_iff_eq.mp z;unfold abe at z;exact iZ.mp z
 obtain⟨hp,g,dr,t,os⟩:=s;have up:∀b ob,hp.get? b=some ob->((hp.push (rF us)).push (pj hp C)).get? b=some ob:=λb ob e=>Heap.get?_push_of_some _ (Heap.get?_push_of_some _ e);have gx:((hp.push (rF us)).push (pj hp C)).get? (hp.objs.size+1)=some (pj hp C):=by
  have:=Heap.get?_push_size (hp.push (rF us)) (o:=pj hp C) rfl
  rwa [Heap.size_push] at this
 have WK:XE (hp.objs.size+1) C none ((hp.push (rF us)).push (pj hp C)):=⟨_,_,gx,Z,Z,Z,Z,Z,Z⟩;have I1:Inv X aA σ (upd H (hp.objs.size+1) (.ext (XE (hp.objs.size+1) C none))) ⟨(hp.push (rF us)).push (pj hp C),g,dr,t,os⟩:=
  I.laid (a:=hp.objs.size+1) (t':=t) up (jo _) (Z2 WK)
 have fr:H (hp.objs.size+1)=none:=I.fV.fresh (jo _);refine adb m6 hC (M.cls.ns uC) hi (uC _ _ lI) cI hz ?_;have r2:Vals (V.ref (hp.objs.size+1)::xs) (Value.ref (hp.objs.size+1)::us):=.cons rfl r;have RH:(Value.ref (hp.objs.size+1)::us++[]).length=ps.length:=by rw[fX,aZ,<-r.length,hl,TK]
 have e1:J5 X.prog X.w X.K X.mg X.rZ A X.stack ⟨(hp.push (rF us)).push (pj hp C),g,dr,t,os⟩ (upd H (hp.objs.size+1) (.ext (XE (hp.objs.size+1) C none))):=
  ⟨hf,I1.ju.mod,I1.ju.bs,I1.ju.QR,I1.ju.yq,I1.ju.Qy,I1.ju.fV,I1.ju.bare⟩
 refine BO (BM (F _ X.stack _ _ ⟨Value.ref (hp.objs.size+1)::us,[]⟩ (Value.ref (hp.objs.size+1)::us++[]) (V.ref (hp.objs.size+1)::xs) (λv H'=>v=.gQ/\∃dd fs,H' (hp.objs.size+1)=some (.ext (XE (hp.objs.size+1) C (some dd)))/\H' dd=some (.ext (GB dd fs))/\H dd=none/\dd≠hp.objs.size+1/\(∀(i:Nat) n x,ns[i]? =some n->xs[i]? =some x->fs.lookup n=some x)/\∀b o,H b=some o->H' b=some o)
  (hr.make C us []) (e1.make C us []) (hb _ _ I1.zb RH) (by rw[fX];exact r2) ⟨_,xs,Z,hl,aq,λH' dd fs a1 a2 a3 a4 a5 a6=>⟨Z,dd,fs,a1,a2,?_,a4,a5,λb o e=>?_⟩⟩) λrr s' hq=>?_)
 .rw[aF a4] at a3;exact a3
 .have hbe:b≠hp.objs.size+1:=aI e fr;exact a6 b o (by rw[aF hbe];exact e) hbe
 .cases rr with
  |error e=>exact dU hq
  |ok fl=>
   cases fl with
   |ret u=>
    obtain⟨v,H',I3,rv,ev,dd,fs,a1,a2,a3,a4,a5,a6⟩:=I1.after hq;subst ev;refine⟨rv,h _ dd fs (del H' (hp.objs.size+1)) s' (I3.forget a1 ?_) OP (jo _) (vV I3.fV a1) (by rw[vT a4];exact a2) a3 a5 λb o e=>?_⟩
    .exact bt I.sz (jo _)
    .rw[vT (aI e fr)];exact a6 b o e
   |next=>exact dU hq
   |brk=>exact dU hq
   |cont=>exact dU hq
end
open PySem PySem.Spec PyProof.Rows
def Kn:entryFor table "proto.unchain"=some Builtin.«proto.unchain»:=entryFor_of_tree (by kernel_rfl)
inductive Rx (E:j_)(C:lQ)(oC:Obj)(v:kc)(s:aL):Prop|i e oe vs(_:v=.ref e)(_:s.heap.get? C=some oC)(_:s.heap.get? e=some oe)(_:oe.cls=.ref C)(_:oe.data=.fields vs)(_:vs[1]? =some .none)(_:E (.ref e) s)
inductive Rh (E:j_)(a C:lQ)(oC:Obj)(v:kc)(s:aL):Prop|i e oe vs oa va(_:v=.ref e)(_:s.heap.get? C=some oC)(_:s.heap.get? e=some oe)(_:oe.cls=.ref C)(_:oe.data=.fields vs)(_:vs.size=6)(_:vs[1]? =some .none)
  (_:e≠a) (_:e≠C) (_:s.heap.get? a=some oa) (_:oa.data=.fields va) (_:va[2]? =some .none)
  (_:∀h' o' NM,(∀b,b≠e->h'.get? b=s.heap.get? b)->h'.get? e=some o'->o'.cls=oe.cls->o'.dict=oe.dict->o'.data=.fields NM->NM.size=6->NM[1]? =some .none->E (.ref e) {s with heap:=h'})
section
variable{prog:bJ}{w:cA}{A:Around}{E:j_}{s:aL}{env:Env}{C N:lQ}
 {nm q:Str} {bs bm:gS} {sn:mX} {sub:gS} {ab:Bool} {col:Option Bool} {dd:Option lQ} {k0 k1 k2 k3 k5:Option kc} {newId:String}
def Sd {α:Type}{Q:α->aL->Prop}{e:lQ}{oa:Obj}{vs va:Array kc}(hh:A.handled=some (.ref a))(T7:e≠a)(he:s.heap.get? e=some oe)(hd:oe.data=.fields vs)(hsz:2<vs.size)(ha:s.heap.get? a=some oa)(hda:oa.data=.fields va)(Bc:va[2]? =some .none)
  (hE:E (.ref e) {s with heap:=s.heap.update e (Obj.mapFields (·.setIfInBounds 2 (.ref a)))}):bw (bA prog w) A (raiseNew (.ref e):Sem α) Q E s:=by
 unfold raiseNew;refine aR (wpAny_handled ?_);rw[hh];dsimp only;rw[aj (show(Value.ref a !=Value.ref e)=true by simpa usingλz=>T7 z.symm)];refine aR (mV (wpAny_runValue (codeAny_builtin Kn ?_)));unfold Builtin.«proto.unchain»;refine aR (mq ha hda Bc ?_);rw[aj (by decide)]
 wp_walk
 rw[hd];dsimp only;rw[aj hsz];exact WR he (wpAny_throw hE)
def Ug {x:Sem kc}{Q:Flow->aL->Prop}(hb:bm.contains (.type "BaseException")=true)(hh:A.handled=none)
  (h:bw (bA prog w) A x (Rx E C (fW nm q C N bs bm true sn sub ab col dd k0 k1 k2 k3 k5 newId)) E s):
  bw (bA prog w) A (aah env (some x) none) Q E s:=by
 have hcB:(Value.ref C::bm).contains (.type "BaseException")=true:=by rw[Es,hb,Gy]
 unfold aah;refine aR (dI h ?_ λ_ _ z=>z);rintro _ ip ⟨e,oe,vs,rfl,hC,he,hc,hd,h1,hE⟩;obtain⟨hp,g,dr,tk,os⟩:=ip;have f1:(⟨hp,g,dr,tk,os⟩:aL).TypeIs (.ref C) "type":=⟨_,hC,Z⟩;unfold Gw
 repeat (first|(with_reducible refine bU he ?_;rw[hc])|with_reducible refine bU hC ?_ |(with_reducible refine lE hC ?_;rw[hcB])|with_reducible refine mq he hd h1 ?_ |wp_step)
 exact wpAny_raiseNew_none hh hE
def Ue {x c:Sem kc}{Q:Flow->aL->Prop}(hb:bm.contains (.type "BaseException")=true)(hh:A.handled=some (.ref a))(hc0:∀(Q:j_) s,Q .none s->bw (bA prog w) A c Q E s)
  (h:bw (bA prog w) A x (Rh E a C (fW nm q C N bs bm true sn sub ab col dd k0 k1 k2 k3 k5 newId)) E s):
  bw (bA prog w) A (aah env (some x) (some c)) Q E s:=by
 have hcB:(Value.ref C::bm).contains (.type "BaseException")=true:=by rw[Es,hb,Gy]
 unfold aah;refine aR (dI h ?_ λ_ _ z=>z);rintro _ ip ⟨e,oe,vs,oa,va,rfl,hC,he,hc,hd,hsz,h1,T7,VB,ha,hda,Bc,hE⟩;obtain⟨hp,g,dr,tk,os⟩:=ip;obtain⟨k1,o1,j1,c1,d1,e1⟩:=wz he hd 3 Value.none;obtain⟨k2,o2,j2,c2,d2,e2⟩:=wz j1 e1 4 (Value.bool true);obtain⟨k3',o3,j3,c3,d3,e3⟩:=wz j2 e2 2 (Value.ref a);refine aR (mV (hc0 _ _ (aR (bV ?_))));dsimp only;refine aR (mV ?_);unfold excFromValue
 repeat (first|(with_reducible refine bU he ?_;rw[hc])|with_reducible refine bU hC ?_ |(with_reducible refine lE hC ?_;rw[hcB])|wp_step)
 rw[hd];dsimp only;rw[aj (by lia)];refine WR he (aR (xc j1 e1 (by rw[oB];lia) ?_));have hC2:=((k2 C (eP VB)).trans (k1 C (eP VB))).trans hC;have aiT:=((k2 a (eP T7)).trans (k1 a (eP T7))).trans ha;have hc2:o2.cls=.ref C:=(c2.trans c1).trans hc;have g1:((vs.setIfInBounds 3 Value.none).setIfInBounds 4 (Value.bool true))[1]? =some .none:=by
  rw[eV (by decide),eV (by decide)];exact h1
 generalize(hp.update e (Obj.mapFields λx=>x.setIfInBounds 3 Value.none)).update e (Obj.mapFields λx=>x.setIfInBounds 4 (Value.bool true))=hq at hC2 aiT j2 j3 k3' k2|-
 have f1:(⟨hq,g,dr,tk,os⟩:aL).TypeIs (.ref C) "type":=⟨_,hC2,Z⟩;unfold Gw
 repeat (first|(with_reducible refine bU j2 ?_;rw[hc2])|with_reducible refine bU hC2 ?_ |with_reducible refine mq j2 e2 g1 ?_ |wp_step)
 refine Sd hh T7 j2 e2 (by rw[oB,oB];lia) aiT hda Bc ?_;refine hE _ o3 _ (λb hb=>((k3' b hb).trans (k2 b hb)).trans (k1 b hb)) j3 ((c3.trans c2).trans c1) ((d3.trans d2).trans d1) e3 (by simp[hsz]) ?_;rw[eV (by decide)];exact g1
end
section
variable{prog:bJ}{w:cA}{A:Around}{E:j_}{h:Heap}{g:Array AF}{dr:aad}{t:Nat}{os:SQ}{C N:lQ}
 {nm q:Str} {bs bm:gS} {sn:mX} {sub:gS} {ab:Bool} {col:Option Bool} {dd:Option lQ} {k0 k1 k2 k3 k5:Option kc} {B newId yu:String} {mN:sM}
def Z5 (F:BK B newId yu bm){Q:Fin->aL->Prop}(hC:h.get? C=some (fW nm q C N bs bm true sn sub ab col dd k0 k1 k2 k3 k5 newId))(hn:h.Ns N mN)(hi:mN "__init__"=none)
  (hq:∀h' o' vs,h'.get? (h.objs.size+1)=some o'->o'.cls=.ref C->o'.dict=none->o'.data=.fields vs->vs.size=6->vs[1]? =some .none->vs[2]? =some .none->(∀b ob,h.get? b=some ob->h'.get? b=some ob)->Q (.done (.ret (.ref (h.objs.size+1)))) ⟨h',g,dr,t,os⟩):
  bw (bA prog w) A (Builtin.«type.__call__» ⟨[.ref C],[]⟩) Q E ⟨h,g,dr,t,os⟩:=by
 repeat (first|with_reducible refine bU hC ?_ |with_reducible refine amk hC ?_ |wp_step)
 refine Wd (Code.quiet_builtin _ F.quiet) (ag2 F hC (ag1 F hC ?_ (eT _)));have up:∀b ob,h.get? b=some ob->((h.push (rF [])).push (pj h C)).get? b=some ob:=λb ob e=>Heap.get?_push_of_some _ (Heap.get?_push_of_some _ e);have gx:((h.push (rF [])).push (pj h C)).get? (h.objs.size+1)=some (pj h C):=by
  have:=Heap.get?_push_size (h.push (rF [])) (o:=pj h C) rfl
  rwa [Heap.size_push] at this
 have ni:(Value.ref C::bm).contains (.ref C)=true:=by simp
 show bw _ _ _ _ _ (⟨(h.push (rF [])).push (pj h C),g,dr,t,os⟩:aL);unfold isInstance
 repeat (first|with_reducible refine bU gx ?_ |(with_reducible refine lE (up _ _ hC) ?_;rw[ni])|wp_step)
 show bw _ _ (kW (.ref C) _) _ _ _;refine iX (up _ _ hC) (hn.keeps up) F.mroIs F.init.lookup ?_;rw[hi];refine mV (aR (wpAny_of_eq (F.init.bind _) (aR (JH F (up _ _ hC) gx rfl rfl rfl λh' o' z a1 a2 a3 a4 a5=>?_))));have fin:=hq h' o' _ a1 a2 a3 a4 rfl rfl rfl λb ob e=>a5 b ob (λz=>b8 _ (bc (Heap.lt_size e) (z ▸ jo _))) (up b ob e)
 wp_walk
 exact fin
def Qu (F:BK B newId yu bm)(hC:h.get? C=some (fW nm q C N bs bm true sn sub ab col dd k0 k1 k2 k3 k5 newId))(hn:h.Ns N mN)(hi:mN "__init__"=none)
  (hq:∀h' o' vs,h'.get? (h.objs.size+1)=some o'->o'.cls=.ref C->o'.dict=none->o'.data=.fields vs->vs.size=6->vs[1]? =some .none->vs[2]? =some .none->(∀b ob,h.get? b=some ob->h'.get? b=some ob)->Q (.ref (h.objs.size+1)) ⟨h',g,dr,t,os⟩):
  bw (bA prog w) A (call (.ref C) []) Q E ⟨h,g,dr,t,os⟩:=by
 have f1:=tc_lookup;have f2:=tc_bind (.ref C);have f3:(⟨h,g,dr,t,os⟩:aL).TypeIs (.ref C) "type":=⟨_,hC,Z⟩;refine BO (codeAny_of_tree ?_);show bw _ _ (callAny (.ref C) _) _ _ _
 repeat (any_goals (first|assumption|with_reducible refine bU hC ?_ |wp_step))
 exact⟨Z,aag (Code.quiet_builtin _ (by decide+kernel)) entry_typeCall (We hC (Z5 F hC hn hi λh' o' vs a1 a2 a3 a4 a5 a6 a7 a8=>hq h' o' vs a1 a2 a3 a4 a5 a6 a7 a8))⟩
end
open PySem PySem.Spec PyProof.Rows
def u5:bmE.contains (.type "BaseException")=true:=PySem.F.excBase_Exception.hasBase
def Given (ns:mX)(xs:b_)(fs:List (Str×V)):Prop:=∀(i:Nat) n x,ns[i]? =some n->xs[i]? =some x->fs.lookup n=some x
def ac3 (C:lQ)(ns:mX)(Ex:XK)(t:TA):TS:=λ_ σ H=>t σ H λxs H1=>xs.length=ns.length/\∀dd fs H2,H2 dd=some (.ext (GB dd fs))->Given ns xs fs->aC H1 H2->Ex (.ref C) (some dd) H2
def ac2 (C:lQ)(Ex:XK):TS:=λ_ σ H=>∀H2,aC H H2->Ex (.ref C) none H2
section
variable{X:Cx}{Mf C N f:lQ}{fd:eN}{ps:mX}{ns:mX}{Ex:XK}{x:Str}{np lj cJ:Pos}{e:Expr}{es:Fw}{t:TA}
def Ts {aA:jw}{σ:St}{ea:lQ}(hn:H ea=none)(hl:lo<=ea)(h:XE ea C d s.heap):Ft Mf H lo s.heap ea (.ref C) d false:=by
 obtain⟨oe,vs,z1,z2,z3,z4,z5,z6,z7⟩:=h;exact⟨hn,hl,oe,vs,z1,z2,z3,z4,z5,λ_=>z7,.inl ⟨Z,z6⟩⟩
def jy (hX:Raises X Mf Ex)(hc:X.calm=true)(M:XMk X.K C N f)(F:FnH X.prog X.w X.K X.mg X.rZ f fd ps (ZF C ns))(hr:xK 2 X.A)(hb:Binds X.K fd ps [])(TK:ps.length=ns.length+1)(hg:Gl X x)(hm:X.mg x=some (.ref C))
  (ha:PA X (e::es) t) (hsm:ns.length<=1000) (DZ:autoParam (Dy x) Z_d) (he:autoParam (Sm X e es) Z_r) (ot:autoParam ((m9 lj (dv es X.env)).any (·.1)=false) Z_r):
  PS X (.Raise (some (.Call (.Name x np) (e::es) [] lj)) none cJ) (ac3 C ns Ex t):=by
 intro aA s σ H D I h;obtain⟨nm,qn,bs,sn,sub,ab,col,Wy,k0,k1,k2,k3,k5,e0⟩:=M.cls.ex;rw[Fp];refine aR (fG (Ug u5 (I.ok.hd hc) (C:=C) (N:=N) (nm:=nm) (q:=qn) (bs:=bs) (sn:=sn) (sub:=sub) (ab:=ab) (col:=col) (dd:=Wy) (k0:=k0) (k1:=k1) (k2:=k2) (k3:=k3) (k5:=k5) (newId:="Exception.__new__") ?_));refine aR (fC (rT I hg hm ?_ DZ));refine lg (h₀:=X.rZ) I.ok.mod.uC M.cls.kp (jc (ha lj aA s σ H _ I h) λus s1 ⟨xs,H1,I1,r,hl,q⟩=>⟨I1.zb,?_⟩) he ot;refine aeu M F hr I1.ok.frames hb TK I1 r hl (by show us.length<=bu;rw[<-r.length,hl,aE];lia) λea dd fs H2 s' I2 a1 a2 a3 a4 a5 a6 a7=>?_;refine aR (fG (bV ?_));have hE:=hX aA σ H2 s' s1.heap.objs.size ea (.ref C) (some dd) false I2 (λp hp=>Heap.lt_size (I1.pin p hp).1) I1.sz (Ts (aA:=aA) (σ:=σ) a1 a2 a3) (q dd fs H2 a4 a6 a7);obtain⟨oe,vs,z1,z2,z3,z4,z5,z6,z7⟩:=a3;exact⟨ea,oe,vs,Z,I2.zb _ _ e0,z1,z2,z4,z6,hE⟩
def vi (hX:Raises X Mf Ex)(hc:X.calm=true)(c:tL X.K C N)(hni:fi X.K N "__init__"=some none)(hg:Gl X x)(hm:X.mg x=some (.ref C))(DZ:autoParam (Dy x) Z_d):
  PS X (.Raise (some (.Call (.Name x np) [] [] lj)) none cJ) (ac2 C Ex):=by
 intro aA s σ H D I h;obtain⟨nm,qn,bs,sn,sub,ab,col,Wy,k0,k1,k2,k3,k5,e0⟩:=c.ex;rw[Fp];refine aR (fG (Ug u5 (I.ok.hd hc) (C:=C) (N:=N) (nm:=nm) (q:=qn) (bs:=bs) (sn:=sn) (sub:=sub) (ab:=ab) (col:=col) (dd:=Wy) (k0:=k0) (k1:=k1) (k2:=k2) (k3:=k3) (k5:=k5) (newId:="Exception.__new__") ?_));refine aR (fC (rT I hg hm ?_ DZ));refine rY I.zb c.kp ?_;have uC:=I.zb;obtain⟨hp,g,dr,tk,os⟩:=s;refine Qu m6 (uC _ _ e0) (c.ns uC) (c.no uC hni) λh' o' vs a1 a2 a3 a4 a5 a6 a7 a8=>?_;refine aR (fG (bV ?_));have I2:=I.kept (h':=h') (t':=tk) a8;exact⟨_,o',vs,Z,I2.zb _ _ e0,a1,a2,a4,a6,hX aA σ H _ hp.objs.size _ (.ref C) none false I2 (λp hp=>Heap.lt_size (I.pin p hp).1) I.sz
  (Ts (aA:=aA) (σ:=σ) (I.fV.fresh (jo _)) (jo _) ⟨o',vs,a1,a2,a3,a4,a5,a6,a7⟩) (h H λ_ _ z=>z)⟩
def XH (Mf a C:lQ)(d:Option lQ):Heap->Prop:=λh=>∃oe vs,h.get? a=some oe/\oe.cls=.ref C/\oe.dict=d/\oe.data=.fields vs/\(C=Mf->vs[2]? =some .none)
def akP {P:bJ}{w:cA}{h:Heap}(x:XH Mf a C d h):jq P w H h a (.ext (XH Mf a C d)):=by
 obtain⟨oe,vs,z,r⟩:=id x;exact⟨x,⟨oe,z⟩,λh1 h2 ⟨o1,v1,q,r1⟩ k=>⟨o1,v1,k _ q,r1⟩⟩
def ZT (Mf C:lQ)(ns:mX)(Ex:XK)(a:lQ)(t:TA):TS:=λ_ σ H=>t σ H λxs H1=>(∃d,H1 a=some (.ext (XH Mf a Mf d)))/\xs.length=ns.length/\∀dd fs H2,H2 dd=some (.ext (GB dd fs))->Given ns xs fs->aC H1 H2->Ex (.ref C) (some dd) H2
def ZS (Mf C:lQ)(Ex:XK)(a:lQ):TS:=λ_ σ H=>(∃d,H a=some (.ext (XH Mf a Mf d)))/\∀H2,aC H H2->Ex (.ref C) none H2
def Ib {ea:lQ}{o':Obj}{NM:Array kc}(hn:H ea=none)(hl:lo<=ea)(GI:C≠Mf)(e1:h'.get? ea=some o')(e2:o'.cls=.ref C)(e3:o'.dict=d)(e4:o'.data=.fields NM)(e5:NM.size=6)(e6:NM[1]? =some .none):
  Ft Mf H lo h' ea (.ref C) d false:=⟨hn,hl,o',NM,e1,e2,e3,e4,e5,λz=>absurd (Value.ref.inj z) GI,.inl ⟨Z,e6⟩⟩
def Ph {σ:St}{ea:lQ}{vs:Array kc}(I:Inv X aA σ H s)(hp:∀p∈X.pn++aA,p.1≠ea)(lu:X.s_0.heap.objs.size<=ea)(hn:H ea=none)(e1:s.heap.get? ea=some oe)(e2:oe.data=.fields vs)
  (k:∀b,b≠ea->h'.get? b=s.heap.get? b):Inv X aA σ H {s with heap:=h'}:=by
 obtain⟨n1,n2⟩:=I.Zc e1 e2;exact I.turned (t':=s.toks) (λb o hb q=>(k b hb).trans q) hn n1 (.inr lu) n2 hp
def R9 {a:lQ}{kj kp':_}(hX:Raises X Mf Ex)(hh:X.A.handled=some (.ref a))(GI:C≠Mf)(M:XMk X.K C N f)(F:FnH X.prog X.w X.K X.mg X.rZ f fd ps (ZF C ns))(hr:xK 2 X.A)(hb:Binds X.K fd ps [])(TK:ps.length=ns.length+1)(hg:Gl X x)(hm:X.mg x=some (.ref C))
  (ha:PA X (e::es) t) (hsm:ns.length<=1000) (DZ:autoParam (Dy x) Z_d) (he:autoParam (Sm X e es) Z_r) (ot:autoParam ((m9 lj (dv es X.env)).any (·.1)=false) Z_r):
  PS X (.Raise (some (.Call (.Name x np) (e::es) [] lj)) (some (.Constant .none kj kp')) cJ) (ZT Mf C ns Ex a t):=by
 intro aA s σ H D I h;obtain⟨nm,qn,bs,sn,sub,ab,col,Wy,k0,k1,k2,k3,k5,e0⟩:=M.cls.ex;rw[Fp];refine aR (fG (Ue (a:=a) u5 hh (C:=C) (N:=N) (nm:=nm) (q:=qn) (bs:=bs) (sn:=sn) (sub:=sub) (ab:=ab) (col:=col) (dd:=Wy) (k0:=k0) (k1:=k1) (k2:=k2) (k3:=k3) (k5:=k5) (newId:="Exception.__new__") (λQ s hQ=>aR (JJ (aR (fG (bV hQ))))) ?_));refine aR (fC (rT I hg hm ?_ DZ));refine lg (h₀:=X.rZ) I.ok.mod.uC M.cls.kp (jc (ha lj aA s σ H _ I h) λus s1 ⟨xs,H1,I1,r,⟨dm,hm1⟩,hl,q⟩=>⟨I1.zb,?_⟩) he ot;refine aeu M F hr I1.ok.frames hb TK I1 r hl (by show us.length<=bu;rw[<-r.length,hl,aE];lia) λea dd fs H2 s' I2 a1 a2 a3 a4 a5 a6 a7=>?_;refine aR (fG (bV ?_));obtain⟨oa,va,y1,y2,y3,y4,y5⟩:=vV I2.fV (a7 _ _ hm1);obtain⟨oe,vs,z1,z2,z3,z4,z5,z6,z7⟩:=a3;have T7:ea≠a:=λz=>by rw[z,a7 _ _ hm1] at a1;cases a1
 have VB:ea≠C:=λz=>by rw[z,I2.zb _ _ e0] at z1;cases z1;cases z4
 have pn:∀p∈X.pn++aA,p.1<s1.heap.objs.size:=λp hp=>Heap.lt_size (I1.pin p hp).1;refine⟨ea,oe,vs,oa,va,Z,I2.zb _ _ e0,z1,z2,z4,z5,z6,T7,VB,y1,y4,y5 rfl,λh' o' NM b1 b2 b3 b4 b5 b6 b7=>?_⟩;have I3:=Ph I2 (λp hp=>cG (bc (pn p hp) a2)) (bt I1.sz a2) a1 z1 z4 b1;exact hX aA σ H2 _ s1.heap.objs.size ea (.ref C) (some dd) false I3 pn I1.sz (Ib a1 a2 GI b2 (b3.trans z2) (b4.trans z3) b5 b6 b7) (q dd fs H2 a4 a6 a7)
def R8 {a:lQ}{kj kp':_}(hX:Raises X Mf Ex)(hh:X.A.handled=some (.ref a))(GI:C≠Mf)(c:tL X.K C N)(hni:fi X.K N "__init__"=some none)(hg:Gl X x)(hm:X.mg x=some (.ref C))(DZ:autoParam (Dy x) Z_d):
  PS X (.Raise (some (.Call (.Name x np) [] [] lj)) (some (.Constant .none kj kp')) cJ) (ZS Mf C Ex a):=by
 intro aA s σ H D I h;obtain⟨⟨dm,hm1⟩,h⟩:=h;obtain⟨nm,qn,bs,sn,sub,ab,col,Wy,k0,k1,k2,k3,k5,e0⟩:=c.ex;rw[Fp];refine aR (fG (Ue (a:=a) u5 hh (C:=C) (N:=N) (nm:=nm) (q:=qn) (bs:=bs) (sn:=sn) (sub:=sub) (ab:=ab) (col:=col) (dd:=Wy) (k0:=k0) (k1:=k1) (k2:=k2) (k3:=k3) (k5:=k5) (newId:="Exception.__new__") (λQ s hQ=>aR (JJ (aR (fG (bV hQ))))) ?_));refine aR (fC (rT I hg hm ?_ DZ));refine rY I.zb c.kp ?_;have uC:=I.zb;obtain⟨hp,g,dr,tk,os⟩:=s;refine Qu m6 (uC _ _ e0) (c.ns uC) (c.no uC hni) λh' o' vs a1 a2 a3 a4 a5 a6 a7 a8=>?_;refine aR (fG (bV ?_));have I2:=I.kept (h':=h') (t':=tk) a8;have fr:H (hp.objs.size+1)=none:=I.fV.fresh (jo _);obtain⟨oa,va,y1,y2,y3,y4,y5⟩:=vV I2.fV hm1;have T7:hp.objs.size+1≠a:=λz=>by rw[z,hm1] at fr;cases fr
 have VB:hp.objs.size+1≠C:=λz=>by rw[z,I2.zb _ _ e0] at a1;cases a1;cases a4
 have pn:∀p∈X.pn++aA,p.1<hp.objs.size:=λp hp=>Heap.lt_size (I.pin p hp).1;refine⟨_,o',vs,oa,va,Z,I2.zb _ _ e0,a1,a2,a4,a5,a6,T7,VB,y1,y4,y5 rfl,λh2 o2 vs2 b1 b2 b3 b4 b5 b6 b7=>?_⟩;have I3:=Ph I2 (λp hp=>cG (bc (pn p hp) (jo _))) (bt I.sz (jo _)) fr a1 a4 b1;exact hX aA σ H _ hp.objs.size _ (.ref C) none false I3 pn I.sz (Ib fr (jo _) GI b2 (b3.trans a2) (b4.trans a3) b5 b6 b7) (h H λ_ _ z=>z)
inductive XFp (K:au)(Mf:lQ)(f:Str)(Q:VK)(x:V)(H1:Hp):Prop|i a C N dd fs v(_:x=.ref a)(_:tL K C N)(_:Oh K N f)(_:H1 a=some (.ext (XH Mf a C (some dd))))(_:H1 dd=some (.ext (GB dd fs)))(_:fs.lookup f=some v)(_:Q v H1)
def akL (K:au)(Mf:lQ)(ta:TE)(f:Str):TE:=λσ H Q=>ta σ H (XFp K Mf f Q)
def Nm {e:Expr}{f:Str}{ta:TE}(he:PE X e ta)(hb:mT e f X.env (eval e X.env)=eval e X.env):PE X (.Attribute e f cJ) (akL X.K Mf ta f):=by
 intro aA s σ H Q I h;refine Tc hb (jc (he aA s σ H _ I h) ?_);rintro u s1 ⟨x,H1,I1,rx,a,C,N,dd,fs,v,rfl,c,n,h1,h2,l,q⟩;obtain rfl:u=Value.ref a:=rx;obtain⟨nm,qn,bs,sn,sub,ab,col,Wy,k0,k1,k2,k3,k5,e0⟩:=c.ex;have uC:=I1.zb;obtain⟨oe,vs,z1,z2,z3,z4,z5⟩:=vV I1.fV h1;obtain⟨mA,m1,m2,m3⟩:=vV I1.fV h2;obtain⟨u,hu,ru⟩:=ur.some_of (v:=v) (o:=mA f) (by rw[<-l];exact m2 f);obtain⟨hp,g,dr,tk,os⟩:=s1;exact ada PySem.F.attrBase_Exception (uC _ _ e0) (c.ns uC) (c.no uC c.ga) (c.no uC c.gh) (c.no uC n.own) n.rZ z1 z2 z4 z3 m1 hu (PySem.W.handedOut_of (Ln ru)) ⟨v,H1,I1.tok _,ru,q⟩
end
open PySem PySem.Spec PyProof.Rows
section
variable{M:Model}{A:Around}{E:j_}{h:Heap}{g:Array AF}{dr:aad}{t:Nat}{os:SQ}{C N C' N':lQ}
 {nm q nm' q':Str} {bs bm bs' bm':gS} {sn sn':mX} {sub akC:gS} {ab ab':Bool} {col ais:Option Bool} {dd dd':Option lQ} {k0 k1 k2 k3 k5 k0' k1' k2' k3' k5':Option kc} {newId afZ:String}
def LB {e:lQ}{Q:Bool->aL->Prop}{b:Bool}(hC:h.get? C=some (fW nm q C N bs bm true sn sub ab col dd k0 k1 k2 k3 k5 newId))(hC':h.get? C'=some (fW nm' q' C' N' bs' bm' true sn' akC ab' ais dd' k0' k1' k2' k3' k5' afZ))
  (he:h.get? e=some oe) (afn:oe.cls=.ref C) (hb:bm'.contains (.type "BaseException")=true) (hbc:(Value.ref C::bm).contains (.ref C')=b) (hq:Q b ⟨h,g,dr,t,os⟩):bw M A (excMatches (.ref e) (.ref C')) Q E ⟨h,g,dr,t,os⟩:=by
 have hcB:(Value.ref C'::bm').contains (.type "BaseException")=true:=by rw[Es,hb,Gy]
 have f:=tc_notTuple;have f1:(⟨h,g,dr,t,os⟩:aL).TypeIs (.ref C') "type":=⟨_,hC',Z⟩;unfold excMatches
 repeat (first|(with_reducible refine bU he ?_;rw[afn])|with_reducible refine bU hC' ?_ |(with_reducible refine lE hC' ?_;rw[hcB])|(with_reducible refine lE hC ?_;rw[hbc])|wp_step)
 cases b<;>(wp_walk;exact hq)
end
def o8 (X:Cx):St:=aM X.N.length none
def IM {i:Nat}{v:V}(h:(o8 X)[i]? =some (some v)):False:=by
 unfold o8 at h;rw[pG] at h;split at h<;>cases h
section
variable{X:Cx}{aA:jw}{σ:St}{H:Hp}{s:aL}
def Inv.aer (I:Inv X aA σ H s):Inv X aA (o8 X) H s:=I.weak (by unfold o8;rw[ib,I.len]) λi v e=>(IM e).elim
def Inv.renamed {m':sM}{t':Nat}(I:Inv X aA σ H s)(hn:h'.Ns X.env.locals m')(sb:Heap.SameBut X.env.locals s.heap h'):Inv X aA (o8 X) H {s with heap:=h',toks:=t'}:=by
 obtain⟨m0,⟨oL,esL,epL,hoL,hdL,_⟩,_⟩:=id I.loc;have low:∀b o,X.s_0.heap.get? b=some o->b≠X.env.locals:=λb o e=>cG (bc (Heap.lt_size e) I.ok.above);refine⟨I.ok,I.os,I.bare,⟨λb o e n hb hx=>(sb.2 b (low b o e)).trans (I.rZ.keep b o e n hb hx),λb o e n hb hx=>?_,I.rZ.free,λb o e hx=>?_,I.rZ.tups,I.rZ.frzs,I.rZ.tbls⟩,⟨m',hn,λi x v _ e _=>(IM e).elim⟩,λx c e=>?_,I.free,I.pO,λp hp=>?_,λb u e=>?_,by unfold o8;rw[ib]⟩
 .obtain⟨sl,z⟩:=I.rZ.slot b o e n hb hx;exact⟨sl,(sb.2 b (low b o e)).trans z⟩
 .obtain⟨o',z⟩:=I.rZ.there b o e hx;exact⟨o',(sb.2 b (low b o e)).trans z⟩
 .obtain⟨v,z⟩:=I.cell x c e;exact⟨v,z.sameBut sb (I.cne x c e)⟩
 .obtain⟨e,n,ne,r⟩:=I.pin p hp;exact⟨(sb.2 p.1 ne).trans e,n,ne,r⟩
 .refine(I.fV b u e).zZ (λc v hc q=>(sb.2 c λz=>?_).trans q) (λ_ q=>q) λ_ _ q=>q;rcases hc with y|y
  .rw[<-y,z,I.free] at e;cases e
  .rw[z,I.free] at y;cases y
def Cv {M:Model}{n:Str}{Q:Unit->aL->Prop}(I:Inv X aA σ H s)(hl:X.env.scope.names.lookup n=some .local)
  (h:∀s',Inv X aA (o8 X) H s'->s'.heap.objs.size=s.heap.objs.size->Heap.SameBut X.env.locals s.heap s'.heap->Q () s'):bw M A (do aew X.env n .none;t_ X.env n cJ) Q E s:=by
 obtain⟨m,hn,_⟩:=I.loc;refine wpAny_nameGoes (m:=m) hl hn (by rw[I.ok.kind];rfl) λh' m' hn' sb=>?_;exact h _ (I.renamed (t':=s.toks+1) hn' sb) sb.1 sb
def Ft.same {h:Heap}{e L:lQ}{C:kc}{wt:Bool}{oL:Obj}(F:Ft Mf H lo h e C d wt)(sb:Heap.SameBut L h h')(hL:h.get? L=some oL)(dL:∀vs,oL.data≠.fields vs):Ft Mf H lo h' e C d wt:=by
 obtain⟨a1,a2,oe,vs,a3,a4,a5,a6,a7,a8,tr⟩:=F;have ne:∀{b o ws},h.get? b=some o->o.data=.fields ws->b≠L:=λ{b o ws} q w z=>by rw[z,hL] at q;cases q;exact dL _ w
 refine⟨a1,a2,oe,vs,(sb.2 e (ne a3 a6)).trans a3,a4,a5,a6,a7,a8,?_⟩;rcases tr with z|⟨T,oT,ts,b1,b2,b3,b4,b5,b6,b7⟩
 .exact .inl z
 .exact .inr ⟨T,oT,ts,b1,b2,b3,b4,(sb.2 T (ne b5 b6)).trans b5,b6,b7⟩
end
section
variable{X:Cx}{aA:jw}{σ:St}{H:Hp}{s:aL}{Mf:lQ}{Ex:XK}{lo:Nat}{e L C C' N N':lQ}{d:Option lQ}{ju:Env}{uG:List Env}{x:Str}{np rS:Pos}{D:Ends}{rest:List tM}{name:Option Str}{aek:List Stmt}
abbrev rm (X:Cx)(A':Around):j_:=Gv (bA X.prog X.w) A' X.env (BL (bA X.prog X.w) X.A X.env X.xe)
def QU (I:Inv X aA σ H s)(hp:∀p∈X.pn++aA,p.1<lo)(lu:X.s_0.heap.objs.size<=lo)(F:Ft Mf H lo s.heap e (.ref C) d true)
  (h:∀h',Inv X aA σ H {s with heap:=h'}->Ft Mf H lo h' e (.ref C) d true->E (.ref e) {s with heap:=h'}):BL (bA X.prog X.w) A X.env E (.ref e) s:=by
 unfold BL;refine aR (H_ F λT=>?_);rw[ah (by simp)];exact yZ I hp lu F λh' I' f' F'=>h h' I' F'
def CY (hX:Raises X Mf Ex)(ok:X.Ok)(hf:A'.frames=some X.stack)(uz:X.stack=ju::uG)(Dv:ju.frame=some L)(Lp:X.env.frame=some L)(hEx:∀C d H,Ex C d H->∃c,C=.ref c):Raises (X.as A' (rm X A')) Mf Ex:=by
 intro aA σ H s lo e C d wt I hp lu F q;obtain⟨c,rfl⟩:=hEx C d H q;show bw _ A' (AG (.ref e) X.env) _ _ s;refine yn (X:=X.as A' (rm X A')) I hp lu F hf uz Dv Lp λh1 I1 f1 F1=>?_;exact QU (I1.uI ok) hp lu F1 λh2 I2 F2=>hX aA σ H _ lo e (.ref c) d true I2 hp lu F2 q
def Ie {Q:Flow->aL->Prop}(I:Inv X aA σ H s)(hp:∀p∈X.pn++aA,p.1<lo)(lu:X.s_0.heap.objs.size<=lo)(F:Ft Mf H lo s.heap e (.ref C) d true)(c:tL X.K C N)(c':tL X.K C' N')(hg:Gl X x)(hm:X.mg x=some (.ref C'))(DZ:Dy x)
  (aoK:C=C'->vq (bA X.prog X.w) (X.A.mark (some (.ref e))) (.handlers (.ref e) [.ExceptHandler none name aek rS] X.env) (λr mR=>match r with
     |.ok f=>(match name with
      |none=>Q f mR
      |some n=>bw (bA X.prog X.w) X.A (do aew X.env n .none;t_ X.env n rS) (λ_ C_=>Q f C_) X.xe mR)
     |.error y=>BL (bA X.prog X.w) X.A X.env X.xe y mR) s)
  (hno:C≠C'->bw (bA X.prog X.w) X.A (aey (.ref e) X.env rest) Q X.xe s):
  bw (bA X.prog X.w) X.A (aey (.ref e) X.env (.ExceptHandler (some (.Name x np)) name aek rS::rest)) Q X.xe s:=by
 obtain⟨nm,qn,bs,sn,sub,ab,col,Wy,k0,k1,k2,k3,k5,e0⟩:=c.ex;obtain⟨nm',qn',bs',sn',akC,ab',ais,at6,k0',k1',k2',k3',k5',e0'⟩:=c'.ex;obtain⟨a1,a2,oe,vs,a3,a4,_⟩:=id F;have uC:=I.zb;have I1:=I.Jp (A':=X.A.mark (some (.ref e))) ((qE _ _).trans I.ok.frames) λ_ _=>False;refine wpAny_handleBy_cons (codeAny_handlers_test (dI (rT (X:=X.as (X.A.mark (some (.ref e))) λ_ _=>False) (E:=λ_ _=>False) (Q:=λv s'=>v=.ref C'/\s'=s) I1 hg hm ⟨Z,Z⟩ DZ) (λv s' hv=>?_) λ_ _ z=>z.elim)) (by intro z;cases z);obtain⟨rfl,rfl⟩:=hv;obtain⟨hp',g,dr,tk,os⟩:=s';by_cases hC:C=C'
 .refine LB (b:=true) (uC _ _ e0) (uC _ _ e0') a3 a4 u5 (by rw[hC];simp) ?_;exact aoK hC
 .refine LB (b:=false) (uC _ _ e0) (uC _ _ e0') a3 a4 u5 (by simpa usingλz=>hC z.symm) ?_;exact hno hC
def XH.af3 {h:Heap}{wt:Bool}(F:Ft Mf H lo h e (.ref C) d wt):XH Mf e C d h:=by
 obtain⟨a1,a2,oe,vs,a3,a4,a5,a6,a7,a8,_⟩:=F;exact⟨oe,vs,a3,a4,a5,a6,λz=>a8 (by rw[z])⟩
def Inv.tracked {wt:Bool}(I:Inv X aA σ H s)(hp:∀p∈X.pn++aA,p.1<lo)(lu:X.s_0.heap.objs.size<=lo)(F:Ft Mf H lo s.heap e (.ref C) d wt):Inv X aA σ (upd H e (.ext (XH Mf e C d))) s:=by
 obtain⟨a1,a2,oe,vs,a3,a4,a5,a6,_⟩:=id F;obtain⟨n1,n2⟩:=I.Zc a3 a6;exact I.aep (λp hpp=>cG (bc (hp p hpp) a2)) a1 (bt lu a2) n1 n2 (akP (XH.af3 F))
def acU {ts:TS}{b0:Stmt}{qB:List Stmt}(I:Inv X aA σ H s)(hp:∀p∈X.pn++aA,p.1<lo)(lu:X.s_0.heap.objs.size<=lo)(F:Ft Mf H lo s.heap e (.ref C) d true)
  (hs:J6 (X.as (X.A.mark (some (.ref e))) (rm X (X.A.mark (some (.ref e))))) (b0::qB) ts) (q:ts D (o8 X) (upd H e (.ext (XH Mf e C d)))):
  vq (bA X.prog X.w) (X.A.mark (some (.ref e))) (.handlers (.ref e) [.ExceptHandler none none (b0::qB) rS] X.env) (λr mR=>match r with
     |.ok f=>SP X aA D f mR
     |.error y=>BL (bA X.prog X.w) X.A X.env X.xe y mR) s:=by
 have hf:(X.A.mark (some (.ref e))).frames=some X.stack:=(qE _ _).trans I.ok.frames;refine codeAny_handlers_suite (yZ I hp lu F λh1 I1 f1 F1=>?_);have I2:=(I1.aer.tracked hp lu F1).Jp hf (rm X (X.A.mark (some (.ref e))));refine dI (hs aA _ _ _ D I2 q) (λf s2 h2=>?_) λ_ _ z=>z;cases f with
 |next=>obtain⟨gz,H',J,z⟩:=h2;exact⟨gz,H',J.uI I.ok,z⟩
 |brk=>obtain⟨gz,H',J,z⟩:=h2;exact⟨gz,H',J.uI I.ok,z⟩
 |cont=>obtain⟨gz,H',J,z⟩:=h2;exact⟨gz,H',J.uI I.ok,z⟩
 |ret u=>obtain⟨v,gz,H',J,z,y⟩:=h2;exact⟨v,gz,H',J.uI I.ok,z,y⟩
end
open PySem PySem.Spec PyProof.Rows
section
variable{X:Cx}{aA:jw}{σ:St}{H:Hp}{s:aL}{Mf:lQ}{Ex:XK}{lo:Nat}{e L C C' N N':lQ}{d:Option lQ}{ju:Env}{uG:List Env}{x n:Str}{np rS:Pos}{D:Ends}{i:Nat}
abbrev asE (X:Cx)(A':Around)(n:Str)(rS:Pos):j_:=λy s3=>bw (bA X.prog X.w) A' (AG y X.env) (λ_ s3'=>bw (bA X.prog X.w) A' (do aew X.env n .none;t_ X.env n rS)
  (λ_ s4=>bw (bA X.prog X.w) A' (QK "try.except-as" y X.env:Sem Flow) (λ_ _=>False) (rm X A') s4)
  (λz s4=>bw (bA X.prog X.w) A' (Gw y none) (λ_ s5=>rm X A' z s5) (rm X A') s4) s3') (rm X A') s3
def VM (hX:Raises X Mf Ex)(ok:X.Ok)(hf:A'.frames=some X.stack)(uz:X.stack=ju::uG)(Dv:ju.frame=some L)(Lp:X.env.frame=some L)(hEx:∀C d H,Ex C d H->∃c,C=.ref c)(hl:X.env.scope.names.lookup n=some .local):Raises (X.as A' (asE X A' n rS)) Mf Ex:=by
 have hS:=CY hX ok hf uz Dv Lp hEx;intro aA σ H s lo e C d wt I hp lu F q;show bw _ A' (AG (.ref e) X.env) _ _ s;refine yn (X:=X.as A' (asE X A' n rS)) I hp lu F hf uz Dv Lp λh1 I1 f1 F1=>?_;obtain⟨m0,⟨oL,esL,epL,hoL,hdL,_⟩,_⟩:=id I1.loc;refine Cv (X:=X.as A' (asE X A' n rS)) I1 hl λs2 I2 hsz sb=>?_;have F2:=F1.same sb hoL λvs z=>by rw[hdL] at z;cases z
 have I3:=I2.uI ok;refine Ia (X:=X.as A' (rm X A')) (I3.Jp hf (rm X A')) hp lu F2 λh4 I4 f4 F4=>?_;exact hS aA _ H _ lo e C d true I4 hp lu F4 q
def De (X:Cx)(D:Ends):Ends:=⟨λ_ H=>D.nx (o8 X) H,D.rt,λ_ H=>D.bk (o8 X) H,λ_ H=>D.ct (o8 X) H⟩
def ZO {ts:TS}{b0:Stmt}{qB:List Stmt}(I:Inv X aA σ H s)(hp:∀p∈X.pn++aA,p.1<lo)(lu:X.s_0.heap.objs.size<=lo)(F:Ft Mf H lo s.heap e (.ref C) d true)(hN:X.N.Nodup)(hi:X.N[i]? =some n)(hl:X.env.scope.names.lookup n=some .local)
  (hs:J6 (X.as (X.A.mark (some (.ref e))) (asE X (X.A.mark (some (.ref e))) n rS)) (b0::qB) ts) (q:ts (De X D) ((o8 X).set i (some (.ref e))) (upd H e (.ext (XH Mf e C d)))):
  vq (bA X.prog X.w) (X.A.mark (some (.ref e))) (.handlers (.ref e) [.ExceptHandler none (some n) (b0::qB) rS] X.env) (λr mR=>match r with
     |.ok f=>bw (bA X.prog X.w) X.A (do aew X.env n .none;t_ X.env n rS) (λ_ C_=>SP X aA D f C_) X.xe mR
     |.error y=>BL (bA X.prog X.w) X.A X.env X.xe y mR) s:=by
 have hf:(X.A.mark (some (.ref e))).frames=some X.stack:=(qE _ _).trans I.ok.frames;refine codeAny_handlers_suite_as (yZ I hp lu F λh1 I1 f1 F1=>?_);have I2:=(I1.aer.tracked hp lu F1).Jp hf (asE X (X.A.mark (some (.ref e))) n rS);refine C8 (X:=X.as (X.A.mark (some (.ref e))) (asE X (X.A.mark (some (.ref e))) n rS)) (v:=.ref e) I2 hN hi (.inl hl) rfl (λs2 I3=>?_) (.inr hl);refine dI (hs aA _ _ _ (De X D) I3 q) (λf s3 h3=>?_) λ_ _ z=>z;cases f with
 |next=>
  obtain⟨gz,H',J,z⟩:=h3;exact Cv (J.uI I.ok) hl λs4 I4 _ _=>⟨_,H',I4,z⟩
 |brk=>
  obtain⟨gz,H',J,z⟩:=h3;exact Cv (J.uI I.ok) hl λs4 I4 _ _=>⟨_,H',I4,z⟩
 |cont=>
  obtain⟨gz,H',J,z⟩:=h3;exact Cv (J.uI I.ok) hl λs4 I4 _ _=>⟨_,H',I4,z⟩
 |ret u=>
  obtain⟨v,gz,H',J,z,y⟩:=h3;exact Cv (J.uI I.ok) hl λs4 I4 _ _=>⟨v,_,H',I4,z,y⟩
abbrev Cx.wx (X:Cx)(E:j_)(pn:jw):Cx:={X with xe:=E,pn:=pn}
def Inv.ajD (I:Inv X aA σ H s)(E:j_):Inv (X.wx E (X.pn++aA)) [] σ H s:=
 ⟨⟨I.ok.mod,I.ok.kind,I.ok.glob,I.ok.blt,I.ok.above,I.ok.inj,I.ok.has,I.ok.cab,I.ok.hd,I.ok.frames,I.ok.stk,I.ok.exf,I.ok.bs,I.ok.QR,I.ok.Px,I.ok.OU,I.ok.yq,I.ok.Qy⟩,I.os,I.bare,I.rZ,I.loc,I.cell,I.free,I.pO,λp hp=>I.pin p (by simpa using hp),I.fV,I.len⟩
def Inv.Je {LI:jw}(I:Inv (X.wx E (X.pn++aA)) LI σ H s):Inv X aA σ H s:=
 ⟨⟨I.ok.mod,I.ok.kind,I.ok.glob,I.ok.blt,I.ok.above,I.ok.inj,I.ok.has,I.ok.cab,I.ok.hd,I.ok.frames,I.ok.stk,I.ok.exf,I.ok.bs,I.ok.QR,I.ok.Px,I.ok.OU,I.ok.yq,I.ok.Qy⟩,I.os,I.bare,I.rZ,I.loc,I.cell,I.free,I.pO,λp hp=>I.pin p (mY _ hp),I.fV,I.len⟩
abbrev TH:=Ends->lQ->kc->Option lQ->Hp->Prop
def PH (X:Cx)(Mf:lQ)(hs:List tM)(th:TH):Prop:=∀(aA:jw) (σ:St) (H:Hp) (s:aL) (lo:Nat) (e:lQ) (C:kc) (d:Option lQ) (D:Ends),Inv X aA σ H s->(∀p∈X.pn++aA,p.1<lo)->X.s_0.heap.objs.size<=lo->
 Ft Mf H lo s.heap e C d true->th D e C d H->bw (bA X.prog X.w) X.A (aey (.ref e) X.env hs) (SP X aA D) X.xe s
def aqf (Ex:XK)(tb:TS)(th:TH):TS:=λD σ H=>tb D σ H/\∀e C d H1,H1 e=none->Ex C d H1->th D e C d H1
def R_ {qB:List Stmt}{h0:tM}{hs:List tM}{tb:TS}{th:TH}(uz:X.stack=ju::uG)(Dv:ju.frame=some L)(Lp:X.env.frame=some L)
  (hb:∀E pn,Raises (X.wx E pn) Mf Ex->J6 (X.wx E pn) qB tb) (hh:PH X Mf (h0::hs) th):PS X (.Try qB (h0::hs) [] [] cJ) (aqf Ex tb th):=by
 intro aA s σ H D I ⟨q,qh⟩;rw[arm_exec_Try];refine aR (fG (wpAny_tryStmt_except ?_));have hR:Raises (X.wx (λe ip=>bw (bA X.prog X.w) X.A (AG e X.env) (λ_ mR=>bw (bA X.prog X.w) X.A (Gw e none) (λ_ C_=>bw (bA X.prog X.w) X.A (aey e X.env (h0::hs)) (SP X aA D) X.xe C_) X.xe mR) X.xe ip) (X.pn++aA)) Mf Ex:=by
  intro LI gz H' s' lo e C d wt I' hp lu F z;refine yn (X:=X.wx _ (X.pn++aA)) I' hp lu F I'.ok.frames uz Dv Lp λh1 I1 f1 F1=>?_;refine yZ (X:=X.wx _ (X.pn++aA)) I1 hp lu F1 λh2 I2 f2 F2=>?_;exact hh aA gz H' _ lo e C d D I2.Je (λp h=>hp p (mY _ h)) lu F2 (qh e C d H' F.1 z)
 refine dI ((hb _ _ hR) [] s σ H D (I.ajD _) q) (λf s1 h1=>?_) λ_ _ z=>z;cases f with
 |next=>
  obtain⟨gz,H',J,z⟩:=h1;exact uQ ⟨gz,H',J.Je,z⟩
 |brk=>obtain⟨gz,H',J,z⟩:=h1;exact⟨gz,H',J.Je,z⟩
 |cont=>obtain⟨gz,H',J,z⟩:=h1;exact⟨gz,H',J.Je,z⟩
 |ret u=>obtain⟨v,gz,H',J,z,y⟩:=h1;exact⟨v,gz,H',J.Je,z,y⟩
def R7:PH X Mf [] (λ_ _ _ _ _=>False):=λ_ _ _ _ _ _ _ _ _ _ _ _ _ h=>h.elim
def thc (K:au)(Mf C':lQ)(X0:St)(ts:lQ->TS)(th:TH):TH:=λD e C d H=>∃c N,C=.ref c/\tL K c N/\(c=C'->ts e D X0 (upd H e (.ext (XH Mf e c d))))/\(c≠C'->th D e C d H)
def Nn {rest:List tM}{ts:lQ->TS}{th:TH}{b0:Stmt}{qB:List Stmt}(c':tL X.K C' N')(hg:Gl X x)(hm:X.mg x=some (.ref C'))(hs:X.Ok->∀e,J6 (X.as (X.A.mark (some (.ref e))) (rm X (X.A.mark (some (.ref e))))) (b0::qB) (ts e))(hr:PH X Mf rest th)(DZ:autoParam (Dy x) Z_d):
  PH X Mf (.ExceptHandler (some (.Name x np)) none (b0::qB) rS::rest) (thc X.K Mf C' (o8 X) ts th):=by
 intro aA σ H s lo e C d D I hp lu F ⟨c,N,ec,cc,q1,q2⟩;subst ec;exact Ie I hp lu F cc c' hg hm DZ (λz=>acU I hp lu F (hs I.ok e) (q1 z)) λz=>hr aA σ H s lo e _ d D I hp lu F (q2 z)
def aqh (K:au)(X:Cx)(Mf C':lQ)(i:Nat)(ts:lQ->TS)(th:TH):TH:=λD e C d H=>∃c N,C=.ref c/\tL K c N/\(c=C'->ts e (De X D) ((o8 X).set i (some (.ref e))) (upd H e (.ext (XH Mf e c d))))/\(c≠C'->th D e C d H)
def PY {rest:List tM}{ts:lQ->TS}{th:TH}{b0:Stmt}{qB:List Stmt}(c':tL X.K C' N')(hg:Gl X x)(hm:X.mg x=some (.ref C'))(hN:X.N.Nodup)(hi:X.N[i]? =some n)(hl:X.env.scope.names.lookup n=some .local)
  (hs:X.Ok->∀e,J6 (X.as (X.A.mark (some (.ref e))) (asE X (X.A.mark (some (.ref e))) n rS)) (b0::qB) (ts e)) (hr:PH X Mf rest th) (DZ:autoParam (Dy x) Z_d):
  PH X Mf (.ExceptHandler (some (.Name x np)) (some n) (b0::qB) rS::rest) (aqh X.K X Mf C' i ts th):=by
 intro aA σ H s lo e C d D I hp lu F ⟨c,N,ec,cc,q1,q2⟩;subst ec;exact Ie I hp lu F cc c' hg hm DZ (λz=>ZO I hp lu F hN hi hl (hs I.ok e) (q1 z)) λz=>hr aA σ H s lo e _ d D I hp lu F (q2 z)
end
open PySem PySem.Spec PyProof.Rows
section
variable{X:Cx}
def Pk {L:lQ}{ju:Env}{uG:List Env}{aA:jw}{σ:St}{Q:VK}{FT tg l7:Expr}{MV:Fw}{a_:nz}{own:List (Str×Nat)}{xu:Pos}{wi:TI}{g:TG}{tt:TT}{te:TE}{use:Option (kc->Sem Unit)}{Qf:j_}
  (hX:Raises X Mf Ex) (uz:X.stack=ju::uG) (Dv:ju.frame=some L) (Lp:X.env.frame=some L) (hc:X.calm=true) (hN:X.N.Nodup) (I:Inv X aA σ H s) (hi:PI X tg l7 wi) (ok:N6 X.N X.env.scope a_ own)
  (hg:∀(s:aL) (H:Hp) (C:lQ) (cl:List (Str×lQ)) (fp:pF),PG (X.gW s H a_ (iB a_ cl C X.env) fp) tg g) (ht:∀(s:aL) (H:Hp) (C:lQ) (cl:List (Str×lQ)) (fp:pF),PTs (X.gW s H a_ (iB a_ cl C X.env) fp) MV tt)
  (he:∀(s:aL) (H:Hp) (C:lQ) (cl:List (Str×lQ)) (fp:pF) (E:j_),Raises ((X.gW s H a_ (iB a_ cl C X.env) fp).vo E) Mf Ex->PE ((X.gW s H a_ (iB a_ cl C X.env) fp).vo E) FT te) (hs:∀x,nA l7 X.env x=pure x)
  (h:tLc wi g tt te (own.map (·.2)) σ H Q)
  (hRR:∀D C s' m H',Inv X aA σ H' s'->Q (.ref D) H'->s'.heap.Ns C m->Fu X aA H' C->aex (bA X.prog X.w) X.A X.xe use Qf (.ref D) C (.ok .next) s'):
  bw (bA X.prog X.w) X.A (comprehension (.ListComp FT [⟨tg,l7,MV,0⟩] a_ cJ) a_ X.env xu (newList []) false (eval l7 X.env) use) Qf X.xe s:=by
 have EK:∀y∈a_.names,y.2=.free->∃c,X.env.cells.lookup y.1=some c:=λy hy e=>by
  rcases ok.free y hy e with k|k
  .exact I.ok.has _ (.inl k)
  .exact I.ok.has _ (.inr k)
 refine wpAny_comprehension_free (use:=use) rfl hs (QT EK) ok.kind (λy hy e=>by rw[ok.uniq y hy,e])
  (jc (hi aA s σ H _ I h) λxv s1 hx=>jc hx λitv s2 h2=>?_)
 obtain⟨it,fp,tn,J,H2,e,I2,T,st2,f2,q⟩:=h2;subst e;refine L3 (Pu ?_) (by show 0<=bu;decide);generalize hD:s2.heap.objs.size=D;have hDn:H2 D=none:=I2.fV.fresh (f7 hD);obtain⟨W,⟨m0,w0⟩,SD⟩:=q D hDn;generalize WI:({s2 with heap:=s2.heap.push {cls:=.type "list",data:=.seq ([]:gS).toArray}}:aL)=s3;have I3:Inv X aA σ (upd H2 D (.lst [])) s3:=by
  rw[<-WI];refine I2.laid (t':=s2.toks) (λb o e=>Heap.get?_push_of_some _ e) (f7 hD) ⟨eT _,[],0,.nil,?_⟩;rw[<-hD];exact Heap.get?_push_size _ rfl
 have h3:s3.heap=s2.heap.push {cls:=.type "list",data:=.seq ([]:gS).toArray}:=by rw[<-WI]
 have sz:∀b∈fp,b<s2.heap.objs.size:=λb hb=>by
  obtain⟨o,e,_⟩:=T.obj _ _ st2 b hb;exact Heap.lt_size e
 have f3:∀b∈fp,Fu X aA (upd H2 D (.lst [])) b/\b<s3.heap.objs.size:=λb hb=>by
  have BF:=sz b hb;refine⟨⟨?_,(f2 b hb).2⟩,by rw[h3,Heap.size_push];exact G5 BF⟩;rw[aF (by rw[<-hD];exact cG BF)];exact(f2 b hb).1
 have st3:tn 0 s3.heap:=T.keep _ _ _ st2 λb _ o e=>by rw[h3];exact Heap.get?_push_of_some _ e
 have I4:=Oq I3 ok hN f3;have pg:=hg s3 (upd H2 D (.lst [])) s3.heap.objs.size (fm (s3.heap.objs.size+1) a_.names (hZ X.env.cells a_.names [])) fp;have pt:=ht s3 (upd H2 D (.lst [])) s3.heap.objs.size (fm (s3.heap.objs.size+1) a_.names (hZ X.env.cells a_.names [])) fp;have pe:=he s3 (upd H2 D (.lst [])) s3.heap.objs.size (fm (s3.heap.objs.size+1) a_.names (hZ X.env.cells a_.names [])) fp;show vq _ _ (.compStart (.ListComp FT [⟨tg,l7,MV,0⟩] a_ cJ) 0 (.ref it) (.ref D) (iB a_ (fm (s3.heap.objs.size+1) a_.names (hZ X.env.cells a_.names [])) s3.heap.objs.size X.env)) (aex (bA X.prog X.w) X.A X.xe use Qf (.ref D) s3.heap.objs.size) {s3 with heap:=wD (s3.heap.push {cls:=.type "dict",data:=.dict #[]}) a_.names};have nfp:∀b∈fp,(upd H2 D (.lst [])) b=none:=λb hb=>(f3 b hb).1.1;generalize hce:iB a_ (fm (s3.heap.objs.size+1) a_.names (hZ X.env.cells a_.names [])) s3.heap.objs.size X.env=ce at I4 pg pt pe|-
 have cL:ce.locals=s3.heap.objs.size:=by subst hce;rfl
 generalize hH3:upd H2 D (.lst [])=H3 at I3 I4 pg pt pe w0 nfp f3;generalize hs4:({s3 with heap:=wD (s3.heap.push {cls:=.type "dict",data:=.dict #[]}) a_.names}:aL)=s4 at I4|-
 have st4:tn 0 s4.heap:=T.keep _ _ _ st3 λb _ o e=>by rw[<-hs4];exact Dl _ _ _ _ (Heap.get?_push_of_some _ e)
 have Sv:∀{gz:St} {H':Hp} {s':aL},Inv (X.gW s3 H3 a_ ce fp) [] gz H' s'->(∀b∈fp,H' b=none)->∀b∈fp,Fu (X.gW s3 H3 a_ ce fp) [] H' b:=λ{gz H' s'} I' hn b hb=>
  ⟨hn b hb,(I'.ok.exf b hb).1,I'.ok.OU b hb,.inl hb,λx c e=>(I'.ok.exf b hb).2 x c e,λp hp=>absurd (show p∈([]:jw)++[] from hp) (by simp)⟩
 have cF:ce.frame=some L:=by subst hce;exact Lp
 have hR:Raises ((X.gW s3 H3 a_ ce fp).vo (Gv (bA X.prog X.w) X.A ce λe s'=>aex (bA X.prog X.w) X.A X.xe use Qf (.ref D) s3.heap.objs.size (.error e) s')) Mf Ex:=by
  intro LI gz H' s' lo e C d wt I' hp' ajb F' z;refine yn (X:=X.gW s3 H3 a_ ce fp) I'.uJ hp' ajb F' I'.ok.frames uz Dv cF λh1 J1 f1 F1=>?_;obtain⟨m,hn,_⟩:=id J1.loc;have hn:h1.Ns ce.locals m:=hn;have nC:H' s3.heap.objs.size=none:=by
   have z:H' ce.locals=none:=J1.free;rw[cL] at z;exact z
  rw[cL] at hn;refine⟨m,hn,λh2 sb aq7 _=>?_⟩;obtain⟨oC,esC,epC,hoC,hdC,_⟩:=id hn;have F2:=F1.same sb hoC λvs z=>by rw[hdC] at z;cases z
  have J2:Inv X aA σ H' {s' with heap:=h1}:=I3.Xn (ch:=fp) J1.os J1.rZ J1.fV J1.bare λb hb=>⟨(f3 b hb).1.2.2.2.1,(f3 b hb).1.2.1,(f3 b hb).1.2.2.2.2.1,(f3 b hb).1.2.2.2.2.2⟩;obtain⟨g0,g1,g2,g3,g4,g5⟩:=I3.RD (bq _) nC;have J3:=J2.turned (h':=h2) (t':=s'.toks) (λb o hb e=>(sb.2 b hb).trans e) g0 g1 g3 g4 g5;have ajc:s3.heap.objs.size<=lo:=ajb;have pn:∀p∈X.pn++aA,p.1<lo:=λp hp=>bc (Heap.lt_size (I3.pin p hp).1) ajc;have lo2:X.s_0.heap.objs.size<=lo:=bt I3.sz ajc;exact Ia J3 pn lo2 F2 λh4 J4 f4 F4=>hX aA σ H' _ lo e C d true J4 pn lo2 F4 z
 have loop:vq (bA X.prog X.w) X.A (.compLoop (.ListComp FT [⟨tg,l7,MV,0⟩] a_ cJ) 0 (.ref it) (.ref D) ce) (aex (bA X.prog X.w) X.A X.xe use Qf (.ref D) s3.heap.objs.size) s4:=by
  refine Mj (λn s'=>∃i H',Inv (X.gW s3 H3 a_ ce fp) [] (wipe σ (own.map (·.2))) H' s'/\tn i s'.heap/\(∀b∈fp,H' b=none)/\W i n H') ?_ m0 ⟨0,H3,I4,st4,nfp,w0⟩;rintro n s5 ⟨i,H5,I5,st5,n5,w5⟩;rcases SD i n H5 w5 with⟨stop,qq⟩|⟨go,Nx,hNx,step⟩
  .have td:=T.done (X.gW s3 H3 a_ ce fp) rfl rfl rfl hc i [] s5 _ H5 (λ_ _=>False) I5 (Sv I5 n5) st5 stop;refine ZV td λr s6 ⟨hr,I6⟩=>?_;subst hr;have I7:Inv X aA σ H5 s6:=I3.Xn (ch:=fp) I6.os I6.rZ I6.fV I6.bare λb hb=>⟨(f3 b hb).1.2.2.2.1,(f3 b hb).1.2.1,(f3 b hb).1.2.2.2.2.1,(f3 b hb).1.2.2.2.2.2⟩;have nC:H5 s3.heap.objs.size=none:=by
    have z:H5 ce.locals=none:=I6.free;rw[cL] at z;exact z
   obtain⟨m,hn,_⟩:=I6.loc;have hn:s6.heap.Ns ce.locals m:=hn;rw[cL] at hn;exact hRR D s3.heap.objs.size s6 m H5 I7 qq hn (I3.RD (bq _) nC)
  .have ti:=T.item (X.gW s3 H3 a_ ce fp) rfl rfl rfl hc i [] s5 _ H5 (λ_ _=>False) I5 (Sv I5 n5) st5 go;refine ZV ti λr s6 ⟨u,hr,h6⟩=>?_;subst hr;refine ZV h6 λ_ s7 ⟨x,H7,I7,r7,y7,st7,n7⟩=>?_;have I7':=I7.pinned (Sv I7 n7) (T.obj _ _ st7);refine ZV (pg _ s7 _ H7 x u _ I7' r7 (step x H7 y7)) λ_ s8 ⟨σ8,H8,I8,hw8,q8⟩=>?_;refine ZV (pt _ s8 σ8 H8 _ I8 q8) λb s9 ⟨H9,I9,q9⟩=>?_;have fin:∀{s':aL} {H':Hp},Inv (X.gW s3 H3 a_ ce fp) ([]++Jk fp s7.heap) σ8 H' s'->Nx H'->∃m,m<n/\∃i H',Inv (X.gW s3 H3 a_ ce fp) [] (wipe σ (own.map (·.2))) H' s'/\tn i s'.heap/\(∀b∈fp,H' b=none)/\W i m H':=λ{s' H'} I' nx=>by
    obtain⟨m',hm,w'⟩:=hNx H' nx;have aj9:∀b∈fp,∀o,s7.heap.get? b=some o->s'.heap.get? b=some o/\H' b=none:=λb hb o e=>
     let z:=I'.pin (b,o) (eQ _ (eQ _ (Bg hb e)))
     ⟨z.1,z.2.1⟩
    have hl:(wipe σ (own.map (·.2))).length=σ8.length:=by rw[<-hw8,yP]
    refine⟨m',hm,i+1,H',(I'.Dg (aA:=[])).weak hl (λj v e=>?_),T.keep _ _ _ st7 λb hb o e=>(aj9 b hb o e).1,λb hb=>?_,w'⟩
    .rw[<-hw8] at e;exact(Ep e).1
    .obtain⟨o,e,_⟩:=T.obj _ _ st7 b hb;exact(aj9 b hb o e).2
   cases b with
   |false=>
    simp only[aaj,if_false] at q9|-
    exact fin I9 q9
   |true=>
    simp only[if_true] at q9|-
    refine dI (pe _ hR _ s9 σ8 H9 _ (I9.vo _) q9) (λz s10 ⟨yv,H10,I10,r10,dM,anB,aoM,nx⟩=>?_) λ_ _ z=>z;exact aeU (X:=X.gW s3 H3 a_ ce fp) I10.uJ anB aoM r10 λs11 I11=>fin I11 nx
 exact codeAny_compStart_list loop (T.self X.A 0 _ _ _ st4 loop)
def Y4 {L:lQ}{ju:Env}{uG:List Env}{FT tg l7:Expr}{MV:Fw}{a_:nz}{own:List (Str×Nat)}{wi:TI}{g:TG}{tt:TT}{te:TE}(hX:Raises X Mf Ex)(uz:X.stack=ju::uG)(Dv:ju.frame=some L)(Lp:X.env.frame=some L)(hc:X.calm=true)(hN:X.N.Nodup)(hi:PI X tg l7 wi)(ok:N6 X.N X.env.scope a_ own)
  (hg:∀(s:aL) (H:Hp) (C:lQ) (cl:List (Str×lQ)) (fp:pF),PG (X.gW s H a_ (iB a_ cl C X.env) fp) tg g) (ht:∀(s:aL) (H:Hp) (C:lQ) (cl:List (Str×lQ)) (fp:pF),PTs (X.gW s H a_ (iB a_ cl C X.env) fp) MV tt)
  (he:∀(s:aL) (H:Hp) (C:lQ) (cl:List (Str×lQ)) (fp:pF) (E:j_),Raises ((X.gW s H a_ (iB a_ cl C X.env) fp).vo E) Mf Ex->PE ((X.gW s H a_ (iB a_ cl C X.env) fp).vo E) FT te) (hs:autoParam (∀x,nA l7 X.env x=pure x) Z_t):
  PE X (.ListComp FT [⟨tg,l7,MV,0⟩] a_ cJ) (tLc wi g tt te (own.map (·.2))):=by
 intro aA s σ H Q I h;rw[eval_ListComp];refine Pk hX uz Dv Lp hc hN I hi ok hg ht he hs h λD C s' m H' I' q hn f=>⟨m,hn,λh'' sb=>?_⟩;obtain⟨f0,f1,f2,f3,f4,f5⟩:=f;exact⟨.ref D,H',I'.turned (t':=s'.toks) (λb o hb e=>(sb.2 b hb).trans e) f0 f1 f3 f4 f5,Z,q⟩
def Ej {Lf:lQ}{ju:Env}{uG:List Env}{i:Nat}{y:Str}{py:Pos}{FT tg l7:Expr}{MV:Fw}{a_:nz}{own:List (Str×Nat)}{ZG:Pos}{wi:TI}{g:TG}{tt:TT}{te:TE}(hX:Raises X Mf Ex)(uz:X.stack=ju::uG)(Dv:ju.frame=some Lf)(Lp:X.env.frame=some Lf)(hc:X.calm=true)(hN:X.N.Nodup)(hy:X.N[i]? =some y)(hyl:X.env.scope.names.lookup y=some .local)
  (hsw:mU (.ListComp FT [⟨tg,l7,MV,0⟩] a_ cJ) (some (.Name y py)) ZG.line X.env=pure true) (hi:PI X tg l7 wi) (ok:N6 X.N X.env.scope a_ own)
  (hg:∀(s:aL) (H:Hp) (C:lQ) (cl:List (Str×lQ)) (fp:pF),PG (X.gW s H a_ (iB a_ cl C X.env) fp) tg g) (ht:∀(s:aL) (H:Hp) (C:lQ) (cl:List (Str×lQ)) (fp:pF),PTs (X.gW s H a_ (iB a_ cl C X.env) fp) MV tt)
  (he:∀(s:aL) (H:Hp) (C:lQ) (cl:List (Str×lQ)) (fp:pF) (E:j_),Raises ((X.gW s H a_ (iB a_ cl C X.env) fp).vo E) Mf Ex->PE ((X.gW s H a_ (iB a_ cl C X.env) fp).vo E) FT te) (hs:autoParam (∀x,nA l7 X.env x=pure x) Z_t):
  PS X (.Assign [.Name y py] (.ListComp FT [⟨tg,l7,MV,0⟩] a_ cJ) ZG) (ZP (tLc wi g tt te (own.map (·.2))) (An i)):=by
 intro aA s σ H D I h;rw[exec_Assign_Name_used _ _ _ _ hsw];refine aR (fG (aR ?_));show bw _ X.A (do let _<-comprehension (.ListComp FT [⟨tg,l7,MV,0⟩] a_ cJ) a_ X.env (firstIterPos [⟨tg,l7,MV,0⟩] cJ) (newList []) false (eval l7 X.env) (some (Uw (.Name y py) X.env))) _ _ s;have h:tLc wi g tt te (own.map (·.2)) σ H (λx H1=>An i x σ H1 D.nx):=h;refine aR (jc (Pk (Qf:=λ_ s'=>SP X aA D .next s') hX uz Dv Lp hc hN I hi ok hg ht he hs h λL C s' m H' I' q hn f=>?_) λ_ s' hq=>bV (bV hq));show bw _ _ (Uw (.Name y py) X.env (.ref L)) _ _ _;refine akW (LQ (v:=V.ref L) I' hN hy (.inl hyl) rfl (λs2 I2 ⟨a,sb,ha⟩=>?_) (.inr hyl));obtain⟨f0,f1,f2,f3,f4,f5⟩:=f;have haC:C≠a:=by
  rcases ha with z|z
  .rw[z];exact f1
  .exactλe=>f4 y a z e.symm
 refine⟨m,hn.sameBut sb haC,λh3 sb3=>?_⟩;exact⟨_,H',I2.turned (t':=s2.toks) (λb o hb e=>(sb3.2 b hb).trans e) f0 f1 f3 f4 f5,q⟩
end
end L2
namespace Mx
open LwBits LwSound
variable{l:RowLearnt}{n w p i q c:Nat}{b:rH}{f:Form}{x B v:Int}{m:Model}{s:aW}{r:RowWay}{aS bQ:bX}{xs es:ly}
def lcs {α:Type}{l:List α}(h:l.length=n+1):∃a r,l=a::r/\r.length=n:=by
 cases l with
 |nil=>cases h
 |cons a r=>exact⟨a,r,Z,adx h⟩
def lc1 {α:Type}{l:List α}(h:l.length=1):∃a,l=[a]:=by
 obtain⟨a,r,rfl,h1⟩:=lcs h;exact⟨a,congrArg (a:: ·) (di h1)⟩
def lc2 {α:Type}{l:List α}(h:l.length=2):∃a b,l=[a,b]:=by
 obtain⟨a,r,rfl,h1⟩:=lcs h;obtain⟨b,rfl⟩:=lc1 h1;exact⟨a,b,Z⟩
def lc3 {α:Type}{l:List α}(h:l.length=3):∃a b c,l=[a,b,c]:=by
 obtain⟨a,r,rfl,h1⟩:=lcs h;obtain⟨b,c,rfl⟩:=lc2 h1;exact⟨a,b,c,Z⟩
def pD {b f:Nat}(h:b<=15*(f+1)):b-min 15 b<=15*f:=by
 rcases Nat.le_total 15 b with c|c
 .rw[f9 c];exact Nat.sub_le_of_le_add h
 .rw[k_ c,lP];exact eT _
def Xq {α β γ:Sort _}(f:α->β->γ){a a':α}{b b':β}(h:a=a')(h':b=b'):f a b=f a' b':=by subst h;subst h';rfl
theorem take_snoc {α:Type}:∀{l:List α} {i:Nat} {x:α},l[i]? =some x->l.take (i+1)=l.take i++[x]
 |[],i,x,h=>by simp at h
 |a::l,0,x,h=>by
  have e:a=x:=bh h;subst e;rfl
 |a::l,i+1,x,h=>by
  have ih:=take_snoc (l:=l) (i:=i) (x:=x) h;show a::l.take (i+1)=a::l.take i++[x];rw[ih];rfl
def foldl_add (l:bX):∀a:Int,l.foldl (λ(a b:Int)=>a+b) a=a+l.sum:=by
 induction l with
 |nil=>intro a;simp
 |cons x r ih=>intro a;rw[bR,ih,DC];lia
def RC (l:ie):∀a:Nat,l.foldl (λ(a b:Nat)=>a+b) a=a+l.sum:=by
 induction l with
 |nil=>intro a;simp
 |cons x r ih=>intro a;rw[bR,ih,DC];lia
theorem tf {α β:Type}(f:Int->Int->β):∀(w h:bX),w.length=h.length->
  (aK w.length).map (λi=>f (w.getD i 0) (h.getD i 0))=dO f w h
 |[],[],_=>rfl
 |a::w,b::h,e=>by
  have ih:=tf (α:=α) f w h (by simpa using e);rw[aZ,qe,cz,jg,List.zipWith_cons_cons];refine Xq List.cons rfl ?_;rw[<-ih];rfl
def abJ {m:Int}(hm:0<=m):(if(if x<m then x else m)> -m then(if x<m then x else m) else-m)=held x m:=by
 unfold held;by_cases h1:x<m<;>by_cases h2:x< -m<;>simp[h1,h2]<;>lia
def MS {m:Int}(hm:0<=m): -m<=held x m/\held x m<=m:=by
 unfold held;split
 .lia
 .split<;>lia
def agk (x:Int):(if x>0 then(1:Int) else if x<0 then-1 else 0)=sgn x:=by
 unfold sgn;by_cases h1:x>0
 .rw[aj h1,ah (by lia),ah (by lia)]
 .by_cases h2:x<0
  .rw[ah h1,aj h2,aj h2]
  .rw[ah h1,ah h2,ah h2,aj (by lia)]
def Uk (x:Int): -1<=sgn x/\sgn x<=1:=by
 unfold sgn;split<;>(try split)<;>lia
def sQ (w h:bX):Int:=(dO (λa b=>a*b) w h).sum
def KO {w h:bX}(e:w.length=h.length):products w h=sQ w h:=by
 unfold products sQ;rw[foldl_add,tf (α:=Int) (λa b=>a*b) w h e];lia
def ow (s:Stage):Int:=if s.wide=true then 1048576 else 32767
def mH (s:Stage):Int:=if s.wide=true then 1073741824 else 32767
def u_ (s:Stage):0<=ow s/\ow s<=1048576:=by unfold ow;split<;>lia
def zf (s:Stage):0<=mH s/\mH s<=1073741824:=by unfold mH;split<;>lia
structure xM (s:Stage)(l:Learnt):Prop where
 wl:l.w.length=s.taps
 hl:l.h.length=s.taps
 wb:∀x∈l.w,-ow s<=x/\x<=ow s
 hb:∀x∈l.h,-mH s<=x/\x<=mH s
def xM.new (s:Stage):xM s (aab s):=by
 refine⟨by simp[aab],by simp[aab],λx hx=>?_,λx hx=>?_⟩
 .have e:x=0:=(fb.mp hx).2;have:=u_ s;lia
 .have e:x=0:=(fb.mp hx).2;have:=zf s;lia
def EI {s:Stage}{l:Learnt}(ok:xM s l):
  LY s l=if s.wide=true then(sQ l.w l.h+32768) / 65536 else(sQ l.w l.h*2^s.scale+16384) / 32768:=by
 unfold LY;rw[KO (ok.wl.trans ok.hl.symm)];split
 .exact cv _ (by decide)
 .rw[cv _ (by decide),UD];congr 3
def To (x:Int)(n:Nat):down x n=x / 2^n:=by
 unfold down;rw[cv _ (jF _)];simp
def Lz {s:Stage}{l:Learnt}(ok:xM s l)(rt:1<=s.taps)(sc:s.wide=true->s.scale=0)(u v:Int):
  learns s l u v=⟨dO (λw h=>held (w+sgn v*(s.gain:Int)*sgn h) (ow s)) l.w l.h,held (u / 2^s.scale) (mH s)::l.h.dropLast⟩:=by
 unfold learns;refine Xq Learnt.mk ?_ ?_
 .rw[<-tf (α:=Int) (λw h=>held (w+sgn v*(s.gain:Int)*sgn h) (ow s)) l.w l.h (ok.wl.trans ok.hl.symm),ok.wl];apply fM;intro i _;unfold ow;congr 2;rw[QG,QG,UD (sgn (l.h.getD i 0))]
 .refine Xq List.cons ?_ ?_
  .unfold mH;by_cases hw:s.wide=true
   .rw[aj hw,aj hw,sc hw];simp
   .rw[ah hw,ah hw,To]
  .rw[UH,ok.hl]
def xM.next {s:Stage}{l:Learnt}(ok:xM s l)(rt:1<=s.taps)(u v:Int):xM s (learns s l u v):=by
 refine⟨by simp[learns],?_,λx hx=>?_,λx hx=>?_⟩
 .simp only[learns,aZ,cN,ok.hl];lia
 .obtain⟨i,_,e⟩:=bj.mp (show x∈(aK s.taps).map _ from hx);rw[<-e];exact MS (u_ s).1
 .have hx:x∈(if s.wide=true then held u 1073741824 else held (down u s.scale) 32767)::l.h.take (s.taps-1):=hx;rcases bo.mp hx with e|e
  .rw[e];unfold mH;split
   .exact MS (by decide)
   .exact MS (by decide)
  .exact ok.hb x (e_ e)
theorem MC {C:Int}(hB:0<=B)(hC:0<=C):∀{w h:bX},(∀x∈w,-B<=x/\x<=B)->(∀x∈h,-C<=x/\x<=C)-> -(w.length*(B*C))<=sQ w h/\sQ w h<=w.length*(B*C)
 |[],h,_,_=>by simp[sQ]
 |a::w,[],_,_=>by
  have:=kZ hB hC;have h2:(0:Int)<=((a::w).length:Int)*(B*C):=kZ (jF _) this;simp only[sQ,List.zipWith_nil_right,List.sum_nil];lia
 |a::w,b::h,hw,hh=>by
  have ih:=MC hB hC (w:=w) (h:=h) (λx m=>hw x (aP _ m)) (λx m=>hh x (aP _ m));have e:sQ (a::w) (b::h)=a*b+sQ w h:=by simp[sQ]
  obtain⟨a1,a2⟩:=hw a (aU ..);obtain⟨b1,b2⟩:=hh b (aU ..);have m1:a*b<=B*C:=by
   have h1:0<=(B-a)*(C+b):=kZ (by lia) (by lia);have h2:0<=(B+a)*(C-b):=kZ (by lia) (by lia);rw[Int.sub_mul,KW,KW] at h1;rw[BP,KY,KY] at h2;lia
  have m2: -(B*C)<=a*b:=by
   have h1:0<=(B+a)*(C+b):=kZ (by lia) (by lia);have h2:0<=(B-a)*(C-b):=kZ (by lia) (by lia);rw[BP,KW,KW] at h1;rw[Int.sub_mul,KY,KY] at h2;lia
  rw[e,aZ];have:((w.length+1:Nat):Int)*(B*C)=w.length*(B*C)+B*C:=by
   rw[fq,BP];simp
  lia
open LwBits LwSound
def gF (p:Nat)(l:bX):bX:=[l.getD 0 0,l.getD 0 0-l.getD 1 0,l.getD 0 0-2*l.getD 1 0+l.getD 2 0].take p
def yk (a:Int×List Int)(k:Nat):Int×List Int:=(a.1-a.2.getD k 0,a.2.set k a.1)
def nO (a:Int×List Int)(k:Nat):Int×List Int:=(a.1+a.2.getD k 0,a.2.set k (a.1+a.2.getD k 0))
def BW (hp:p<=3)(l:bX):(gF p l).length=p:=by
 unfold gF;simp;lia
def MO (a:Int×List Int):∀l:ie,(l.foldl yk a).2.length=a.2.length:=λl=>by
 induction l generalizing a with
 |nil=>rfl
 |cons k r ih=>rw[bR,ih];simp[yk]
def HY (a:Int×List Int):∀l:ie,(l.foldl nO a).2.length=a.2.length:=λl=>by
 induction l generalizing a with
 |nil=>rfl
 |cons k r ih=>rw[bR,ih];simp[nO]
def XM (hp:p<=3){l:bX}(hl:l.length=3)(x:Int):
  (aK p).foldl yk (x,gF p l)=(x-jd p l,gF p (x::l.take 2)):=by
 match l,hl with
 |[a,b,c],_=>
  match p,hp with
  |0,_=>simp[gF,jd]
  |1,_=>simp[gF,jd,de,yk]
  |2,_=>
   simp[gF,jd,de,yk];lia
  |3,_=>
   simp[gF,jd,de,yk];lia
def XJ (hp:p<=3){l:bX}(hl:l.length=3)(u:Int):
  (aK p).reverse.foldl nO (u,gF p l)=(u+jd p l,gF p ((u+jd p l)::l.take 2)):=by
 match l,hl with
 |[a,b,c],_=>
  match p,hp with
  |0,_=>simp[gF,jd]
  |1,_=>simp[gF,jd,de,nO]
  |2,_=>
   simp[gF,jd,de,nO];lia
  |3,_=>
   simp[gF,jd,de,nO];lia
theorem yN:∀(a b:List (Stage×Learnt)) (u:Int),mx (a++b) u=((mx b (mx a u).1).1,(mx a u).2++(mx b (mx a u).1).2)
 |[],b,u=>by simp[mx]
 |(s,l)::r,b,u=>by
  have ih:=yN r b (u-LY s l);simp only[xw,mx];rw[ih]
theorem tu:∀(a:List (Stage×Learnt)) (u:Int),(mx a u).2.length=a.length
 |[],_=>rfl
 |(s,l)::r,u=>by simp[mx,tu r]
theorem Ey:∀(a:List (Stage×Learnt)) (u:Int),(mm a u).2.length=a.length
 |[],_=>rfl
 |(s,l)::r,u=>by simp[mm,Ey r]
structure lH (r:RowWay)(l:RowLearnt):Prop where
 fx:r.fixed<=3
 la:l.last.length=3
 sl:l.stages.length=r.stages.length
 st:∀(i:Nat) (s:Stage) (x:Learnt),r.stages[i]? =some s->l.stages[i]? =some x->xM s x
 ep:l.eps.length=4
def iw (s:Stage):Prop:=1<=s.taps/\s.taps<=16/\1<=s.gain/\s.gain<=1024/\s.scale<=12/\(s.wide=true->s.scale=0/\s.taps<=8)
structure lJ (r:RowWay):Prop where
 fx:r.fixed<=3
 sn:r.stages.length<=2
 st:∀s∈r.stages,iw s
def lH.new (g:lJ r):lH r (newRow r):=by
 refine⟨g.fx,Z,by simp[newRow],λi s x h1 h2=>?_,Z⟩;have h2:(r.stages.map aab)[i]? =some x:=h2;rw[aw,h1] at h2;cases h2;exact xM.new s
def Sz {ss:List Stage}:∀{ls:List Learnt} (u:Int),ls.length=ss.length->(∀s∈ss,1<=s.taps)->(∀(i:Nat) (s:Stage) (x:Learnt),ss[i]? =some s->ls[i]? =some x->xM s x)->
  ∀(i:Nat) (s:Stage) (x:Learnt),ss[i]? =some s->(mx (ss.zip ls) u).2[i]? =some x->xM s x:=by
 induction ss with
 |nil=>intro ls u _ _ _ i s x h;simp at h
 |cons s0 ss ih=>
  intro ls u hl h1 h i s x hs hx
  match ls,hl with
  |l0::ls,hl=>
   simp only[uL,mx] at hx
   match i with
   |0=>
    simp at hs hx;subst hs;subst hx;exact(h 0 s0 l0 rfl rfl).next (h1 s0 (aU ..)) _ _
   |i+1=>
    exact ih (ls:=ls) (u-LY s0 l0) (by simpa using hl) (λs m=>h1 s (aP _ m)) (λi s x a b=>h (i+1) s x (by simpa using a) (by simpa using b)) i s x (by simpa using hs) (by simpa using hx)
def abl {ss:List Stage}:∀{ls:List Learnt} (u:Int),ls.length=ss.length->(∀s∈ss,1<=s.taps)->(∀(i:Nat) (s:Stage) (x:Learnt),ss[i]? =some s->ls[i]? =some x->xM s x)->
  ∀(i:Nat) (s:Stage) (x:Learnt),ss[i]? =some s->(mm (ss.zip ls) u).2[i]? =some x->xM s x:=by
 induction ss with
 |nil=>intro ls u _ _ _ i s x h;simp at h
 |cons s0 ss ih=>
  intro ls u hl h1 h i s x hs hx
  match ls,hl with
  |l0::ls,hl=>
   simp only[uL,mm] at hx
   match i with
   |0=>
    simp at hs hx;subst hs;subst hx;exact(h 0 s0 l0 rfl rfl).next (h1 s0 (aU ..)) _ _
   |i+1=>
    exact ih (ls:=ls) u (by simpa using hl) (λs m=>h1 s (aP _ m)) (λi s x a b=>h (i+1) s x (by simpa using a) (by simpa using b)) i s x (by simpa using hs) (by simpa using hx)
def lH.rest (ok:lH r l)(g:lJ r)(x:Int):lH r (m8 r l x).2:=by
 refine⟨ok.fx,?_,?_,?_,ok.ep⟩
 .simp[m8,RowLearnt.next,ok.la]
 .simp[m8,RowLearnt.next,tu,ok.sl]
 .exact Sz _ ok.sl (λs m=>(g.st s m).1) ok.st
def lH.back (ok:lH r l)(g:lJ r)(x:Int):lH r (kU r l x).2:=by
 refine⟨ok.fx,?_,?_,?_,ok.ep⟩
 .simp[kU,RowLearnt.next,ok.la]
 .simp[kU,RowLearnt.next,Ey,ok.sl]
 .exact abl _ ok.sl (λs m=>(g.st s m).1) ok.st
def QN (f:RowLearnt->Int->Int×RowLearnt)(l:RowLearnt)(xs:bX)(x:Int):
  nv f l (xs++[x])=((nv f l xs).1++[(f (nv f l xs).2 x).1],(f (nv f l xs).2 x).2):=by
 unfold nv;rw[dB];rfl
def vL (f:RowLearnt->Int->Int×RowLearnt)(l:RowLearnt)(xs:bX):(nv f l xs).1.length=xs.length:=by
 have:∀(xs:bX) (a:bX×RowLearnt),(xs.foldl (λ(a:bX×RowLearnt) (x:Int)=>(a.1++[(f a.2 x).1],(f a.2 x).2)) a).1.length=a.1.length+xs.length:=by
  intro xs;induction xs with
  |nil=>intro a;rfl
  |cons x r ih=>intro a;rw[bR,ih];simp;lia
 unfold nv;rw[this];simp
def Hl {f:RowWay->RowLearnt->Int->Int×RowLearnt}(hf:∀l x,lH r l->lH r (f r l x).2)(ok:lH r l)(xs:bX):lH r (nv (f r) l xs).2:=by
 have:∀(xs:bX) (a:bX×RowLearnt),lH r a.2->lH r (xs.foldl (λ(a:bX×RowLearnt) (x:Int)=>(a.1++[(f r a.2 x).1],(f r a.2 x).2)) a).2:=by
  intro xs;induction xs with
  |nil=>intro a h;exact h
  |cons x r ih=>intro a h;rw[bR];exact ih _ (hf _ _ h)
 exact this xs _ ok
def abY (m:Nat)(hm:m<=3)(l r:Int):join m l r=if m=1 then(l,r-l) else if m=2 then(l-r,r) else if m=3 then((l+r) / 2,l-r) else(l,r):=by
 match m,hm with
 |0,_=>rfl
 |1,_=>rfl
 |2,_=>rfl
 |3,_=>
  show(uS (l+r) 2,l-r)=((l+r) / 2,l-r);rw[cv _ (by decide)]
def V9 (m:Nat)(hm:m<=3)(a b:Int):JX m a b=if m=1 then(a,b+a) else if m=2 then(a+b,b) else if m=3 then((2*a+b%2+b) / 2,(2*a+b%2-b) / 2) else(a,b):=by
 match m,hm with
 |0,_=>rfl
 |1,_=>rfl
 |2,_=>rfl
 |3,_=>
  show(a+uS (b+1) 2,a+uS (b+1) 2-b)=((2*a+b%2+b) / 2,(2*a+b%2-b) / 2);rw[cv _ (by decide)];refine Prod.ext ?_ ?_
  .show a+(b+1) / 2=(2*a+b%2+b) / 2;lia
  .show a+(b+1) / 2-b=(2*a+b%2-b) / 2;lia
def Jg (g:Nat->Int->Int->Int×Int)(m:Nat)(a b:bX):bX:=(dO (g m) a b).map (·.1)
def Jh (g:Nat->Int->Int->Int×Int)(m:Nat)(a b:bX):bX:=(dO (g m) a b).map (·.2)
def Sf (f:Int->Int->Int×Int):∀(a b:bX),a.length=b.length->
  (aK a.length).map (λt=>f (a.getD t 0) (b.getD t 0))=dO f a b:=λa b e=>tf (α:=Int) f a b e
theorem Ap (g:Nat->Int->Int->Int×Int):∀(js:ie) (rows:ly) (i:Nat) (j:Nat) (a b:bX),js[i]? =some j->rows[2*i]? =some a->rows[2*i+1]? =some b->a.length=b.length->
  jT g (js.take (i+1)) rows=((jT g (js.take i) rows).set (2*i) (Jg g j a b)).set (2*i+1) (Jh g j a b)
 |[],rows,i,j,a,b,h,_,_,_=>by simp at h
 |j0::js,rows,0,j,a,b,h,ha,hb,e=>by
  simp at h;subst h
  match rows,ha,hb with
  |a0::b0::r,ha,hb=>
   simp at ha hb;subst ha;subst hb;have e1:=Sf (g j0) a0 b0 e;simp only[WW,NT,jT];have z1:(aK a0.length).map (λt=>(g j0 (a0.getD t 0) (b0.getD t 0)).1)=Jg g j0 a0 b0:=by
    unfold Jg;rw[<-e1,jg];rfl
   have z2:(aK a0.length).map (λt=>(g j0 (a0.getD t 0) (b0.getD t 0)).2)=Jh g j0 a0 b0:=by
    unfold Jh;rw[<-e1,jg];rfl
   rw[z1,z2];rfl
  |[a0],ha,hb=>simp at hb
  |[],ha,hb=>simp at ha
 |j0::js,rows,i+1,j,a,b,h,ha,hb,e=>by
  match rows,ha,hb with
  |a0::b0::r,ha,hb=>
   have ih:=Ap g js r i j a b (by simpa using h) (by simpa[lG] using ha) (by simpa[lG] using hb) e;simp only[WW,jT];rw[ih];rfl
  |[a0],ha,hb=>simp[lG] at ha
  |[],ha,hb=>simp at ha
def o7 (g:Nat->Int->Int->Int×Int):∀rows:ly,jT g [] rows=rows
 |[]=>rfl
 |[_]=>rfl
 |_::_::_=>rfl
theorem gG (g:Nat->Int->Int->Int×Int):∀(js:ie) (rows:ly),(jT g js rows).length=rows.length
 |[],rows=>by rw[o7]
 |_::_,[]=>rfl
 |_::_,[_]=>rfl
 |j::js,a::b::r=>by simp[jT,gG g js r]
theorem nj (g:Nat->Int->Int->Int×Int):∀(js:ie) (rows:ly),(∀x∈rows,x.length=n)->∀x∈jT g js rows,x.length=n
 |[],rows,h=>by rw[o7];exact h
 |_::_,[],h=>h
 |_::_,[_],h=>h
 |j::js,a::b::r,h=>λx hx=>by
  have ih:=nj g js r λx m=>h x (by simp[m]);simp only[jT,bo] at hx;have ha:=h a (by simp);rcases hx with e|e|e
  .rw[e];simp[ha]
  .rw[e];simp[ha]
  .exact ih x e
structure FG (f:Form):Prop where
 b1:8<=f.bits
 b2:f.bits<=24
 c:f.cut<f.bits
 l:f.lanes=1\/f.lanes=4\/f.lanes=8\/f.lanes=16
 r1:1<=f.rows.length
 r4:f.rows.length<=4
 lS:∀r∈f.rows,lJ r
 jl:f.joint.length=f.rows.length / 2
 j3:∀j∈f.joint,j<=3
def XG (f:Form):N1 f=true↔FG f:=by
 unfold N1 BITS ROWS aaQ SO;have er:rightStage=λ(s:Stage)=>decide (1<=s.taps)&&(decide (s.taps<=16)&&(decide (1<=s.gain)&&(decide (s.gain<=1024)&&(decide (s.scale<=12)&&(!s.wide||(s.scale==0&&decide (s.taps<=8))))))):=rfl;rw[er];simp only[cM,decide_eq_true_eq,fz,beq_iff_eq,Wl,bo,JL,or_false,KU,Bool.not_eq_true'];constructor
 .rintro⟨h1,h2,h3,h4,h5,h6,h7,h8,h9⟩;refine⟨h1,h2,h3,h4,h5,h6,λr hr=>⟨(h7 r hr).1,(h7 r hr).2.1,λs hs=>?_⟩,h8,h9⟩;obtain⟨a1,a2,a3,a4,a5,a6⟩:=(h7 r hr).2.2 s hs;refine⟨a1,a2,a3,a4,a5,λhw=>?_⟩;rcases a6 with q|q
  .rw[hw] at q;cases q
  .exact q
 .rintro⟨h1,h2,h3,h4,h5,h6,h7,h8,h9⟩;refine⟨h1,h2,h3,h4,h5,h6,λr hr=>⟨(h7 r hr).fx,(h7 r hr).sn,λs hs=>?_⟩,h8,h9⟩;obtain⟨a1,a2,a3,a4,a5,a6⟩:=(h7 r hr).st s hs;refine⟨a1,a2,a3,a4,a5,?_⟩;cases hw:s.wide with
  |false=>exact .inl rfl
  |true=>exact .inr (a6 hw)
open LwBits LwSound
def kn (f:Form):Int:= -(2^(f.bits-1)) / 2^f.cut
def jO (f:Form):Int:=(2^(f.bits-1)-1) / 2^f.cut
def cutD (aS eps:bX)(x:Int):Int:=x-(sQ aS eps+4) / 8
def HC (f:Form)(aS eps:bX)(x:Int):Int:=
 let v:=(cutD aS eps x+2^f.cut / 2) / 2^f.cut;let m:=if v<jO f then v else jO f
 if m>kn f then m else kn f
def QY (f:Form)(aS eps:bX)(x:Int):Int:=held (HC f aS eps x*2^f.cut-cutD aS eps x) 2147483647
def VI {a b:Nat}(h:b<=a):(2:Int)^a=2^(a-b)*2^b:=by
 rw[<-Int.pow_add];congr 1;omega
def two_pos (n:Nat):(0:Int)<2^n:=Int.pow_pos (by decide)
def yO {a b:Nat}(h:a<=b):(2:Int)^a<=2^b:=by
 have:=j9 (n:=2) (by decide) h;have e:∀n:Nat,(2:Int)^n=((2^n:Nat):Int):=λn=>by simp
 rw[e,e];exact uk.mpr this
def ab2 (g:FG f):kn f=low f:=by
 unfold kn low;have h:f.cut<=f.bits-1:=by have:=g.c;omega
 rw[VI h,Int.neg_mul_eq_neg_mul,DB _ (UE (two_pos _))];simp
def abK (g:FG f):jO f=high f:=by
 unfold jO high;have:(1:Nat)<=2^(f.bits-1):=Fy;rw[nZ,L7 this];simp
def Pn (g:FG f):kn f<=jO f:=by
 unfold kn jO;refine Int.ediv_le_ediv (two_pos _) ?_;have:=two_pos (f.bits-1);lia
def IC (g:FG f): -(2^23)<=kn f/\jO f<2^23:=by
 have h23:(2:Int)^(f.bits-1)<=2^23:=yO (by have:=g.b2;omega);have hc:=two_pos f.cut;constructor
 .unfold kn;refine Int.le_ediv_of_mul_le hc ?_;have:(1:Int)<=2^f.cut:=by omega
  have h2:(2:Int)^23*1<=2^23*2^f.cut:=sI this (by decide);omega
 .unfold jO;refine Int.ediv_lt_of_lt_mul hc ?_;have:(1:Int)<=2^f.cut:=by omega
  have h2:(2:Int)^23*1<=2^23*2^f.cut:=sI this (by decide);omega
structure sE (f:Form)(eps:bX):Prop where
 len:eps.length=4
 zero:f.cut=0->∀e∈eps,e=0
theorem Ld:∀{w h:bX},(∀e∈h,e=0)->sQ w h=0
 |[],h,_=>by simp[sQ]
 |a::w,[],_=>by simp[sQ]
 |a::w,b::h,z=>by
  have e:sQ (a::w) (b::h)=a*b+sQ w h:=by simp[sQ]
  rw[e,Ld (w:=w) (h:=h) (λe m=>z e (aP _ m)),z b (aU ..)];simp
def agb (s e:bX)(hs:s.length=4)(he:e.length=4):((aK 4).map λ(j:Nat)=>s.getD j 0*e.getD j 0).foldl (λ(a b:Int)=>a+b) 0=sQ s e:=by
 have h:=tf (α:=Int) (λa b=>a*b) s e (hs.trans he.symm);rw[hs] at h;rw[h,foldl_add];unfold sQ;lia
def Cq:cB f x=true↔ -(2^(f.bits-1))<=x/\x<=2^(f.bits-1)-1:=by
 unfold cB;rw[cM,decide_eq_true_eq,decide_eq_true_eq];have e:((2^(f.bits-1):Nat):Int)=2^(f.bits-1):=by simp
 rw[e];lia
def Lb {eps:bX}(g:FG f)(hs:aS.length=4)(he:sE f eps)(hx:cB f x=true):
  zu f aS eps x=(HC f aS eps x,QY f aS eps x):=by
 obtain⟨x1,x2⟩:=Cq.mp hx;unfold zu;by_cases hc:f.cut=0
 .rw[aj hc];have z:=Ld (w:=aS) (he.zero hc);have ed:cutD aS eps x=x:=by unfold cutD;rw[z];lia
  have ey:HC f aS eps x=x:=by
   unfold HC kn jO;rw[ed,hc];simp only[Int.pow_zero,Int.ediv_one];have h1:(1:Int) / 2=0:=by decide
   rw[h1,Int.add_zero];by_cases a:x<2^(f.bits-1)-1
   .rw[aj a];by_cases b:x> -2^(f.bits-1)
    .rw[aj b]
    .rw[ah b];lia
   .rw[ah a];have:=two_pos (f.bits-1);rw[aj (by lia)];lia
  unfold QY;rw[ey,ed,hc];have h0:x*2^0-x=0:=by simp
  rw[h0];rfl
 .rw[ah hc,agb aS eps hs he.len];have ed:x-uS (sQ aS eps+4) 8=cutD aS eps x:=by
   unfold cutD;rw[cv _ (by decide)]
  have ep:((2^f.cut / 2:Nat):Int)=2^f.cut / 2:=by simp
  have ep2:((2^f.cut:Nat):Int)=2^f.cut:=by simp
  simp only[ed,ep,ep2,To,<-ab2 g,<-abK g];have hl:=Pn g;have ey:(if(cutD aS eps x+2^f.cut / 2) / 2^f.cut<kn f then kn f else if jO f<(cutD aS eps x+2^f.cut / 2) / 2^f.cut then jO f else(cutD aS eps x+2^f.cut / 2) / 2^f.cut)=HC f aS eps x:=by
   unfold HC;generalize(cutD aS eps x+2^f.cut / 2) / 2^f.cut=v;show _=if(if v<jO f then v else jO f)>kn f then(if v<jO f then v else jO f) else kn f
   by_cases a:v<jO f<;>by_cases b:v<kn f<;>simp[a,b]<;>lia
  rw[ey];rfl
def HE (g:FG f)(aS eps:bX)(x:Int):kn f<=HC f aS eps x/\HC f aS eps x<=jO f:=by
 unfold HC;have hl:=Pn g;generalize(cutD aS eps x+2^f.cut / 2) / 2^f.cut=v;show kn f<=(if(if v<jO f then v else jO f)>kn f then(if v<jO f then v else jO f) else kn f)/\(if(if v<jO f then v else jO f)>kn f then(if v<jO f then v else jO f) else kn f)<=jO f;by_cases a:v<jO f<;>by_cases b:v>kn f<;>simp[a,b]<;>(try split)<;>lia
def sE.next {eps:bX}(g:FG f)(hs:aS.length=4)(he:sE f eps)(hx:cB f x=true):sE f ((zu f aS eps x).2::eps.take 3):=by
 refine⟨by simp[he.len],λhc e hm=>?_⟩;rcases bo.mp hm with q|q
 .rw[q];unfold zu;rw[aj hc]
 .exact he.zero hc e (e_ q)
def sE.nil (f:Form):sE f [0,0,0,0]:=⟨Z,λ_ e h=>by simpa using h⟩
def Oz (f:Form)(aS eps xs:bX)(x:Int):
  zw f aS eps (xs++[x])=((zw f aS eps xs).1++[(zu f aS (zw f aS eps xs).2 x).1],(zu f aS (zw f aS eps xs).2 x).2::(zw f aS eps xs).2.take 3):=by
 unfold zw;rw[dB];rfl
def AX {eps:bX}(g:FG f)(hs:aS.length=4)(he:sE f eps)(xs:bX)(hx:∀x∈xs,cB f x=true):sE f (zw f aS eps xs).2:=by
 have:∀(xs:bX) (a:bX×List Int),(∀x∈xs,cB f x=true)->sE f a.2->sE f (xs.foldl (λ(a:bX×List Int) (x:Int)=>(a.1++[(zu f aS a.2 x).1],(zu f aS a.2 x).2::a.2.take 3)) a).2:=by
  intro xs;induction xs with
  |nil=>intro a _ h;exact h
  |cons x r ih=>intro a hx h;rw[bR];exact ih _ (λy m=>hx y (aP _ m)) (h.next g hs (hx x (aU ..)))
 exact this xs _ hx he
def qj (f:Form)(aS eps xs:bX):(zw f aS eps xs).1.length=xs.length:=by
 have:∀(xs:bX) (a:bX×List Int),(xs.foldl (λ(a:bX×List Int) (x:Int)=>(a.1++[(zu f aS a.2 x).1],(zu f aS a.2 x).2::a.2.take 3)) a).1.length=a.1.length+xs.length:=by
  intro xs;induction xs with
  |nil=>intro a;rfl
  |cons x r ih=>intro a;rw[bR,ih];simp;lia
 unfold zw;rw[this];simp
def B0 {eps:bX}(g:FG f)(hs:aS.length=4)(he:sE f eps)(xs:bX)(hx:∀x∈xs,cB f x=true):∀y∈(zw f aS eps xs).1,kn f<=y/\y<=jO f:=by
 have:∀(xs:bX) (a:bX×List Int),(∀x∈xs,cB f x=true)->sE f a.2->(∀y∈a.1,kn f<=y/\y<=jO f)->∀y∈(xs.foldl (λ(a:bX×List Int) (x:Int)=>(a.1++[(zu f aS a.2 x).1],(zu f aS a.2 x).2::a.2.take 3)) a).1,kn f<=y/\y<=jO f:=by
  intro xs;induction xs with
  |nil=>intro a _ _ h;exact h
  |cons x r ih=>
   intro a hx h hy;rw[bR];refine ih _ (λy m=>hx y (aP _ m)) (h.next g hs (hx x (aU ..))) λy hm=>?_;rcases c_.mp hm with q|q
   .exact hy y q
   .rw[gc.mp q,Lb g hs h (hx x (aU ..))];exact HE g _ _ _
 exact this xs _ hx he λy h=>by simp at h
open LwBits LwSound
structure Ab (m:Model):Prop where
 len:m.begins.length=64
 slow:m.slow=6
 seen:m.seen<=65535
 zero:m.begins[0]? =some 0
 inc:∀(i:Nat) (a b:Nat),m.begins[i]? =some a->m.begins[i+1]? =some b->a<b
 top:∀a∈m.begins,a<32768
def Ca (h:i<64):(even 64 6).begins[i]? =some (512*i):=by
 unfold even;simp only[aw,bD h,eX];congr 1;unfold ALL;lia
def Ab.even:Ab (even 64 6):=by
 refine⟨by simp[gi],Z,by simp[gi],Ca (by lia),λi a b ha hb=>?_,λa ha=>?_⟩
 .have h1:i+1<64:=by
   have:=(aN.mp hb).1;simpa[gi] using this
  rw[Ca (by lia)] at ha;rw[Ca h1] at hb;cases ha;cases hb;lia
 .obtain⟨i,hi⟩:=jZ ha;have h1:i<64:=by
   have:=(aN.mp hi).1;simpa[gi] using this
  rw[Ca h1] at hi;cases hi;lia
def jb (m:Model)(s i:Nat):Nat:=(m.begins.getD i 0*(2^m.rate-1)+(if i<=s then i else 32768-(64-i))) / 2^m.rate
def So (ok:Ab m){s:Nat}(hs:s<64):
  (m.saw s).begins=0::((aK s).map (λk=>jb m s (1+k))++(aK (63-s)).map (λk=>jb m s (s+1+k))):=by
 have hn:m.n=64:=ok.len;apply qd;intro i;unfold Model.saw;simp only[hn,ALL];rw[aw];by_cases hi:i<64
 .rw[bD hi]
  match i,hi with
  |0,_=>rfl
  |i+1,hi=>
   rw[QH];simp only[eX,Nat.add_one_ne_zero,if_false];by_cases h1:i<s
   .rw[jR (by simpa using h1),aw,bD h1];simp only[eX,jb];rw[UM 1 i]
   .rw[gK (by simpa using Nat.le_of_not_lt h1),aw,aB,j4,bD (by omega)];simp only[eX,jb];rw[uU,i5 (iY.mp h1)]
 .rw[ia (by simpa using hi)]
  symm
  rw[Option.map_none,ia];simp;omega
def GR (ok:Ab m){s:Nat}(hi:i<64):(m.saw s).begins[i]? =some (if i=0 then 0 else jb m s i):=by
 have hn:m.n=64:=ok.len;unfold Model.saw jb;simp only[hn,ALL];rw[aw,bD hi];rfl
def Ab.P9 (ok:Ab m):1<=m.rate/\m.rate<=6:=by
 unfold Model.rate;rw[ok.slow];exact⟨Nat.le_min.mpr ⟨by decide,jt ..⟩,fu ..⟩
def Ab.MQ (ok:Ab m)(i:Nat):m.begins.getD i 0<32768:=by
 rw[aG];cases h:m.begins[i]? with
 |none=>simp
 |some a=>exact ok.top a (az h)
def Ab.getD_some (ok:Ab m)(h:i<64):m.begins[i]? =some (m.begins.getD i 0):=by
 rw[aG];cases e:m.begins[i]? with
 |none=>exact absurd (List.getElem?_eq_none_iff.mp e) (by rw[ok.len];lia)
 |some a=>rfl
def Ab.saw (ok:Ab m){s:Nat}(hs:s<64):Ab (m.saw s):=by
 have iP:(m.saw s).begins.length=64:=by
  unfold Model.saw;show(List.map _ (aK m.n)).length=64;rw[aB,j4];exact ok.len
 have hr:=ok.P9;have hp:2<=2^m.rate:=by
  have:=j9 (n:=2) (by decide) hr.1;simpa using this
 have hT:∀i,i<63->(if i<=s then i else 32768-(64-i))+1<=(if i+1<=s then i+1 else 32768-(64-(i+1))):=λi hi=>by
  by_cases a:i+1<=s
  .rw[aj a,aj (iU a)];exact bq _
  .rw[ah a];by_cases b:i<=s
   .rw[aj b];exact(by decide+kernel:∀i:Nat,i<63->i+1<=32768-(64-(i+1))) i hi
   .rw[ah b];exact(by decide+kernel:∀i:Nat,i<63->32768-(64-i)+1<=32768-(64-(i+1))) i hi
 refine⟨iP,ok.slow,?_,by rw[GR ok (by lia)];rfl,λi a b ha hb=>?_,λa ha=>?_⟩
 .exact fu ..
 .have h1:i+1<64:=by
   exact iP ▸ (aN.mp hb).1
  rw[GR ok (by lia)] at ha;rw[GR ok h1] at hb;cases ha;cases hb;rw[ah (show¬i+1=0 by lia)];have hgt:=ok.inc i _ _ (ok.getD_some (by lia)) (ok.getD_some h1);have hTi:=hT i (Nat.lt_of_succ_lt_succ h1);have fA:(if i=0 then 0 else jb m s i)<=jb m s i:=by split;exact eT _;exact bq _
  refine jG fA ?_;unfold jb;generalize(if i<=s then i else 32768-(64-i))=T1 at hTi|-
  generalize(if i+1<=s then i+1 else 32768-(64-(i+1)))=T2 at hTi|-
  generalize m.begins.getD i 0=B1 at hgt|-
  generalize m.begins.getD (i+1) 0=B2 at hgt|-
  generalize 2^m.rate=R at hp|-
  have h2:B1*(R-1)+(R-1)<=B2*(R-1):=by
   have:=iJ (R-1) (show B1+1<=B2 from hgt);rw[K1,W6] at this;exact this
  have h3:B1*(R-1)+T1+R<=B2*(R-1)+T2:=by lia
  have h4:=Nat.div_le_div_right (c:=R) h3;rw[Nat.add_div_right _ (adw hp)] at h4;exact h4
 .obtain⟨i,hi⟩:=jZ ha;have h1:i<64:=by
   exact iP ▸ (aN.mp hi).1
  rw[GR ok h1] at hi;cases hi;split
  .lia
  .unfold jb;have hB:=ok.MQ i;have X1:(if i<=s then i else 32768-(64-i))<=32767:=by
    split
    .exact bt (cY h1) (by decide)
    .exact(by decide+kernel:∀i:Nat,i<64->32768-(64-i)<=32767) i h1
   generalize(if i<=s then i else 32768-(64-i))=T1 at X1|-
   generalize m.begins.getD i 0=B1 at hB|-
   generalize 2^m.rate=R at hp|-
   rw[Wq (adw hp)];have:=iJ (R-1) (show B1<=32767 from adv hB);have e:32768*R=32767*(R-1)+(32767+R):=by
    obtain⟨k,rfl⟩:∃k,R=k+1:=⟨R-1,(jH (iU hp)).symm⟩;rw[Fx];lia
   lia
def AV (m:Model):ie:=m.begins++[32768]
def Ol (ok:Ab m):(AV m).length=65:=by simp[AV,ok.len]
def Xk (ok:Ab m){s:Nat}(hs:s<=64):(AV m)[s]? =some (m.begin_ s):=by
 unfold AV Model.begin_ ALL;have hn:m.n=64:=ok.len;rw[hn];by_cases h:s<64
 .rw[aj h,jR (by rw[ok.len];exact h)];exact ok.getD_some h
 .rw[ah h,gK (by rw[ok.len];exact iY.mp h),ok.len,Ws hs];rfl
def Hs (ok:Ab m){s:Nat}(hs:s<64):m.begin_ s<m.begin_ (s+1):=by
 have hn:m.n=64:=ok.len;unfold Model.begin_ ALL;rw[hn,aj hs];by_cases h:s+1<64
 .rw[aj h];exact ok.inc s _ _ (ok.getD_some hs) (ok.getD_some h)
 .rw[ah h];exact ok.MQ s
def QQ (ok:Ab m):m.begin_ 0=0:=by
 have hn:m.n=64:=ok.len;unfold Model.begin_;rw[hn,aj (by decide),aG,ok.zero];rfl
def Hr (ok:Ab m){s:Nat}(hs:s<=64):m.begin_ s<=32768:=by
 have hn:m.n=64:=ok.len;unfold Model.begin_ ALL;rw[hn];split
 .exact cY (ok.MQ s)
 .lia
theorem vO (ok:Ab m):∀{d s:Nat},s+d<=64->m.begin_ s<=m.begin_ (s+d)
 |0,s,_=>bq _
 |d+1,s,h=>bt (vO ok (d:=d) (s:=s) (by lia)) (cY (Hs ok (s:=s+d) (by lia)))
def LO (ok:Ab m){s:Nat}(hs:s<64):0<m.share s/\m.share s<=32768:=by
 have h1:=Hs ok hs;exact⟨G6 h1,bt (lO ..) (Hr ok (s:=s+1) hs)⟩
def at_of (ok:Ab m){s k:Nat}(hs:s<64)(h1:m.begin_ s<=k)(h2:k<m.begin_ (s+1)):m.at_ k=s:=by
 have hn:m.n=64:=ok.len;unfold Model.at_;have low:∀i,i<=s->m.begins.getD i 0<=k:=λi hi=>by
  have e:=i5 hi;have:=vO ok (d:=s-i) (s:=i) (by rw[e];exact cY hs);rw[e] at this;unfold Model.begin_ at this h1;rw[hn,aj (jG hi hs),aj hs] at this;rw[hn,aj hs] at h1;exact bt this h1
 have hig:∀i,s<i->i<64->k<m.begins.getD i 0:=λi hi Ij=>by
  have e1:=i5 hi;have:=vO ok (d:=i-(s+1)) (s:=s+1) (by rw[e1];exact cY Ij);rw[e1] at this;have e:m.begin_ i=m.begins.getD i 0:=by unfold Model.begin_;rw[hn,aj Ij]
  rw[e] at this;exact bc h2 this
 have split:m.begins=m.begins.take (s+1)++m.begins.drop (s+1):=(qW _ _).symm;rw[split,List.filter_append];have f1:(m.begins.take (s+1)).filter (λb=>decide (b<=k))=m.begins.take (s+1):=by
  refine List.filter_eq_self.mpr λa ha=>?_;obtain⟨i,hi⟩:=jZ ha;have hl:=(aN.mp hi).1;rw[cN] at hl;have hl:=bc hl (fu ..);rw[wK hl] at hi;have:=low i (adv hl);rw[aG,hi] at this;exact ag this
 have f2:(m.begins.drop (s+1)).filter (λb=>decide (b<=k))=[]:=by
  refine List.filter_eq_nil_iff.mpr λa ha=>?_;obtain⟨i,hi⟩:=jZ ha;have hl:=(aN.mp hi).1;rw[dY,ok.len] at hl;rw[aan] at hi;have:=hig (s+1+i) (jt ..) (Wo hl);rw[aG,hi] at this;simp at this|-
  exact this
 rw[f1,f2,fX,cN,ok.len,f9 hs];rfl
def abj (ok:Ab m){k:Nat}(hk:k<32768):∃s,s<64/\m.begin_ s<=k/\k<m.begin_ (s+1):=by
 have:∀n,n<=64->k<m.begin_ n->∃s,s<n/\m.begin_ s<=k/\k<m.begin_ (s+1):=by
  intro n;induction n with
  |zero=>intro _ h;rw[QQ ok] at h;lia
  |succ n ih=>
   intro h1 h2;by_cases h:k<m.begin_ n
   .obtain⟨s,a,b,c⟩:=ih (by lia) h;exact⟨s,by lia,b,c⟩
   .exact⟨n,by lia,by lia,h2⟩
 have e:m.begin_ 64=32768:=by
  have hn:m.n=64:=ok.len;unfold Model.begin_ ALL;rw[hn,ah (by decide)]
 exact this 64 (bq _) (by rw[e];exact hk)
def Tb (ok:Ab m){k:Nat}(hk:k<32768):m.at_ k<64/\m.begin_ (m.at_ k)<=k/\k<m.begin_ (m.at_ k+1):=by
 obtain⟨s,a,b,c⟩:=abj ok hk;have e:=at_of ok a b c;rw[e];exact⟨a,b,c⟩
def oJ (ms:BG):Prop:=∀m∈ms,Ab m
def N7 (n:Nat):Item->Prop
 |.sym m s=>m<n/\s<64
 |.plain b v=>1<=b/\b<=15/\v<2^b
def yM (ms:BG)(it:Item):(aaO ms it).length=ms.length:=by
 cases it<;>simp[aaO]
def qw (l:List Item):∀ms:BG,(BI ms l).length=ms.length:=by
 induction l with
 |nil=>intro ms;rfl
 |cons a r ih=>intro ms;show(BI (aaO ms a) r).length=_;rw[ih,yM]
def oJ.item {ms:BG}(h:oJ ms){it:Item}(hi:N7 ms.length it):oJ (aaO ms it):=by
 cases it with
 |plain b n=>exact h
 |sym m s=>
  intro x hx;obtain⟨i,Ij⟩:=jZ hx;have Ij:(ms.modify m λ(x:Model)=>x.saw s)[i]? =some x:=Ij;rw[rX] at Ij;cases e:ms[i]? with
  |none=>rw[e] at Ij;simp at Ij
  |some y=>
   rw[e] at Ij;have hy:=h y (az e);have hi2:(if m=i then y.saw s else y)=x:=bh Ij;by_cases q:m=i
   .rw[aj q] at hi2;rw[<-hi2];exact hy.saw hi.2
   .rw[ah q] at hi2;rw[<-hi2];exact hy
def oJ.all (l:List Item):∀{ms:BG},ms.length=n->oJ ms->(∀it∈l,N7 n it)->oJ (BI ms l):=by
 induction l with
 |nil=>intro ms _ h _;exact h
 |cons a r ih=>
  intro ms hn h hi;show oJ (BI (aaO ms a) r);exact ih (by rw[yM];exact hn) (h.item (by rw[hn];exact hi a (aU ..))) λit m=>hi it (aP _ m)
def waitOf (l:List Item):List (Nat×Nat):=l.filterMap λ
 |.sym m s=>some (m,s)
 |.plain _ _=>none
def Fi (l:List Item):∀ms:BG,BI ms l=(waitOf l).foldl (λ(ms:BG) (p:Nat×Nat)=>ms.modify p.1 λ(x:Model)=>x.saw p.2) ms:=by
 induction l with
 |nil=>intro ms;rfl
 |cons a r ih=>
  intro ms;cases a with
  |sym m s=>
   show BI (ms.modify m λ(x:Model)=>x.saw s) r=_;rw[ih];rfl
  |plain b n=>
   show BI ms r=_;rw[ih];rfl
structure xh where
 ms:BG
 gr:List Item
 out:List (Nat×Nat)
def kq (n:Nat)(a:xh)(it:Item):xh:=
 if(a.gr++[it]).length=n then⟨BI a.ms (a.gr++[it]),[],a.out++[it.share a.ms]⟩ else⟨a.ms,a.gr++[it],a.out++[it.share a.ms]⟩
def VJ (t:List Item):∀(a:xh),a.gr.length+t.length<=n->t≠[]->t.foldl (kq n) a=
  if a.gr.length+t.length=n then⟨BI a.ms (a.gr++t),[],a.out++t.map (Item.share a.ms)⟩ else⟨a.ms,a.gr++t,a.out++t.map (Item.share a.ms)⟩:=by
 induction t with
 |nil=>intro a _ h;exact absurd rfl h
 |cons x r ih=>
  intro a hl _;rw[bR];by_cases hr:r=[]
  .subst hr;simp only[By,cz,yU];unfold kq;rw[aO]
   try rfl
  .have rS:0<r.length:=WV.mpr hr;rw[aZ] at hl;have e:kq n a x=⟨a.ms,a.gr++[x],a.out++[x.share a.ms]⟩:=by
    unfold kq;rw[ah (by rw[aO];simp;lia)]
   rw[e,ih _ (by simp;lia) hr];simp only[aO,aZ,dW,cD,xw,tF,cz];rw[show a.gr.length+(0+1)+r.length=a.gr.length+(r.length+1) by lia]
def Sr (hn:1<=n):∀(f:Nat) (ms:BG) (l:List Item) (qH:List (Nat×Nat)),l.length<f->(l.foldl (kq n) ⟨ms,[],qH⟩).out=qH++Uu n f ms l:=by
 intro f;induction f with
 |zero=>intro ms l qH h;lia
 |succ f ih=>
  intro ms l qH h;by_cases hl:l=[]
  .subst hl;simp[Uu]
  .have hs:l.foldl (kq n) ⟨ms,[],qH⟩=(l.drop n).foldl (kq n) ((l.take n).foldl (kq n) ⟨ms,[],qH⟩):=by
    rw[<-dB,qW]
   have rS:0<l.length:=WV.mpr hl;have ht:l.take n≠[]:=λe=>by
    have h0:=congrArg lA e;rw[cN,dW] at h0;lia
   rw[hs,VJ (l.take n) ⟨ms,[],qH⟩ (by simp;lia) ht];simp only[Uu,ah hl,dW,UP,tF];by_cases hf:(l.take n).length=n
   .rw[aj hf,ih _ _ _ (by rw[dY];lia),cD]
   .rw[ah hf];have:l.drop n=[]:=by
     rw[cN] at hf;exact yT (by lia)
    rw[this];have e0:∀f ms,Uu n f ms []=[]:=λf ms=>by cases f<;>simp[Uu]
    rw[e0];simp
def VQ (hn:1<=n)(ms:BG)(l:List Item):shares n ms l=(l.foldl (kq n) ⟨ms,[],[]⟩).out:=by
 rw[Sr hn (l.length+1) ms l [] (by lia)];rfl
def KN (f cW n:Nat)(h:cW≠0):BH (f+1) cW n=.plain (min 15 cW) (n%2^min 15 cW)::BH f (cW-min 15 cW) (n / 2^min 15 cW):=by
 show(if cW=0 then[] else if cW<=15 then[.plain cW (n%2^cW)] else .plain 15 (n%32768)::BH f (cW-15) (n / 32768))=_;rw[ah h];by_cases hb:cW<=15
 .rw[aj hb,k_ hb,lP];cases f<;>simp[BH]
 .rw[ah hb,f9 (by lia)]
def Gi (f n:Nat):BH f 0 n=[]:=by cases f<;>simp[BH]
def YH (h:n≠0):n%2^n.log2=n-2^n.log2:=by
 have h1:=aeN h;have h2:n<2^(n.log2+1):=Nat.lt_log2_self;rw[amA] at h2;rw[Nat.mod_eq_sub_mod h1,n9 (by omega)]
def Nr {l:List (Nat×Nat)}{b s:Nat}(h:l[i]? =some (b,s)):Gq n i (l.drop i)=
  ((Gq n (i+1) (l.drop (i+1))).1.set (i%n) (push ((Gq n (i+1) (l.drop (i+1))).1.getD (i%n) 0) b s).2,(push ((Gq n (i+1) (l.drop (i+1))).1.getD (i%n) 0) b s).1.toList++(Gq n (i+1) (l.drop (i+1))).2):=by
 have e:l.drop i=(b,s)::l.drop (i+1):=by
  rw[cT (aN.mp h).1];obtain⟨h1,h2⟩:=aN.mp h;rw[h2]
 rw[e];rfl
def Ff {l:List (Nat×Nat)}:Gq n l.length (l.drop l.length)=(aM n LOW,[]):=by
 rw[rn];rfl
theorem t6:∀(l:List (Nat×Nat)) (i:Nat),(Gq n i l).1.length=n
 |[],i=>by simp[Gq]
 |(b,s)::r,i=>by
  show(ag7 _ _ _).length=n;rw[fc];exact t6 r (i+1)
theorem zd:∀(w n:Nat),(le w n).length=w
 |0,_=>rfl
 |w+1,n=>by simp[le,zd w]
theorem YA:∀(w n i:Nat),i<w->(le w n)[i]? =some (AQ (n / 2^(8*i)%256))
 |0,_,_,h=>by lia
 |w+1,n,0,_=>by simp[le]
 |w+1,n,i+1,h=>by
  show(le w (n / 256))[i]? =_;rw[YA w (n / 256) i (by lia),UN,show 2^(8*(i+1))=256*2^(8*i) by rw[lG,wL];lia]
def br (b:rH):bX:=b.map λ(c:UInt8)=>(c.toNat:Int)
def bP (a b:rH):br (a++b)=br a++br b:=by simp[br]
def eA (a:rH):(br a).length=a.length:=by simp[br]
def ab1 (w n:Nat):br (le w n)=(aK w).map λi=>((n / 2^(8*i)%256:Nat):Int):=by
 apply qd;intro i;unfold br;rw[aw,aw];by_cases h:i<w
 .rw[YA _ _ _ h,bD h];simp
 .rw[ia (by rw[zd];lia),ia (by simpa using h)];rfl
def xQ (b:rH):∀x∈br b,0<=x/\x<=255:=λx hx=>by
 obtain⟨c,_,e⟩:=bj.mp hx;have:=c.toNat_lt;rw[<-e];constructor
 .exact jF _
 .have h2:c.toNat<=255:=by lia
  exact uk.mpr h2
open LwBits LwSound
def mf (f:Nat)(r:iF):qL f 0 r=some (0,r):=by cases f<;>simp[qL]
theorem yI:∀(f f' cW:Nat) (r:iF),cW<=15*f->cW<=15*f'->qL f cW r=qL f' cW r
 |0,f',cW,r,h,_=>by
  have:cW=0:=by lia
  subst this;rw[mf,mf]
 |f+1,0,cW,r,_,h=>by
  have:cW=0:=by lia
  subst this;rw[mf,mf]
 |f+1,f'+1,cW,r,h,h'=>by
  unfold qL;by_cases hb:cW=0
  .rw[aj hb,aj hb]
  .rw[ah hb,ah hb];have ih:∀u,qL f (cW-min 15 cW) u=qL f' (cW-min 15 cW) u:=λu=>yI f f' _ u (pD h) (pD h');simp only[ih]
def pq (iW done cW:Nat)(r:iF):Option (Nat×iF):=(qL 8 (cW-done) r).map λ(y:Nat×iF)=>(iW+2^done*y.1-1,y.2)
def Qb {iW done cW:Nat}{r:iF}(h:cW<=done):pq iW done cW r=some (iW-1,r):=by
 unfold pq;rw[show cW-done=0 by lia,mf];simp
def Nw {iW done cW:Nat}{r:iF}(h:done<cW)(hb:cW<=64):pq iW done cW r=
  (r.next (.plain (min 15 (cW-done)))).bind λ(x:Item×iF)=>pq (iW+aaP x.1*2^done) (done+min 15 (cW-done)) cW x.2:=by
 unfold pq;rw[yI 8 9 (cW-done) r (by lia) (by lia)];show((if cW-done=0 then some (0,r) else(r.next (.plain (min 15 (cW-done)))).bind λ(x:Item×iF)=>(qL 8 (cW-done-min 15 (cW-done)) x.2).map λ(y:Nat×iF)=>(aaP x.1+2^min 15 (cW-done)*y.1,y.2)).map _)=_;rw[ah (by lia)];cases r.next (.plain (min 15 (cW-done))) with
 |none=>rfl
 |some x=>
  rw[m5,m5,show cW-(done+min 15 (cW-done))=cW-done-min 15 (cW-done) by lia];cases qL 8 (cW-done-min 15 (cW-done)) x.2 with
  |none=>rfl
  |some y=>
   simp only[eX];congr 2;rw[lG,wL,ak6,jk (2^done) (aaP x.1)];lia
def Gk (r:iF)(m:Nat):w8 r m=(r.next (.sym m)).bind λ(x:Item×iF)=>pq (2^aaP x.1) 0 (aaP x.1) x.2:=by
 unfold w8 pq;simp
structure ROk (n:Nat)(r:iF):Prop where
 ln:r.lanes=n
 n1:1<=n
 st:r.states.length=n
 gr:r.group.length<n
 ml:oJ r.models
 go:∀it∈r.group,N7 r.models.length it
def Ay (r:iF)(it:Item):Nat:=pop (r.states.getD r.group.length 0) (it.share r.models).1 (it.share r.models).2
def pass (r:iF)(it:Item)(y:Nat)(words:ie):iF:=
 {r with states:=r.states.set r.group.length y,words:=words,models:=if(r.group++[it]).length=r.lanes then BI r.models (r.group++[it]) else r.models,group:=if(r.group++[it]).length=r.lanes then[] else r.group++[it]}
def Na (r:iF)(w:Want):r.next w=(let it:=w.item r.models (r.states.getD r.group.length 0%32768)
  if 65536<=Ay r it then some (it,pass r it (Ay r it) r.words) else match r.words with
   |[]=>none
   |u::t=>some (it,pass r it (Ay r it*65536+u) t)):=rfl
def acb {r:iF}(ok:ROk n r){it:Item}(hi:N7 r.models.length it)(y:Nat)(words:ie):ROk n (pass r it y words)/\(pass r it y words).models.length=r.models.length:=by
 have oG:∀x∈r.group++[it],N7 r.models.length x:=λx hx=>by
  rcases c_.mp hx with q|q
  .exact ok.go x q
  .rw[gc.mp q];exact hi
 by_cases hf:(r.group++[it]).length=r.lanes
 .have em:(pass r it y words).models=BI r.models (r.group++[it]):=by unfold pass;simp only[aj hf]
  have eg:(pass r it y words).group=[]:=by unfold pass;simp only[aj hf]
  refine⟨⟨ok.ln,ok.n1,by show(ag7 _ _ _).length=n;rw[fc];exact ok.st,by rw[eg];exact ok.n1,by rw[em];exact oJ.all _ rfl ok.ml oG,by rw[eg];intro x hx;simp at hx⟩,by rw[em,qw]⟩
 .have em:(pass r it y words).models=r.models:=by unfold pass;simp only[ah hf]
  have eg:(pass r it y words).group=r.group++[it]:=by unfold pass;simp only[ah hf]
  have hl:=ok.gr;rw[aO,ok.ln] at hf;simp only[aZ,dW] at hf;refine⟨⟨ok.ln,ok.n1,by show(ag7 _ _ _).length=n;rw[fc];exact ok.st,by rw[eg,aO,aZ,dW];lia,by rw[em];exact ok.ml,by rw[em,eg];exact oG⟩,by rw[em]⟩
def Fn {r:iF}(ml:oJ r.models){m:Nat}{x:Model}(h:r.models[m]? =some x)(k:Nat)(hk:k<32768):Want.item r.models k (.sym m)=.sym m (x.at_ k)/\N7 r.models.length (.sym m (x.at_ k)):=by
 refine⟨?_,(aN.mp h).1,(Tb (ml x (az h)) hk).1⟩;show Item.sym m (match r.models[m]? with|some x=>x.at_ k|none=>0)=_;rw[h]
def AD {ms:BG}{b k:Nat}(h1:1<=b)(h2:b<=15)(hk:k<32768):Want.item ms k (.plain b)=.plain b (k / 2^(15-b))/\N7 ms.length (.plain b (k / 2^(15-b))):=by
 refine⟨Z,h1,h2,?_⟩;rw[Wq (pE _),<-wL,show b+(15-b)=15 by omega];exact hk
def readChunk (uE rows r:Nat):ie->iF->Except Bad (ie×iF)
 |[],rd=>.ok ([],rd)
 |t::ts,rd=>match w8 rd uE with
  |none=>.error .short
  |some (z,u)=>if MOST<z then .error (.large (t*rows+r)) else match readChunk uE rows r ts u with
   |.error e=>.error e
   |.ok (l,v)=>.ok (z::l,v)
theorem vk {uE rows r:Nat}:∀{ts:ie} {rd:iF} {l:ie} {v:iF},readChunk uE rows r ts rd=.ok (l,v)->l.length=ts.length
 |[],rd,l,v,h=>by
  simp only[readChunk,Wg,adz] at h;rw[<-h.1]
 |t::ts,rd,l,v,h=>by
  unfold readChunk at h;cases e:w8 rd uE with
  |none=>rw[e] at h;cases h
  |some p=>
   obtain⟨z,u⟩:=p;rw[e] at h;simp only at h;by_cases hz:MOST<z
   .rw[aj hz] at h;cases h
   .rw[ah hz] at h;cases e2:readChunk uE rows r ts u with
    |error x=>rw[e2] at h;cases h
    |ok q=>
     obtain⟨l',v'⟩:=q;rw[e2] at h;simp only[Wg,adz] at h;rw[<-h.1,aZ,aZ,vk e2]
def Mh {zs:List (ie)}{k r:Nat}{l:ie}(h:16*(k+1)<=(zs.getD r []).length):JI (zs.set r (zs.getD r []++l)) k r=JI zs k r:=by
 unfold JI;by_cases hr:r<zs.length
 .have e:(zs.set r (zs.getD r []++l)).getD r []=zs.getD r []++l:=by
   rw[aG,eF hr];rfl
  rw[e,List.drop_append,List.take_append,dY];have:16-((zs.getD r []).length-16*k)=0:=Ws (Nat.le_sub_of_add_le' h);rw[this,NT,fX]
 .rw[List.set_eq_of_length_le (by omega)]
def Ox {zs:List (ie)}{k r r':Nat}{x:ie}(h:r'≠r):JI (zs.set r' x) k r=JI zs k r:=by
 unfold JI;rw[aG,iE h,<-aG]
def acv {zs:List (ie)}{r:Nat}(hr:r<zs.length)(a b:ie):(zs.set r (zs.getD r []++a)).set r ((zs.set r (zs.getD r []++a)).getD r []++b)=zs.set r (zs.getD r []++(a++b)):=by
 have e:(zs.set r (zs.getD r []++a)).getD r []=zs.getD r []++a:=by
  rw[aG,eF hr];rfl
 rw[e,List.set_set,cD]
def set_nil {zs:List (ie)}{r:Nat}(hr:r<zs.length):zs.set r (zs.getD r []++[])=zs:=by
 apply qd;intro i;by_cases h:i=r
 .subst h;rw[eF hr,fX,aG,aD hr];rfl
 .rw[iE (eP h)]
def Gm (rows r t:Nat)(l:List (Nat×Nat))(rd:iF)(zs:List (ie)):w9 rows ((r,t)::l) rd zs=
  match w8 rd (modelOf r (if t / 16=0 then[] else JI zs (t / 16-1) r)) with
  |none=>.error .short
  |some (z,u)=>if MOST<z then .error (.large (t*rows+r)) else w9 rows l u (zs.set r (zs.getD r []++[z])):=rfl
def tj (uE rows r t:Nat)(ts:ie)(rd:iF):readChunk uE rows r (t::ts) rd=
  match w8 rd uE with
  |none=>.error .short
  |some (z,u)=>if MOST<z then .error (.large (t*rows+r)) else match readChunk uE rows r ts u with
   |.error e=>.error e
   |.ok (l,v)=>.ok (z::l,v):=rfl
theorem vm {rows r k:Nat}(rest:List (Nat×Nat)):∀(ts:ie) (rd:iF) (zs:List (ie)),(∀t∈ts,t / 16=k)->r<zs.length->16*k<=(zs.getD r []).length->
  w9 rows (ts.map (λt=>(r,t))++rest) rd zs=match readChunk (modelOf r (if k=0 then[] else JI zs (k-1) r)) rows r ts rd with
   |.error e=>.error e
   |.ok (l,v)=>w9 rows rest v (zs.set r (zs.getD r []++l))
 |[],rd,zs,_,hr,_=>by
  simp only[readChunk,yU,tF];rw[set_nil hr]
 |t::ts,rd,zs,hk,hr,hl=>by
  have ht:t / 16=k:=hk t (aU ..);rw[cz,xw,Gm,tj];simp only[ht];cases e:w8 rd (modelOf r (if k=0 then[] else JI zs (k-1) r)) with
  |none=>rfl
  |some p=>
   obtain⟨z,u⟩:=p;simp only;by_cases hz:MOST<z
   .rw[aj hz,aj hz]
   .rw[ah hz,ah hz];have WG:r<(zs.set r (zs.getD r []++[z])).length:=by rw[fc];exact hr
    have eg:(zs.set r (zs.getD r []++[z])).getD r []=zs.getD r []++[z]:=by
     rw[aG,eF hr];rfl
    rw[vm rest ts u (zs.set r (zs.getD r []++[z])) (λt m=>hk t (aP _ m)) WG (by rw[eg,aO];lia)];have ec:(if k=0 then[] else JI (zs.set r (zs.getD r []++[z])) (k-1) r)=(if k=0 then[] else JI zs (k-1) r):=by
     by_cases h0:k=0
     .rw[aj h0,aj h0]
     .rw[ah h0,ah h0,Mh (by lia)]
    rw[ec];cases readChunk (modelOf r (if k=0 then[] else JI zs (k-1) r)) rows r ts u with
    |error x=>rfl
    |ok q=>
     obtain⟨l,v⟩:=q;simp only;rw[acv hr];rfl
def NF (ke k r:Nat):List (Nat×Nat):=(aK (min 16 (ke-16*k))).map λ(i:Nat)=>(r,16*k+i)
def ZH (rows ke k:Nat):List (Nat×Nat):=(aK rows).flatMap λ(r:Nat)=>NF ke k r
def ZI (rows ke:Nat):spots rows ke=(aK ((ke+15) / 16)).flatMap λ(k:Nat)=>ZH rows ke k:=rfl
def vU (h:i<n):(aK n).drop i=i::(aK n).drop (i+1):=by
 rw[cT (by simpa using h)];simp
def nU (ke k:Nat):ie:=(aK (min 16 (ke-16*k))).map λi=>16*k+i
def VY (ke k r:Nat):NF ke k r=(nU ke k).map λt=>(r,t):=by
 unfold NF nU;rw[jg];rfl
def V4 {ke k:Nat}:∀t∈nU ke k,t / 16=k:=λt ht=>by
 obtain⟨i,hi,e⟩:=bj.mp ht;have:=bc (cb.mp hi) (fu ..);rw[<-e,L9 (by decide),xI this];rfl
def find_some {q:Nat->Bool}(hp:p<n)(h:q p=true)(hb:∀i,i<p->q i=false):(aK n).find? q=some p:=by
 rw[List.find?_eq_some_iff_append];refine⟨h,(aK n).take p,(aK n).drop (p+1),?_,λa ha=>?_⟩
 .rw[<-vU hp,qW]
 .obtain⟨i,hi⟩:=jZ ha;have hl:=(aN.mp hi).1;rw[cN,j4] at hl;rw[wK (by lia),bD (by lia)] at hi;have ei:i=a:=bh hi;rw[<-ei,hb i (by lia)];rfl
def find_none {q:Nat->Bool}(hb:∀i,i<n->q i=false):(aK n).find? q=none:=by
 rw[Et];intro x hx;rw[hb x (cb.mp hx)];decide
open LwBits LwSound
def abb:Nat:=0x82F63B78
def crcStep (c:Nat):Nat:=fE (c / 2) (if c%2=1 then abb else 0)
def ig:Nat->Nat->Nat
 |0,c=>c
 |n+1,c=>ig n (crcStep c)
def Ag (n:Nat):∀c,ig (n+1) c=crcStep (ig n c):=by
 induction n with
 |zero=>intro c;rfl
 |succ n ih=>intro c;show ig (n+1) (crcStep c)=_;rw[ih];rfl
def Z6 (a b:Nat):fE a b / 2=fE (a / 2) (b / 2):=by
 show(a^^^b) / 2=(a / 2)^^^(b / 2);have:=Nat.shiftRight_xor_distrib (a:=a) (b:=b) (i:=1);simpa[Nat.shiftRight_eq_div_pow] using this
def Z7 (a b:Nat):fE a b%2=(a%2+b%2)%2:=by
 show(a^^^b)%2=_;have h:=ahc a b 0;rw[xJ,xJ,xJ] at h;rcases gN a with h1|h1<;>rcases gN b with h2|h2<;>rcases gN (a^^^b) with h3|h3<;>simp[h1,h2,h3] at h|-
def xor_assoc (a b c:Nat):fE (fE a b) c=fE a (fE b c):=Nat.xor_assoc a b c
def xor_comm (a b:Nat):fE a b=fE b a:=Nat.xor_comm a b
def Xr (c b:Nat):∀n:Nat,ig n (fE c b)=fE ((aK n).foldl (λ(c i:Nat)=>aaR c (b.testBit i)) c) (b / 2^n):=by
 intro n;induction n with
 |zero=>simp[ig]
 |succ n ih=>
  rw[Ag,ih,de,dB];generalize(aK n).foldl (λ(c i:Nat)=>aaR c (b.testBit i)) c=s;simp only[bR,By];unfold crcStep aaR;rw[Z6,Z7,UN,<-amA];have hb:b.testBit n=decide (b / 2^n%2=1):=by rw[Nat.testBit_eq_decide_div_mod_eq]
  rw[hb,xJ];have hx:∀a b c:Nat,fE (fE a b) c=fE (fE a c) b:=λa b c=>by rw[xor_assoc,xor_assoc,xor_comm b c]
  have h0:∀a:Nat,fE a 0=a:=λa=>amB a;rcases gN s with h1|h1<;>rcases gN (b / 2^n) with h2|h2
  .simp[h1,h2,h0]
  .simp[h1,h2,abb];exact hx _ _ _
  .simp[h1,h2,abb];exact hx _ _ _
  .simp[h1,h2,h0]
def QX {b:Nat}(hb:b<256):aaS c b=ig 8 (fE c b):=by
 rw[Xr];have:b / 2^8=0:=xI hb;rw[this];exact(amB _).symm
def U6 (h:c<2^32)(b:Bool):aaR c b<2^32:=by
 unfold aaR;split
 .exact Nat.xor_lt_two_pow (by lia) (by decide)
 .lia
def QW (h:c<2^32)(b:Nat):aaS c b<2^32:=by
 unfold aaS;have:∀(l:ie) (c:Nat),c<2^32->l.foldl (λ(c i:Nat)=>aaR c (b.testBit i)) c<2^32:=by
  intro l;induction l with
  |nil=>intro c h;exact h
  |cons a r ih=>intro c h;rw[bR];exact ih _ (U6 h _)
 exact this _ _ h
theorem Hy:∀(l:ie) {c:Nat},c<2^32->l.foldl aaS c<2^32
 |[],_,h=>h
 |a::r,c,h=>Hy r (QW h a)
def V8 (h:c<2^32):turned c=fE c 4294967295:=by
 unfold turned;show 2^32-1-c=c^^^4294967295;apply Nat.eq_of_testBit_eq;intro i;rw[ahc];have e:2^32-1-c=2^32-(c+1):=by lia
 rw[e,Nat.testBit_two_pow_sub_succ h,show(4294967295:Nat)=2^32-1 from rfl,Nat.testBit_two_pow_sub_one];by_cases hi:i<32
 .simp[hi]
 .have:c.testBit i=false:=Nat.testBit_lt_two_pow (bc h (j9 (by decide) (by lia)));simp[hi,this]
def pN (l:ie):Nat:=fE (l.foldl (λc b=>ig 8 (fE c b)) 4294967295) 4294967295
theorem Hz:∀(l:ie) (c:Nat),(∀b∈l,b<256)->l.foldl aaS c=l.foldl (λc b=>ig 8 (fE c b)) c
 |[],_,_=>rfl
 |a::r,c,h=>by
  rw[bR,bR,QX (h a (aU ..)),Hz r _ λb m=>h b (aP _ m)]
def Xs (l:ie)(h:∀b∈l,b<256):crc 0 l=pN l:=by
 unfold crc pN;have e:turned 0=4294967295:=rfl;rw[e,V8 (Hy l (by decide)),Hz l _ h]
def numAt (bQ:bX)(p w:Nat):Int:=(aK (w-1)).foldl (λa k=>a+bQ.getD (p+(1+k)) 0*2^(8*(1+k))) (bQ.getD p 0)
def VC (l:rH)(x:UInt8):ofLe (l++[x])=ofLe l+2^(8*l.length)*x.toNat:=by
 induction l with
 |nil=>simp[ofLe]
 |cons a r ih=>
  show a.toNat+256*ofLe (r++[x])=a.toNat+256*ofLe r+_;rw[ih,lG,aZ,lG,wL];have:256*(2^(8*r.length)*x.toNat)=2^(8*r.length)*2^(8*1)*x.toNat:=by
   rw[show(2:Nat)^(8*1)=256 from rfl,jk (2^(8*r.length)) 256,ak6]
  lia
def BX (b:rH)(p:Nat):(br b).getD p 0=((at_ b p:Nat):Int):=by
 unfold br at_;rw[aG,aw];cases b[p]? <;>rfl
def qF (b:rH)(p:Nat):∀w:Nat,p+(w+1)<=b.length->numAt (br b) p (w+1)=((ofLe ((b.drop p).take (w+1)):Nat):Int):=by
 intro w;induction w with
 |zero=>
  intro h;have hp:p<b.length:=by lia
  unfold numAt;simp only[UP,lP,List.range_zero,By];rw[BX,cT hp];show _=(((b[p]).toNat+256*0:Nat):Int);unfold at_;rw[aD hp];rfl
 |succ w ih=>
  intro h;have ih:=ih (by lia);have hp:p+(w+1)<b.length:=by lia
  unfold numAt at ih|-
  rw[show w+1+1-1=w+1 from rfl,de,dB];rw[show w+1-1=w from rfl] at ih;rw[ih];simp only[bR,By];have e:(b.drop p).take (w+1+1)=(b.drop p).take (w+1)++[b[p+(w+1)]]:=by
   rw[take_snoc (x:=b[p+(w+1)])];rw[aan,aD hp]
  rw[e,VC,cN,dY,BX,show min (w+1) (b.length-p)=1+w by lia];have ea:at_ b (p+(1+w))=(b[p+(w+1)]).toNat:=by
   unfold at_;rw[show p+(1+w)=p+(w+1) by lia,aD hp];rfl
  rw[ea];simp only[fq,gY,z_];rw[UD];rfl
def Bu (bQ:bX)(ab:Bool)(w p:Nat):Except Nat (Int×Nat):=
 if p+(if ab=true then w else 1)>bQ.length then .error bQ.length else .ok (numAt bQ p (if ab=true then w else 1),p+(if ab=true then w else 1))
def jV (bQ:bX)(ab:Bool)(w:Nat)(lo hi:Int)(p:Nat):Except Nat (Int×Nat):=match Bu bQ ab w p with
 |.error e=>.error e
 |.ok (n,q)=>if n<lo\/hi<n then .error p else .ok (n,q)
def Bv (bQ:bX)(ab:Bool)(w:Nat)(cs:bX)(p:Nat):Except Nat (Int×Nat):=match Bu bQ ab w p with
 |.error e=>.error e
 |.ok (n,q)=>if n∈cs then .ok (n,q) else .error p
def bd {α β:Type}(e:Except Nat (α×Nat))(k:α->Nat->Except Nat β):Except Nat β:=match e with
 |.error x=>.error x
 |.ok (a,c)=>k a c
def BC {α β:Type}{e:Except Nat (α×Nat)}{k:α->Nat->Except Nat β}{x:Nat}(h:e=.error x):bd e k=.error x:=by rw[h];rfl
def Af {α β:Type}{e:Except Nat (α×Nat)}{k:α->Nat->Except Nat β}{a:α}(h:e=.ok (a,c)):bd e k=k a c:=by rw[h];rfl
def bdA {α β γ:Type}(e:Except Nat (α×Nat))(k:α->Nat->Except Nat (β×Nat))(m:β->Nat->Except Nat γ):bd (bd e k) m=bd e λa c=>bd (k a c) m:=by
 cases e<;>rfl
inductive Mo {α β:Type}(e:Except Nat (α×Nat))(k:α->Nat->Except Nat β)(x:β):Prop|i(a:α)(c:Nat)(_:e=.ok (a,c))(_:k a c=.ok x)
def GK {α β:Type}{e:Except Nat (α×Nat)}{k:α->Nat->Except Nat β}{x:β}(h:bd e k=.ok x):Mo e k x:=by
 cases e with
 |error y=>cases h
 |ok v=>exact⟨v.1,v.2,Z,h⟩
inductive Me {α β:Type}(e:Except Nat (α×Nat))(k:α->Nat->Except Nat β)(x:Nat):Prop|inl(y:Nat)(_:e=.error y)|inr (a:α) (c:Nat)(_:e=.ok (a,c))(_:k a c=.error x)
def YG {α β:Type}{e:Except Nat (α×Nat)}{k:α->Nat->Except Nat β}{x:Nat}(h:bd e k=.error x):Me e k x:=by
 cases e with
 |error y=>exact .inl y rfl
 |ok v=>exact .inr v.1 v.2 rfl h
def tNo (bQ:bX)(ab:Bool)(w p:Nat):Except Nat (Int×Nat):=if ab=true then jV bQ ab w 0 0 p else .ok (0,p)
def q_ (bQ:bX)(ab:Bool)(p:Nat):Except Nat (Stage×Nat):=
 bd (jV bQ ab 2 1 16 p) λakN p=>bd (jV bQ ab 2 1 1024 p) λanr p=>bd (jV bQ ab 1 0 (if akN<=8 then 1 else 0) p) λkind p=>bd (jV bQ ab 1 0 (if kind=1 then 0 else 12) p) λakk p=>bd (tNo bQ ab 2 p) λ_ p=>.ok (⟨akN.toNat,anr.toNat,kind==1,akk.toNat⟩,p)
def oj {α:Type}(f:Nat->Except Nat (α×Nat)):Nat->Nat->Except Nat (List α×Nat)
 |0,p=>.ok ([],p)
 |k+1,p=>bd (f p) λs q=>bd (oj f k q) λl q=>.ok (s::l,q)
def Nl (bQ:bX)(ab:Bool)(p:Nat):Except Nat (RowWay×Nat):=
 bd (jV bQ ab 1 0 3 p) λaiH p=>bd (jV bQ ab 1 0 2 p) λn p=>bd (oj (q_ bQ ab) n.toNat p) λl p=>.ok (⟨aiH.toNat,l⟩,p)
def pJ (bQ:bX)(ab:Bool)(p:Nat):Except Nat (Nat×Nat):=bd (jV bQ ab 1 0 3 p) λs q=>.ok (s.toNat,q)
def YY (n:Nat)(bQ:bX)(ab:Bool)(p:Nat):Except Nat ((List RowWay×List Nat)×Nat):=
 bd (oj (Nl bQ ab) n p) λr p=>bd (oj (pJ bQ ab) (n / 2) p) λj p=>.ok ((r,j),p)
def tq (b:rH)(w:Nat)(lo hi:Int)(p:Nat)(hw:1<=w)(ok:Bool)(fV:p+w<=b.length->ok=(decide (lo<=((ofLe ((b.drop p).take w):Nat):Int))&&decide (((ofLe ((b.drop p).take w):Nat):Int)<=hi))):
  jV (br b) true w lo hi p=if b.length<p+w then .error b.length else if ok=false then .error p else .ok (((ofLe ((b.drop p).take w):Nat):Int),p+w):=by
 unfold jV Bu;simp only[if_true,eA];by_cases h:b.length<p+w
 .rw[aj h,aj (show p+w>b.length from h)]
 .rw[ah h,ah (show¬p+w>b.length from h)];obtain⟨v,rfl⟩:∃v,w=v+1:=⟨w-1,by lia⟩;rw[qF b p v (by lia),fV (by lia)];simp only;generalize((ofLe ((b.drop p).take (v+1)):Nat):Int)=x;by_cases h1:lo<=x<;>by_cases h2:x<=hi
  .rw[ah (by lia),ah (by simp[h1,h2])]
  .rw[aj (by lia),aj (by simp[h1,h2])]
  .rw[aj (by lia),aj (by simp[h1,h2])]
  .rw[aj (by lia),aj (by simp[h1,h2])]
def R0 (b:rH)(p:Nat)(h:p+1<=b.length):ofLe ((b.drop p).take 1)=at_ b p:=by
 have hp:p<b.length:=by lia
 rw[cT hp];show(b[p]).toNat+256*0=_;unfold at_;rw[aD hp];rfl
open LwBits LwSound
def qk (b:rH)(p w:Nat)(ok:Bool)(r:List (Nat×Nat×Bool)):mI b ((p,w,ok)::r)=if b.length<p+w then some b.length else if ok=false then some p else mI b r:=rfl
def I_ {v lo hi:Nat}:(decide (((lo:Nat):Int)<=((v:Nat):Int))&&decide (((v:Nat):Int)<=((hi:Nat):Int)))=(decide (lo<=v)&&decide (v<=hi)):=by
 by_cases h1:lo<=v<;>by_cases h2:v<=hi<;>simp[h1,h2]
def abm {α:Type}(o:Option Nat)(x:α):Except Nat α:=match o with
 |some e=>.error e
 |none=>.ok x
def nQ (b:rH)(p:Nat)(lo hi:Nat)(ok:Bool)(fV:ok=(decide (lo<=at_ b p)&&decide (at_ b p<=hi))):jV (br b) true 1 (lo:Int) (hi:Int) p=if b.length<p+1 then .error b.length else if ok=false then .error p else .ok (((at_ b p:Nat):Int),p+1):=by
 rw[tq b 1 (lo:Int) (hi:Int) p (by decide) ok (λh=>by rw[R0 b p h,fV];exact I_.symm)];by_cases h:b.length<p+1
 .rw[aj h,aj h]
 .rw[ah h,ah h,R0 b p (by lia)]
def Io {α:Type}{ok:Bool}{r:List (Nat×Nat×Bool)}{e:Except Nat (Int×Nat)}{k:Int->Nat->Except Nat α}{x:α}
  (he:e=if b.length<p+w then .error b.length else if ok=false then .error p else .ok (v,q)) (h:ok=true->k v q=abm (mI b r) x):
  bd e k=abm (mI b ((p,w,ok)::r)) x:=by
 rw[he,qk];by_cases a1:b.length<p+w
 .rw[aj a1,aj a1];rfl
 rw[ah a1,ah a1];cases ok with
 |false=>rfl
 |true=>exact h rfl
def RK {α:Type}{ok:Bool}{r:List (Nat×Nat×Bool)}{e:Except Nat (Int×Nat)}{k:Int->Nat->Except Nat α}{x:Except Nat α}
  (he:e=if b.length<p+w then .error b.length else if ok=false then .error p else .ok (v,q)) (h:ok=true->k v q=match mI b r with|some y=>.error y|none=>x):
  bd e k=match mI b ((p,w,ok)::r) with|some y=>.error y|none=>x:=by
 rw[he,qk];by_cases a1:b.length<p+w
 .rw[aj a1,aj a1];rfl
 rw[ah a1,ah a1];cases ok with
 |false=>rfl
 |true=>exact h rfl
def Qn (b:rH)(p:Nat):q_ (br b) true p=abm (mI b [(p,2,decide (1<=two b p)&&decide (two b p<=TAPS)),(p+2,2,decide (1<=two b (p+2))&&decide (two b (p+2)<=1024)),(p+4,1,at_ b (p+4)==0||(at_ b (p+4)==1&&decide (two b p<=WIDE))),(p+5,1,decide (at_ b (p+5)<=12)&&(at_ b (p+4)==0||at_ b (p+5)==0)),(p+6,2,two b (p+6)==0)])
  (⟨two b p,two b (p+2),at_ b (p+4)==1,at_ b (p+5)⟩,p+8):=by
 unfold q_;refine Io (tq b 2 1 16 p (by decide) (decide (1<=two b p)&&decide (two b p<=TAPS)) (λ_=>I_.symm)) λ_=>?_;refine Io (tq b 2 1 1024 (p+2) (by decide) (decide (1<=two b (p+2))&&decide (two b (p+2)<=1024)) (λ_=>I_.symm)) λ_=>?_;have e8:(if((ofLe ((b.drop p).take 2):Nat):Int)<=8 then(1:Int) else 0)=((if two b p<=8 then 1 else 0:Nat):Int):=by
  show(if((two b p:Nat):Int)<=8 then(1:Int) else 0)=_;by_cases h:two b p<=8
  .rw[aj h,aj (by lia)];rfl
  .rw[ah h,ah (by lia)];rfl
 rw[e8];refine Io (nQ b (p+4) 0 (if two b p<=8 then 1 else 0) (at_ b (p+4)==0||(at_ b (p+4)==1&&decide (two b p<=WIDE))) ?_) λc2=>?_
 .show(at_ b (p+4)==0||(at_ b (p+4)==1&&decide (two b p<=8)))=_;generalize at_ b (p+4)=k;by_cases h8:two b p<=8
  .rw[aj h8]
   match k with
   |0=>rfl
   |1=>simp[h8]
   |k+2=>simp
  .rw[ah h8]
   match k with
   |0=>rfl
   |k+1=>simp[h8]
 have hk:at_ b (p+4)=0\/at_ b (p+4)=1:=by
  rcases Bool.or_eq_true_iff.mp c2 with q|q
  .exact .inl (beq_iff_eq.mp q)
  .exact .inr (beq_iff_eq.mp (eZ.mp q).1)
 have e12:(if((at_ b (p+4):Nat):Int)=1 then(0:Int) else 12)=((if at_ b (p+4)=1 then 0 else 12:Nat):Int):=by
  by_cases h:at_ b (p+4)=1
  .rw[aj h,aj (by lia)];rfl
  .rw[ah h,ah (by lia)];rfl
 rw[e12];refine Io (nQ b (p+5) 0 (if at_ b (p+4)=1 then 0 else 12) (decide (at_ b (p+5)<=12)&&(at_ b (p+4)==0||at_ b (p+5)==0)) ?_) λ_=>?_
 .generalize at_ b (p+5)=k;rcases hk with h0|h0
  .rw[h0];simp
  .rw[h0]
   match k with
   |0=>rfl
   |k+1=>simp
 refine Io (show tNo _ true 2 _=_ from tq b 2 0 0 (p+6) (by decide) (two b (p+6)==0) (λ_=>?_)) λ_=>?_
 .refine Eq.trans ?_ (I_ (lo:=0) (hi:=0)).symm;show _=(decide (0<=two b (p+6))&&decide (two b (p+6)<=0));generalize two b (p+6)=k
  match k with
  |0=>rfl
  |k+1=>simp
 have ek:((((at_ b (p+4):Nat):Int))==1)=(at_ b (p+4)==1):=by
  rcases hk with h0|h0<;>rw[h0]<;>rfl
 show(mW ((⟨((two b p:Nat):Int).toNat,((two b (p+2):Nat):Int).toNat,(((at_ b (p+4):Nat):Int))==1,((at_ b (p+5):Nat):Int).toNat⟩:Stage),p+6+2):Except Nat (Stage×Nat))=mW (⟨two b p,two b (p+2),at_ b (p+4)==1,at_ b (p+5)⟩,p+8);rw[ek];rfl
def bdB {α β:Type}{o:Option Nat}{x:α}{k:α->Nat->Except Nat β}{R:Except Nat β}(h:k x q=R):bd (abm o (x,q)) k=match o with|some e=>.error e|none=>R:=by
 cases o with
 |some e=>rfl
 |none=>exact h
theorem C2 (b:rH):∀(k p:Nat),oj (q_ (br b) true) k p=rJ b k p
 |0,p=>rfl
 |k+1,p=>by
  show bd (q_ (br b) true p) _=_;rw[Qn];refine(bdB ?_ :_=rJ b (k+1) p);show bd (oj _ k (p+8)) _=match rJ b k (p+8) with|.error x=>_|.ok r=>_
  rw[C2 b k (p+8)];cases rJ b k (p+8)<;>rfl
theorem Jr (b:rH):∀(k p:Nat),oj (Nl (br b) true) k p=N2 b k p
 |0,p=>rfl
 |k+1,p=>by
  show bd (Nl (br b) true p) _=match mI b [(p,1,decide (at_ b p<=3)),(p+1,1,decide (at_ b (p+1)<=aaQ))] with|some x=>_|none=>_
  have h:Nl (br b) true p=match mI b [(p,1,decide (at_ b p<=3)),(p+1,1,decide (at_ b (p+1)<=aaQ))] with
   |some x=>.error x
   |none=>bd (rJ b (at_ b (p+1)) (p+2)) λl q=>.ok (⟨at_ b p,l⟩,q):=by
   refine RK (nQ b p 0 3 _ (by simp)) λ_=>?_;refine RK (nQ b (p+1) 0 2 _ (by rw[show decide (0<=at_ b (p+1))=true by simp,ah0];rfl)) λ_=>?_;show bd (oj _ ((at_ b (p+1):Nat):Int).toNat (p+2)) _=_;rw[bF,C2];rfl
  rw[h];cases mI b [(p,1,decide (at_ b p<=3)),(p+1,1,decide (at_ b (p+1)<=aaQ))] with
  |some x=>rfl
  |none=>
   show bd (bd (rJ b (at_ b (p+1)) (p+2)) _) _=match rJ b (at_ b (p+1)) (p+2) with|.error x=>_|.ok s=>_
   cases rJ b (at_ b (p+1)) (p+2) with
   |error e=>rfl
   |ok s=>
    show bd (oj _ k s.2) _=match N2 b k s.2 with|.error x=>_|.ok r=>_
    rw[Jr b k s.2];cases N2 b k s.2<;>rfl
theorem Cz (b:rH):∀(k p:Nat),oj (pJ (br b) true) k p=BJ b k p
 |0,p=>rfl
 |k+1,p=>by
  show bd (bd (jV (br b) true 1 0 3 p) _) _=_;rw[bdA];refine(RK (nQ b p 0 3 _ (by simp)) λ_=>?_ :_=BJ b (k+1) p);show bd (oj (pJ (br b) true) k (p+1)) _=match BJ b k (p+1) with|.error x=>_|.ok r=>_
  rw[Cz b k (p+1)];cases BJ b k (p+1)<;>rfl
structure rB where
 key:Int
 rows:Int
 bits:Int
 cut:Int
 lanes:Int
 times:Int
 check:Int
 way:Option (List RowWay×List Nat)
 fin:Nat
def iy:bX:=[1,4,8,16]
def wW (bQ:bX):Except Nat rB:=
 bd (jV bQ true 1 76 76 0) λ_ p=>bd (jV bQ true 1 83 83 p) λ_ p=>bd (jV bQ true 1 0 1 p) λfA p=>bd (jV bQ true 1 1 4 p) λrows p=>bd (jV bQ true 1 8 24 p) λcW p=>bd (jV bQ true 1 0 (cW-1) p) λcut p=>bd (Bv bQ true 1 iy p) λay p=>bd (tNo bQ true 1 p) λ_ p=>bd (jV bQ true 4 1 64 p) λwZ p=>bd (Bu bQ true 4 p) λXp p=>
  if fA=1 then bd (YY rows.toNat bQ true p) λy p=>.ok ⟨fA,rows,cW,cut,ay,wZ,Xp,some y,p⟩ else .ok ⟨fA,rows,cW,cut,ay,wZ,Xp,none,p⟩
def jv (b:rH)(x:Head×Option Form×Nat):rB:=
 ⟨if x.1.key=true then 1 else 0,x.1.rows,x.1.bits,x.1.cut,x.1.lanes,x.1.count,storedCheck b,x.2.1.map λf=>(f.rows,f.joint),x.2.2⟩
def Sy (b:rH)(p:Nat):Bv (br b) true 1 iy p=if b.length<p+1 then .error b.length else if SO (at_ b p)=false then .error p else .ok (((at_ b p:Nat):Int),p+1):=by
 unfold Bv Bu;simp only[if_true,eA];by_cases h:b.length<p+1
 .rw[aj h,aj (show p+1>b.length from h)]
 .rw[ah h,ah (show¬p+1>b.length from h),qF b p 0 (by lia),R0 b p (by lia)];simp only;generalize at_ b p=k;have e:((k:Nat):Int)∈iy↔SO k=true:=by
   unfold iy SO;simp only[bo,JL,or_false,Wl,decide_eq_true_eq];exact or_congr jm (or_congr jm (or_congr jm jm))
  by_cases q:SO k=true
  .rw[aj (e.mpr q),ah (by rw[q];decide)]
  .rw[ah (λz=>q (e.mp z)),aj (by simpa using q)]
def Ao {β γ:Type}{ok:Bool}{r:List (Nat×Nat×Bool)}{e:Except Nat (Int×Nat)}{k:Int->Nat->Except Nat β}{G:Except Nat γ}{f:γ->β}
  (he:e=if b.length<p+w then .error b.length else if ok=false then .error p else .ok (v,q)) (h:ok=true->k v q=Dq f (match mI b r with|some x=>.error x|none=>G)):
  bd e k=Dq f (match mI b ((p,w,ok)::r) with|some x=>.error x|none=>G):=by
 rw[he,qk];by_cases a1:b.length<p+w
 .rw[aj a1,aj a1];rfl
 rw[ah a1,ah a1];cases ok with
 |false=>rfl
 |true=>exact h rfl
def RF (b:rH):wW (br b)=(readHead b).map (jv b):=by
 unfold wW readHead headBad;have r0:=nQ b 0 76 76 (at_ b 0==0x4C) (by
  generalize at_ b 0=k;by_cases h:k=76
  .subst h;rfl
  .have:(k==76)=false:=beq_eq_false_iff_ne.mpr h;rw[show(0x4C:Nat)=76 from rfl,this];by_cases h1:76<=k<;>by_cases h2:k<=76<;>simp[h1,h2]<;>lia)
 have r1:=nQ b 1 83 83 (at_ b 1==0x53) (by
  generalize at_ b 1=k;by_cases h:k=83
  .subst h;rfl
  .have:(k==83)=false:=beq_eq_false_iff_ne.mpr h;rw[show(0x53:Nat)=83 from rfl,this];by_cases h1:83<=k<;>by_cases h2:k<=83<;>simp[h1,h2]<;>lia)
 have r2:=nQ b 2 0 1 (decide (at_ b 2<=1)) (by simp);have r3:=nQ b 3 1 4 (decide (1<=at_ b 3)&&decide (at_ b 3<=ROWS)) rfl;have r4:=nQ b 4 8 24 (decide (8<=at_ b 4)&&decide (at_ b 4<=BITS)) rfl;rw[show((76:Nat):Int)=76 from rfl] at r0;rw[show((83:Nat):Int)=83 from rfl] at r1;rw[show((0:Nat):Int)=0 from rfl,show((1:Nat):Int)=1 from rfl] at r2;rw[show((4:Nat):Int)=4 from rfl,show((1:Nat):Int)=1 from rfl] at r3;rw[show((8:Nat):Int)=8 from rfl,show((24:Nat):Int)=24 from rfl] at r4;refine Ao r0 λ_=>?_;refine Ao r1 λ_=>?_;refine Ao r2 λc2=>?_;refine Ao r3 λ_=>?_;refine Ao r4 λe2=>?_;have adP:8<=at_ b 4:=of_decide_eq_true (eZ.mp e2).1;have r5:=nQ b 5 0 (at_ b 4-1) (decide (at_ b 5<at_ b 4)) (by
  rw[show decide (0<=at_ b 5)=true by simp,ah0];exact decide_eq_decide.mpr (Nat.lt_iff_le_pred (bc (by decide) adP)))
 rw[show((0:Nat):Int)=0 from rfl,show((at_ b 4-1:Nat):Int)=((at_ b 4:Nat):Int)-1 by lia] at r5;refine Ao r5 λ_=>?_;refine Ao (Sy b 6) λ_=>?_;have r7:=nQ b 7 0 0 (at_ b 7==0) (by
  generalize at_ b 7=k
  match k with
  |0=>rfl
  |k+1=>simp)
 rw[show((0:Nat):Int)=0 from rfl] at r7;refine Ao (show tNo _ true 1 7=_ from r7) λ_=>?_;refine Ao (tq b 4 1 64 8 (by decide) (decide (1<=ofLe ((b.drop 8).take 4))&&decide (ofLe ((b.drop 8).take 4)<=COUNT)) (λ_=>I_.symm)) λ_=>?_;refine Ao (v:=storedCheck b) (q:=16) (p:=12) (w:=4) (ok:=true) ?_ λ_=>?_
 .unfold Bu;rw[aj rfl,eA];by_cases j1:b.length<12+4
  .rw[aj (show 8+4+4>b.length from j1),aj j1]
  .rw[ah (show¬8+4+4>b.length from j1),ah j1,qF b (8+4) 3 (by lia)];rfl
 have Yb:(((at_ b 2:Nat):Int)=1)↔(zx b).key=true:=by
  show _↔(at_ b 2==1)=true;rw[beq_iff_eq];lia
 by_cases k1:((at_ b 2:Nat):Int)=1
 .have k2:=Yb.mp k1;rw[aj k1];show _=Dq (jv b) (if(zx b).key=false then _ else match N2 b (at_ b 3) 16 with|.error x=>_|.ok r=>_);rw[ah (by rw[k2];decide)];unfold YY;rw[Jr,bF,bdA];cases N2 b (at_ b 3) 16 with
  |error e=>rfl
  |ok r=>
   show bd (bd (oj _ (at_ b 3 / 2) r.2) _) _=Dq (jv b) (match BJ b (at_ b 3 / 2) r.2 with|.error x=>_|.ok j=>_);rw[Cz,bdA];cases BJ b (at_ b 3 / 2) r.2 with
   |error e=>rfl
   |ok j=>
    show(mW (_:rB):Except Nat rB)=mW (jv b _);refine congrArg mW ?_;unfold jv;simp only[k2,if_true];rw[k1];rfl
 .have k2:(zx b).key=false:=by
   cases h:(zx b).key with
   |false=>rfl
   |true=>exact absurd (Yb.mpr h) k1
  rw[ah k1];show _=Dq (jv b) (if(zx b).key=false then _ else _);rw[aj k2];show(mW (_:rB):Except Nat rB)=mW (jv b _);refine congrArg mW ?_;unfold jv;have TF:((at_ b 2:Nat):Int)=0:=by
   have:=of_decide_eq_true c2;lia
  simp only[k2,aaj,if_false];rw[TF];rfl
open LwBits LwSound SoundCalls
abbrev nats (l:bX):ie:=l.map Int.toNat
def xB (bQ:bX):Prop:=∀x∈bQ,0<=x
def BU {r:bX}(h:bQ.drop p=v::r):Bu bQ false w p=.ok (v,p+1):=by
 have hp:p<bQ.length:=by
  rcases uo p bQ.length with q|q
  .exact q
  .rw[yT q] at h;cases h
 rw[cT hp] at h;have e:numAt bQ p 1=bQ[p]:=by
  unfold numAt;simp[aG,hp]
 show(if p+1>bQ.length then _ else mW (numAt bQ p 1,p+1))=_;rw[ah (iY.mpr hp),e,(um h).1]
def Xd (h:bQ.drop p=[]):Bu bQ false w p=.error bQ.length:=aj (Nat.lt_succ_of_le (List.drop_eq_nil_iff.mp h))
def qZ {r:bX}(h:bQ.drop p=v::r):bQ.drop (p+1)=r:=by
 rw[<-uK,h];rfl
def XA {r:bX}(h:bQ.drop p=v::r):p+1<=bQ.length:=by
 rcases uo p bQ.length with q|q
 .exact q
 .rw[yT q] at h;cases h
def rh {r:bX}{lo hi:Int}(hd:bQ.drop p=v::r)(h1:lo<=v)(h2:v<=hi):jV bQ false w lo hi p=.ok (v,p+1):=by
 unfold jV;rw[BU hd];exact ah (by lia)
inductive Rg (bQ:bX)(lo hi:Int)(p:Nat){β:Type}(k:Int->Nat->Except Nat β)(x:β):Prop|i(v:Int)(_:bQ.drop p=v::bQ.drop (p+1))(_:p+1<=bQ.length)(_:lo<=v/\v<=hi)(_:k v (p+1)=.ok x)
def WM {lo hi:Int}{β:Type}{k:Int->Nat->Except Nat β}{x:β}(h:bd (jV bQ false w lo hi p) k=.ok x):Rg bQ lo hi p k x:=by
 cases e:bQ.drop p with
 |nil=>
  unfold jV at h;rw[Xd e] at h;cases h
 |cons v r=>
  by_cases c:v<lo\/hi<v
  .unfold jV at h;rw[BU e] at h;have h:bd (if v<lo\/hi<v then .error p else .ok (v,p+1)) k=.ok x:=h;rw[aj c] at h;cases h
  .rw[rh e (by lia) (by lia)] at h;exact⟨v,by rw[qZ e,e],XA e,by lia,h⟩
def age {lo hi:Int}{e:Nat}(h:jV bQ false w lo hi p=.error e):bQ.drop p=[]\/∃v r,bQ.drop p=v::r/\(v<lo\/hi<v):=by
 cases q:bQ.drop p with
 |nil=>exact .inl rfl
 |cons x r=>
  refine .inr ⟨x,r,Z,?_⟩;rcases amt x lo with c|c
  .exact .inl c
  rcases amt hi x with d|d
  .exact .inr d
  rw[rh q c d] at h;cases h
def VA {α β:Type}{e:Except Nat (α×Nat)}{k:α->Nat->Except Nat β}{x:Except Nat β}{a:α}(h:bd e k=x)(he:e=.ok (a,c)):k a c=x:=(Af he).symm.trans h
def akm {t g w c:Int}(b1:1<=t/\t<=16)(b2:1<=g/\g<=1024)(b3:0<=w/\w<=if t<=8 then 1 else 0)(b4:0<=c/\c<=if w=1 then 0 else 12):(w=0\/w=1)/\iw ⟨t.toNat,g.toNat,w==1,c.toNat⟩:=by
 have hw:w=0\/(w=1/\t<=8):=by
  by_cases q:t<=8
  .rw[aj q] at b3;lia
  .rw[ah q] at b3;lia
 have z:1<=t.toNat/\t.toNat<=16/\1<=g.toNat/\g.toNat<=1024:=⟨uT b1.1,gM.mpr b1.2,uT b2.1,gM.mpr b2.2⟩;rcases hw with rfl|⟨rfl,q⟩
 .exact⟨.inl rfl,z.1,z.2.1,z.2.2.1,z.2.2.2,gM.mpr b4.2,λh=>by cases h⟩
 .have h0:c.toNat=0:=adm.mpr b4.2;exact⟨.inr rfl,z.1,z.2.1,z.2.2.1,z.2.2.2,(by rw[h0];decide:c.toNat<=12),λ_=>⟨h0,gM.mpr q⟩⟩
inductive StT (bQ:bX)(p q:Nat)(s:Stage):Prop|i(t g w c:Int)(_:bQ.drop p=t::g::w::c::bQ.drop q)(_:q<=bQ.length)(_:s=⟨t.toNat,g.toNat,w==1,c.toNat⟩)(_:w=0\/w=1)(_:iw s)
def AB {s:Stage}(h:q_ bQ false p=.ok (s,q)):StT bQ p q s:=by
 obtain⟨t,d1,_,b1,h1⟩:=WM h;clear h;obtain⟨g,d2,_,b2,h⟩:=WM h1;clear h1;obtain⟨w,d3,_,b3,h1⟩:=WM h;clear h;obtain⟨c,d4,l,b4,h⟩:=WM h1;clear h1;cases h;obtain⟨hw,gs⟩:=akm b1 b2 b3 b4;exact⟨t,g,w,c,by rw[d1,d2,d3,d4],l,Z,hw,gs⟩
def apU {t g w c:Int}(n1:0<=t)(n2:0<=g)(n3:0<=w)(n4:0<=c)(hw:¬1<w)(g0:iw ⟨t.toNat,g.toNat,w.toNat==1,c.toNat⟩):(1<=t/\t<=16)/\(1<=g/\g<=1024)/\(w<=if t<=8 then 1 else 0)/\c<=if w=1 then 0 else 12:=by
 obtain⟨a1,a2,a3,a4,a5,a6⟩:=g0;dsimp only at a1 a2 a3 a4 a5 a6;refine⟨by lia,by lia,?_⟩;rcases(by lia:w=0\/w=1) with rfl|rfl
 .exact⟨by split<;>decide,gM.mp a5⟩
 .obtain⟨z1,z2⟩:=a6 rfl;rw[aj (by lia:t<=8)];exact⟨by decide,adm.mp z1⟩
def Jv {e:Nat}(nn:xB bQ)(h:q_ bQ false p=.error e){t g w c:Int}{r:bX}(hd:bQ.drop p=t::g::w::c::r)(hw:¬1<w)(gs:iw ⟨t.toNat,g.toNat,w.toNat==1,c.toNat⟩):False:=by
 have n:∀x∈t::g::w::c::r,0<=x:=λx hx=>nn x (j5 (hd ▸ hx));have n3:=n w (.tail _ (.tail _ (.head _)));have n4:=n c (.tail _ (.tail _ (.tail _ (.head _))));obtain⟨b1,b2,b3,b4⟩:=apU (n t (.head _)) (n g (.tail _ (.head _))) n3 n4 hw gs;clear gs n hw;have d1:=qZ hd;have d2:=qZ d1;have h:=VA h (rh hd b1.1 b1.2);have h:=VA h (rh d1 b2.1 b2.2);have h:=VA h (rh d2 n3 b3);have h:=VA h (rh (qZ d2) n4 b4);cases h
inductive SI (k:Nat)(m:bX)(ss:List Stage)(r:ie):Prop|i(t g w c:Int)(m':bX)(l:List Stage)(_:m=t::g::w::c::m')(_:¬1<w)(_:stagesIn k (nats m')=some (l,r))(_:ss=⟨t.toNat,g.toNat,w.toNat==1,c.toNat⟩::l)
def aee {k:Nat}{m:bX}{ss:List Stage}{r:ie}(h:stagesIn (k+1) (nats m)=some (ss,r)):SI k m ss r:=by
 match m,h with
 |[],h=>cases h
 |[_],h=>cases h
 |[_,_],h=>cases h
 |[_,_,_],h=>cases h
 |t::g::w::c::m',h=>
  have h:(if 1<w.toNat then none else(stagesIn k (nats m')).map _)=some (ss,r):=h;by_cases hw:1<w.toNat
  .rw[aj hw] at h;cases h
  rw[ah hw] at h;obtain⟨y,h1,e⟩:=iZ.mp h;cases e;exact⟨t,g,w,c,m',y.1,Z,by lia,h1,Z⟩
def apX:∀{k:Nat} {m:bX} {ss:List Stage} {r:ie},stagesIn k (nats m)=some (ss,r)->ss.length=k:=by
 intro k;induction k with
 |zero=>intro m ss r h;cases h;rfl
 |succ k ih=>
  intro m ss r h;obtain⟨t,g,w,c,m',l,_,_,h1,rfl⟩:=aee h;exact congrArg (· +1) (ih h1)
inductive SsT (bQ:bX)(k p:Nat)(ss:List Stage)(q:Nat):Prop|i(_:p<=bQ.length->q<=bQ.length)(_:stagesIn k (nats (bQ.drop p))=some (ss,nats (bQ.drop q)))(_:∀s∈ss,iw s)
def LP:∀{k p:Nat} {ss:List Stage} {q:Nat},oj (q_ bQ false) k p=.ok (ss,q)->SsT bQ k p ss q:=by
 intro k;induction k with
 |zero=>intro p ss q h;cases h;exact⟨id,Z,nofun⟩
 |succ k ih=>
  intro p ss q h;obtain⟨s,p1,h1,h0⟩:=GK h;clear h;obtain⟨l,q',h2,h⟩:=GK h0;clear h0;cases h;obtain⟨t,g,w,c,hd,hl,rfl,hw,gs⟩:=AB h1;obtain⟨a1,a2,a3⟩:=ih h2;clear ih h1 h2;refine⟨λ_=>a1 hl,?_,jY.mpr ⟨gs,a3⟩⟩;rw[hd];show(if 1<w.toNat then none else(stagesIn k (nats (bQ.drop p1))).map _)=_;rw[a2];rcases hw with rfl|rfl<;>rfl
def Su (nn:xB bQ):∀{k p e:Nat},oj (q_ bQ false) k p=.error e->∀{ss:List Stage} {r:ie},stagesIn k (nats (bQ.drop p))=some (ss,r)->(∀s∈ss,iw s)->False:=by
 intro k;induction k with
 |zero=>intro p e h;cases h
 |succ k ih=>
  intro p e h ss r hs oG;obtain⟨t,g,w,c,m',l,hd,hw,QB,rfl⟩:=aee hs;obtain⟨g1,g2⟩:=jY.mp oG;rcases YG h with⟨e,h1⟩|⟨s,p1,h1,h⟩
  .exact Jv nn h1 hd hw g1
  rcases YG h with⟨e,h2⟩|⟨_,_,_,h⟩
  .obtain⟨t',g',w',c',hd',_⟩:=AB h1;rw[hd] at hd';rw[show m'=bQ.drop p1 from(um (um (um (um hd').2).2).2).2] at QB;exact ih h2 QB g2
  .cases h
inductive RI (k:Nat)(m:bX)(ss:List RowWay)(r:ie):Prop|i(f n:Int)(m':bX)(s:List Stage)(r1:ie)(l:List RowWay)(_:m=f::n::m')(_:¬2<n.toNat)(_:stagesIn n.toNat (nats m')=some (s,r1))(_:rowsIn k r1=some (l,r))(_:ss=⟨f.toNat,s⟩::l)
def akf {k:Nat}{m:bX}{ss:List RowWay}{r:ie}(h:rowsIn (k+1) (nats m)=some (ss,r)):RI k m ss r:=by
 match m,h with
 |[],h=>cases h
 |[_],h=>cases h
 |f::n::m',h=>
  have h:(if 2<n.toNat then none else(stagesIn n.toNat (nats m')).bind _)=some (ss,r):=h;by_cases hn:2<n.toNat
  .rw[aj hn] at h;cases h
  rw[ah hn] at h;obtain⟨y,h1,h⟩:=wM.mp h;obtain⟨z,h2,e⟩:=iZ.mp h;cases e;exact⟨f,n,m',y.1,y.2,z.1,Z,hn,h1,h2,Z⟩
inductive RwT (bQ:bX)(k p:Nat)(ss:List RowWay)(q:Nat):Prop|i(_:p<=bQ.length->q<=bQ.length)(_:rowsIn k (nats (bQ.drop p))=some (ss,nats (bQ.drop q)))(_:∀s∈ss,lJ s)(_:ss.length=k)
def Ny:∀{k p:Nat} {ss:List RowWay} {q:Nat},oj (Nl bQ false) k p=.ok (ss,q)->RwT bQ k p ss q:=by
 intro k;induction k with
 |zero=>intro p ss q h;cases h;exact⟨id,Z,nofun,Z⟩
 |succ k ih=>
  intro p ss q h;obtain⟨s,p1,h1,h0⟩:=GK h;clear h;obtain⟨l,q',h2,h⟩:=GK h0;clear h0;cases h;obtain⟨t1,t2,t3,t4⟩:=ih h2;clear ih h2;obtain⟨f,d1,_,b1,h⟩:=WM h1;clear h1;obtain⟨n,d2,l2,b2,h0⟩:=WM h;clear h;obtain⟨sl,p3,h3,h⟩:=GK h0;clear h0;cases h;obtain⟨s1,s2,s3⟩:=LP h3;have h5:=apX s2;refine⟨λ_=>t1 (s1 l2),?_,jY.mpr ⟨⟨gM.mpr b1.2,h5 ▸ gM.mpr b2.2,s3⟩,t3⟩,congrArg (· +1) t4⟩;rw[d1,d2];show(if 2<n.toNat then none else(stagesIn n.toNat (nats (bQ.drop (p+1+1)))).bind _)=_;rw[ah (iY.mpr (gM.mpr b2.2)),s2];show(rowsIn k (nats (bQ.drop p1))).map _=_;rw[t2];rfl
def Zj (nn:xB bQ):∀{k p e:Nat},oj (Nl bQ false) k p=.error e->∀{ss:List RowWay} {r:ie},rowsIn k (nats (bQ.drop p))=some (ss,r)->(∀s∈ss,lJ s)->False:=by
 intro k;induction k with
 |zero=>intro p e h;cases h
 |succ k ih=>
  intro p e h ss r hs oG;obtain⟨f,n,m',s,r1,l,hd,hn,QB,Kx,rfl⟩:=akf hs;obtain⟨g1,g2⟩:=jY.mp oG;have d1:=qZ hd;have d2:=qZ d1;have n0:∀x∈f::n::m',0<=x:=λx hx=>nn x (j5 (hd ▸ hx));have r1:=rh (w:=1) hd (n0 f (.head _)) (gM.mp g1.fx);have r2:=rh (w:=1) d1 (n0 n (.tail _ (.head _))) (gM.mp (iY.mp hn));rw[<-d2] at QB;clear n0 oG hs hn hd d1 d2;rcases YG h with⟨e,h1⟩|⟨_,p1,h1,h⟩
  .have h1:=VA h1 r1;have h1:=VA h1 r2;rcases YG h1 with⟨e,h1⟩|⟨_,_,_,h⟩
   .exact Su nn h1 QB g1.st
   .cases h
  rcases YG h with⟨e,h2⟩|⟨_,_,_,h⟩
  case inr=>cases h
  have h1:=VA h1 r1;have h1:=VA h1 r2;obtain⟨sl,p3,h1,h⟩:=GK h1;cases h;obtain⟨_,s2,_⟩:=LP h1;rw[QB] at s2;cases s2;exact ih h2 Kx g2
inductive JsT (bQ:bX)(k p:Nat)(ss:ie)(q:Nat):Prop|i(_:p<=bQ.length->q<=bQ.length)(_:nats (bQ.drop p)=ss++nats (bQ.drop q))(_:ss.length=k)(_:∀j∈ss,j<=3)
def Lv:∀{k p:Nat} {ss:ie} {q:Nat},oj (pJ bQ false) k p=.ok (ss,q)->JsT bQ k p ss q:=by
 intro k;induction k with
 |zero=>intro p ss q h;cases h;exact⟨id,Z,Z,nofun⟩
 |succ k ih=>
  intro p ss q h;obtain⟨s,p1,h1,h0⟩:=GK h;clear h;obtain⟨l,q',h2,h⟩:=GK h0;clear h0;cases h;obtain⟨t1,t2,t3,t4⟩:=ih h2;clear ih h2;obtain⟨f,d1,l1,b1,h⟩:=WM h1;cases h;refine⟨λ_=>t1 l1,?_,congrArg (· +1) t3,jY.mpr ⟨gM.mpr b1.2,t4⟩⟩;rw[d1];exact congrArg (f.toNat:: ·) t2
def RN (nn:xB bQ):∀{k p e:Nat},oj (pJ bQ false) k p=.error e->(∀j∈nats (bQ.drop p),j<=3)->(nats (bQ.drop p)).length<k:=by
 intro k;induction k with
 |zero=>intro p e h;cases h
 |succ k ih=>
  intro p e h hj;rcases YG h with⟨e,h1⟩|⟨_,p1,h1,h⟩
  .rcases YG h1 with⟨e,h1⟩|⟨_,_,_,h⟩
   case inr=>cases h
   rcases age h1 with q|⟨v,r,q,b⟩
   .rw[q];exact Nat.succ_pos k
   .have h0:=nn v (j5 (q ▸ aU ..));rw[q] at hj;have:=hj v.toNat (aU ..);lia
  rcases YG h with⟨e,h2⟩|⟨_,_,_,h⟩
  case inr=>cases h
  obtain⟨f,d1,l1,b1,h⟩:=WM h1;cases h;rw[d1] at hj|-
  exact Nat.succ_lt_succ (ih h2 λj m=>hj j (aP _ m))
def pY (bQ:bX):Except Nat (Int×Form):=
 bd (jV bQ false 1 0 1 0) λfA p=>bd (jV bQ false 1 8 24 p) λcW p=>bd (jV bQ false 1 0 (cW-1) p) λcut p=>bd (Bv bQ false 1 iy p) λay p=>bd (jV bQ false 1 1 4 p) λrows p=>bd (YY rows.toNat bQ false p) λy p=>if p=bQ.length then .ok (fA,⟨cW.toNat,cut.toNat,ay.toNat,y.1,y.2⟩) else .error p
def Lx:v∈iy↔0<=v/\(v.toNat=1\/v.toNat=4\/v.toNat=8\/v.toNat=16):=by
 constructor
 .intro h;simp only[iy,bo,JL,or_false] at h;rcases h with rfl|rfl|rfl|rfl<;>decide
 .rintro⟨h0,h⟩;obtain⟨n,rfl⟩:=S0 h0;rcases h with h|h|h|h<;>(have h:n=_:=h;subst h;decide)
def YU {r:bX}(hd:bQ.drop p=x::r)(h:x∈iy):Bv bQ false w iy p=.ok (x,p+1):=by
 unfold Bv;rw[BU hd];exact aj h
inductive On (bQ:bX)(p:Nat){β:Type}(k:Int->Nat->Except Nat β)(x:β):Prop|i(v:Int)(_:bQ.drop p=v::bQ.drop (p+1))(_:v∈iy)(_:k v (p+1)=.ok x)
def af5 {β:Type}{k:Int->Nat->Except Nat β}{x:β}(h:bd (Bv bQ false w iy p) k=.ok x):On bQ p k x:=by
 cases e:bQ.drop p with
 |nil=>
  unfold Bv at h;rw[Xd e] at h;cases h
 |cons v r=>
  by_cases c:v∈iy
  .rw[YU e c] at h;exact⟨v,by rw[qZ e,e],c,h⟩
  .unfold Bv at h;rw[BU e] at h;have h:bd (if v∈iy then .ok (v,p+1) else .error p) k=.ok x:=h;rw[ah c] at h;cases h
inductive FI (b c l r:Nat)(w:ie)(f:Form):Prop|i(_:FG f)(_:f.bits=b)(_:f.cut=c)(_:f.lanes=l)(_:rowsIn r w=some (f.rows,f.joint))
def aby {b l r:Nat}{w:ie}(h:formIn b c l r w=some f):FI b c l r w f:=by
 unfold formIn at h;by_cases hr:ROWS<r
 .rw[aj hr] at h;cases h
 rw[ah hr] at h;obtain⟨x,e,h⟩:=wM.mp h;by_cases hf:N1 ⟨b,c,l,x.1,x.2⟩=true
 .have h:(if N1 ⟨b,c,l,x.1,x.2⟩=true then some _ else none)=_:=h;rw[aj hf] at h;cases h;exact⟨(XG _).mp hf,Z,Z,Z,e⟩
 .have h:(if N1 ⟨b,c,l,x.1,x.2⟩=true then some _ else none)=_:=h;rw[ah hf] at h;cases h
def apI:∀{k:Nat} {l:ie} {x:List RowWay×List Nat},rowsIn k l=some x->x.1.length=k:=by
 intro k;induction k with
 |zero=>intro l x h;cases h;rfl
 |succ k ih=>
  intro l x h
  match l,h with
  |[],h=>cases h
  |[_],h=>cases h
  |f::n::l,h=>
   have h:(if aaQ<n then none else(stagesIn n l).bind _)=some x:=h;by_cases hn:aaQ<n
   .rw[aj hn] at h;cases h
   rw[ah hn] at h;obtain⟨y,_,h⟩:=wM.mp h;obtain⟨z,hz,rfl⟩:=iZ.mp h;exact congrArg (· +1) (ih hz)
section
variable{k b c l r:Int}{w:bX}
inductive AsT (k b c l r:Int)(w:bX)(k':Int)(f:Form):Prop|i(_:k'=k)(_:k<=1)(_:FG f)(_:f.rows.length=r.toNat)(_:formIn b.toNat c.toNat l.toNat r.toNat (dj w)=some f)
def anj {a:bX}{v1 v2 v3 v4 v5:Int}(hr:bQ=k::b::c::l::r::w)(h:bQ=v1::v2::v3::v4::v5::a):k=v1/\b=v2/\c=v3/\l=v4/\r=v5/\w=a:=by
 subst hr;cases h;exact⟨Z,Z,Z,Z,Z,Z⟩
def Xh {k':Int}(hr:bQ=k::b::c::l::r::w)(h:pY bQ=.ok (k',f)):AsT k b c l r w k' f:=by
 obtain⟨_,d1,_,c1,h1⟩:=WM h;clear h;obtain⟨_,d2,_,c2,h⟩:=WM h1;clear h1;obtain⟨_,d3,_,c3,h1⟩:=WM h;clear h;obtain⟨_,d4,c4,h⟩:=af5 h1;clear h1;obtain⟨_,d5,_,c5,h1⟩:=WM h;clear h;obtain⟨rfl,rfl,rfl,rfl,rfl,e⟩:=anj hr (by rw[<-iD (l:=bQ),d1,d2,d3,d4,d5]);clear d1 d2 d3 d4 d5 hr;obtain⟨_,p7,hW,h⟩:=GK h1;clear h1;by_cases c7:p7=bQ.length
 case neg=>rw[ah c7] at h;cases h
 rw[aj c7] at h;cases h;obtain⟨x,p6,h6,h1⟩:=GK hW;clear hW;obtain⟨j,_,h7,hW⟩:=GK h1;clear h1;cases hW;obtain⟨_,a2,a3,a4⟩:=Ny h6;obtain⟨_,b2,b3,b4⟩:=Lv h7;clear h6 h7;rw[c7,rn] at b2;have z:8<=b.toNat/\b.toNat<=24/\c.toNat<b.toNat/\1<=r.toNat/\r.toNat<=4:=⟨uT c2.1,gM.mpr c2.2,(Int.toNat_lt_toNat (Int.lt_of_lt_of_le (by decide) c2.1)).mpr (Int.lt_of_le_sub_one c3.2),uT c5.1,gM.mpr c5.2⟩;have g:FG ⟨b.toNat,c.toNat,l.toNat,x,j⟩:=⟨z.1,z.2.1,z.2.2.1,(Lx.mp c4).2,a4 ▸ z.2.2.2.1,a4 ▸ z.2.2.2.2,a3,a4 ▸ b3,b4⟩;refine⟨Z,c1.2,g,a4,?_⟩;show formIn _ _ _ _ (nats w)=_;unfold formIn;rw[ah (show¬ROWS<r.toNat from iY.mpr z.2.2.2.2),e,show rowsIn r.toNat (nats (bQ.drop _))=_ from a2,b2.trans (fX j)];exact aj ((XG _).mpr g)
def UU {e:Nat}(nn:xB bQ)(hr:bQ=k::b::c::l::r::w)(h:pY bQ=.error e)(hk:k<=1):formIn b.toNat c.toNat l.toNat r.toNat (nats w)=none:=by
 cases ef:formIn b.toNat c.toNat l.toNat r.toNat (nats w) with
 |none=>rfl
 |some f=>
 exfalso;obtain⟨⟨g1,g2,g3,g4,g5,g6,g7,g8,g9⟩,e1,e2,e3,e4⟩:=aby ef;have a0:f.rows.length=r.toNat:=apI e4;rw[e1] at g1 g2 g3;rw[e2] at g3;rw[e3] at g4;rw[a0] at g5 g6 g8;clear ef e1 e2 e3 a0;have n:∀x∈k::b::c::l::r::w,0<=x:=hr ▸ nn;have n1:=n k (.head _);have n3:=n c (.tail _ (.tail _ (.head _)));have n4:=n l (.tail _ (.tail _ (.tail _ (.head _))));have z:8<=b/\b<=24/\c<=b-1/\1<=r/\r<=4:=by clear e4 g7 g8 g9 n nn hr h;lia
 have d0:bQ.drop 0=_:=hr;have d1:=qZ d0;have d2:=qZ d1;have d3:=qZ d2;have d4:=qZ d3;have d5:=qZ d4;have h:=VA h (rh d0 n1 hk);have h:=VA h (rh d1 z.1 z.2.1);have h:=VA h (rh d2 n3 z.2.2.1);have h:=VA h (YU d3 (Lx.mpr ⟨n4,g4⟩));have h:=VA h (rh d4 z.2.2.2.1 z.2.2.2.2);rw[<-d5] at e4;clear z n n1 n3 n4 d0 d1 d2 d3 g1 g2 g3 g4 g5 g6 hr;rcases YG h with⟨_,h⟩|⟨_,p7,hW,h⟩
 .rcases YG h with⟨_,h⟩|⟨_,_,h1,h⟩
  .exact Zj nn h e4 g7
  rcases YG h with⟨_,h⟩|⟨_,_,_,h⟩
  case inr=>cases h
  obtain⟨_,a2,_,_⟩:=Ny h1;rw[e4] at a2;have ej:f.joint=_:=congrArg Prod.snd (bh a2);have:=RN nn h (λj m=>g9 j (ej ▸ m));rw[show nats _=f.joint from ej.symm,g8] at this;exact b8 _ this
 by_cases c7:p7=bQ.length
 .rw[aj c7] at h;cases h
 clear h;obtain⟨_,p6,h6,h⟩:=GK hW;clear hW;obtain⟨j,_,h7,hW⟩:=GK h;clear h;cases hW;obtain⟨a1,a2,_,_⟩:=Ny h6;obtain⟨b1,b2,b3,_⟩:=Lv h7;have b1:=b1 (a1 (XA d4));rw[e4] at a2;have hl:=congrArg lA b2;rw[show nats (bQ.drop p6)=f.joint from(congrArg Prod.snd (bh a2)).symm,g8,aO,b3,aB,dY] at hl;clear h6 h7 a1 a2 b2 e4 nn g7 g8 g9;lia
end
open LwBits LwSound SoundCalls
def kindOf (s:Stage):Int:=if s.wide=true then 1 else 0
def mQ (s:Stage):bX:=[(s.taps:Int),(s.gain:Int),kindOf s,(s.scale:Int)]
def Bt (r:RowWay):bX:=(r.fixed:Int)::(r.stages.length:Int)::r.stages.flatMap mQ
def GV (rows:List RowWay)(js:ie):bX:=rows.flatMap Bt++js.map λ(j:Nat)=>(j:Int)
def KQ (a b:Stage):sameStage a b=true↔a=b:=by
 unfold sameStage;obtain⟨a1,a2,a3,a4⟩:=a;obtain⟨b1,b2,b3,b4⟩:=b;simp only[cM,beq_iff_eq,Stage.mk.injEq]
theorem wA {α:Type}{f:α->α->Bool}(hf:∀a b,f a b=true↔a=b):∀(l m:List α),sameList f l m=true↔l=m
 |[],[]=>by simp[sameList]
 |[],b::m=>by simp[sameList]
 |a::l,[]=>by simp[sameList]
 |a::l,b::m=>by simp[sameList,hf a b,wA hf l m]
def Qg (a b:RowWay):sameRow a b=true↔a=b:=by
 unfold sameRow;obtain⟨a1,a2⟩:=a;obtain⟨b1,b2⟩:=b;simp only[cM,beq_iff_eq,RowWay.mk.injEq,wA KQ]
def C0 (a b:Form):sameForm a b=true↔a=b:=by
 unfold sameForm;obtain⟨a1,a2,a3,a4,a5⟩:=a;obtain⟨b1,b2,b3,b4,b5⟩:=b;simp only[cM,beq_iff_eq,Form.mk.injEq,wA Qg]
def RR {a b:Stage}(h:kindOf a=kindOf b):a.wide=b.wide:=by
 unfold kindOf at h;cases h1:a.wide<;>cases h2:b.wide<;>simp[h1,h2] at h|-
theorem Jw:∀{l m:List Stage} {r r':bX},l.length=m.length->l.flatMap mQ++r=m.flatMap mQ++r'->l=m/\r=r'
 |[],[],r,r',_,h=>⟨Z,by simpa using h⟩
 |a::l,b::m,r,r',hl,h=>by
  have h:(a.taps:Int)::(a.gain:Int)::kindOf a::(a.scale:Int)::(l.flatMap mQ++r)=(b.taps:Int)::(b.gain:Int)::kindOf b::(b.scale:Int)::(m.flatMap mQ++r'):=h;injection h with h1 h
  injection h with h2 h
  injection h with h3 h
  injection h with h4 h
  obtain⟨e1,e2⟩:=Jw (by simpa using hl) h;refine⟨?_,e2⟩;rw[e1];congr 1;obtain⟨a1,a2,a3,a4⟩:=a;obtain⟨b1,b2,b3,b4⟩:=b;have:=RR h3;dsimp only at h1 h2 h4 this;rw[jm.mp h1,jm.mp h2,jm.mp h4,this]
def Sl {a b:RowWay}{r r':bX}(h:Bt a++r=Bt b++r'):a=b/\r=r':=by
 have h:(a.fixed:Int)::(a.stages.length:Int)::(a.stages.flatMap mQ++r)=(b.fixed:Int)::(b.stages.length:Int)::(b.stages.flatMap mQ++r'):=h;injection h with h1 h
 injection h with h2 h
 obtain⟨e1,e2⟩:=Jw (jm.mp h2) h;refine⟨?_,e2⟩;obtain⟨a1,a2⟩:=a;obtain⟨b1,b2⟩:=b;dsimp only at h1 e1;rw[jm.mp h1,e1]
def Js (r:RowWay):2<=(Bt r).length:=by simp[Bt]
theorem Fo:∀{l m:List RowWay} {js ks:bX},js.length<=2->ks.length<=2->(l.length<m.length->js.length<=ks.length)->(m.length<l.length->ks.length<=js.length)->
  l.flatMap Bt++js=m.flatMap Bt++ks->l=m/\js=ks
 |[],[],js,ks,_,_,_,_,h=>⟨Z,by simpa using h⟩
 |[],b::m,js,ks,h1,h2,h3,_,h=>by
  have:=congrArg lA h;have z:=Js b;have:=h3 (by simp);rw[cn] at*;simp at*;lia
 |a::l,[],js,ks,h1,h2,_,h4,h=>by
  have:=congrArg lA h;have z:=Js a;have:=h4 (by simp);rw[cn] at*;simp at*;lia
 |a::l,b::m,js,ks,h1,h2,h3,h4,h=>by
  rw[cn,cn,cD,cD] at h;obtain⟨e1,e2⟩:=Sl h;obtain⟨e3,e4⟩:=Fo (l:=l) (m:=m) h1 h2 (λq=>h3 (by simpa using q)) (λq=>h4 (by simpa using q)) e2;exact⟨by rw[e1,e3],e4⟩
def Vi {g:Form}(hf:FG f)(hg:FG g)(h:GV f.rows f.joint=GV g.rows g.joint):f.rows=g.rows/\f.joint=g.joint:=by
 have l1:=hf.jl;have l2:=hg.jl;have r1:=hf.r4;have r2:=hg.r4;obtain⟨e1,e2⟩:=Fo (by rw[aB];lia) (by rw[aB];lia) (λq=>by rw[aB,aB];lia) (λq=>by rw[aB,aB];lia) h;refine⟨e1,?_⟩;have inj:∀{a b:ie},a.map (λ(j:Nat)=>(j:Int))=b.map (λ(j:Nat)=>(j:Int))->a=b:=by
  intro a;induction a with
  |nil=>intro b h;cases b with
   |nil=>rfl
   |cons _ _=>simp at h
  |cons x a ih=>intro b h;cases b with
   |nil=>simp at h
   |cons y b=>
    rw[cz,cz] at h;injection h with h1 h2
    rw[jm.mp h1,ih h2]
 exact inj e2
def VP {g:Form}(hf:FG f)(hg:FG g):sameForm f g=true↔f.bits=g.bits/\f.cut=g.cut/\f.lanes=g.lanes/\GV f.rows f.joint=GV g.rows g.joint:=by
 rw[C0];constructor
 .rintro rfl;exact⟨Z,Z,Z,Z⟩
 .rintro⟨h1,h2,h3,h4⟩;obtain⟨h5,h6⟩:=Vi hf hg h4;obtain⟨a1,a2,a3,a4,a5⟩:=f;obtain⟨b1,b2,b3,b4,b5⟩:=g;dsimp only at*;rw[h1,h2,h3,h5,h6]
open LwBits LwSound SoundCalls
def iS (B x:Int):Prop:= -B<=x/\x<=B
def Cs {s:Stage}{l:Learnt}(g:iw s)(ok:xM s l):iS (2^38) (LY s l):=by
 obtain⟨a1,a2,a3,a4,a5,a6⟩:=g;have hd:=MC (u_ s).1 (zf s).1 ok.wb ok.hb;rw[ok.wl] at hd;rw[EI ok];unfold iS;by_cases hw:s.wide=true
 .rw[aj hw];have e1:ow s=1048576:=by unfold ow;rw[aj hw]
  have e2:mH s=1073741824:=by unfold mH;rw[aj hw]
  rw[e1,e2] at hd;have:=(a6 hw).2;have e3:(1048576:Int)*1073741824=1125899906842624:=by decide
  rw[e3] at hd;have XY:(2:Int)^38=274877906944:=by decide
  rw[XY];have h8:((s.taps:Nat):Int)<=8:=by lia
  lia
 .rw[ah hw];have e1:ow s=32767:=by unfold ow;rw[ah hw]
  have e2:mH s=32767:=by unfold mH;rw[ah hw]
  rw[e1,e2] at hd;have e3:(32767:Int)*32767=1073676289:=by decide
  rw[e3] at hd;have XY:(2:Int)^38=274877906944:=by decide
  rw[XY];have h16:((s.taps:Nat):Int)<=16:=by lia
  have hp:(2:Int)^s.scale<=2^12:=yO a5;have hp0:=two_pos s.scale;have h12:(2:Int)^12=4096:=by decide
  rw[h12] at hp;generalize(2:Int)^s.scale=P at hp hp0|-
  generalize sQ l.w l.h=D at hd|-
  have b1:D<=17178820624:=by lia
  have b2: -17178820624<=D:=by lia
  have m1:D*P<=17178820624*4096:=by
   rcases ams 0 D with q|q
   .exact BQ b1 hp (by lia) (by decide)
   .have:=Int.mul_nonneg_of_nonpos_of_nonpos q (show-P<=0 by lia);rw[Int.mul_neg] at this;lia
  have m2: -(17178820624*4096)<=D*P:=by
   rcases ams 0 D with q|q
   .have:=kZ q (show(0:Int)<=P by lia);lia
   .have:=BQ (show-D<=17178820624 by lia) hp (by lia) (by decide);rw[Int.neg_mul] at this;lia
  lia
def Qo {ss:List Stage}:∀{ls:List Learnt} (u B:Int),ls.length=ss.length->(∀s∈ss,iw s)->(∀(i:Nat) (s:Stage) (x:Learnt),ss[i]? =some s->ls[i]? =some x->xM s x)->
  iS B u->iS (B+ss.length*2^38) (mx (ss.zip ls) u).1:=by
 induction ss with
 |nil=>
  intro ls u B _ _ _ h;have:(mx (List.zip ([]:List Stage) ls) u).1=u:=by simp[mx]
  rw[this];unfold iS at*;simp;exact h
 |cons s0 ss ih=>
  intro ls u B hl h1 h hu
  match ls,hl with
  |l0::ls,hl=>
   simp only[uL,mx];have f:=Cs (h1 s0 (aU ..)) (h 0 s0 l0 rfl rfl);have z:=ih (ls:=ls) (u-LY s0 l0) (B+2^38) (by simpa using hl) (λs m=>h1 s (aP _ m)) (λi s x a b=>h (i+1) s x (by simpa using a) (by simpa using b)) (by unfold iS at*;lia);unfold iS at z|-
   rw[aZ,fq,BP];have XY:(2:Int)^38=274877906944:=by decide
   rw[XY] at z|-
   lia
def Xi {ss:List Stage}:∀{ls:List Learnt} (u B:Int),ls.length=ss.length->(∀s∈ss,iw s)->(∀(i:Nat) (s:Stage) (x:Learnt),ss[i]? =some s->ls[i]? =some x->xM s x)->
  iS B u->iS (B+ss.length*2^38) (mm (ss.zip ls) u).1:=by
 induction ss with
 |nil=>
  intro ls u B _ _ _ h;have:(mm (List.zip ([]:List Stage) ls) u).1=u:=by simp[mm]
  rw[this];unfold iS at*;simp;exact h
 |cons s0 ss ih=>
  intro ls u B hl h1 h hu
  match ls,hl with
  |l0::ls,hl=>
   simp only[uL,mm];have f:=Cs (h1 s0 (aU ..)) (h 0 s0 l0 rfl rfl);have z:=ih (ls:=ls) u B (by simpa using hl) (λs m=>h1 s (aP _ m)) (λi s x a b=>h (i+1) s x (by simpa using a) (by simpa using b)) hu;unfold iS at f z|-
   rw[aZ,fq,BP];have XY:(2:Int)^38=274877906944:=by decide
   rw[XY] at f z|-
   lia
def mz (B:Int)(l:RowLearnt):Prop:=∀x∈l.last,iS B x
def Lk {l:bX}(hB:0<=B)(h:∀x∈l,iS B x):iS (7*B) (jd p l):=by
 have g:∀i,iS B (l.getD i 0):=λi=>by
  rw[aG];cases e:l[i]? with
  |none=>unfold iS;simp;lia
  |some x=>exact h x (az e)
 have g0:=g 0;have g1:=g 1;have g2:=g 2;unfold iS at*
 match p with
 |0=>show-(7*B)<=0/\0<=7*B;lia
 |1=>show-(7*B)<=l.getD 0 0/\l.getD 0 0<=7*B;lia
 |2=>show-(7*B)<=2*l.getD 0 0-l.getD 1 0/\2*l.getD 0 0-l.getD 1 0<=7*B;lia
 |p+3=>show-(7*B)<=3*l.getD 0 0-3*l.getD 1 0+l.getD 2 0/\3*l.getD 0 0-3*l.getD 1 0+l.getD 2 0<=7*B;lia
def Zh (ok:lH r l)(g:lJ r)(hl:mz (2^24) l)(hx:iS (2^24) x):iS (2^40) (m8 r l x).1/\mz (2^24) (m8 r l x).2:=by
 constructor
 .have f:=Lk (p:=r.fixed) (B:=2^24) (by decide) hl;have z:=Qo (ss:=r.stages) (ls:=l.stages) (x-jd r.fixed l.last) (8*2^24) ok.sl g.st ok.st (by unfold iS at*;lia);have:=g.sn;show iS (2^40) (mx (r.stages.zip l.stages) (x-jd r.fixed l.last)).1;unfold iS at*;have XY:(2:Int)^38=274877906944:=by decide
  have h24:(2:Int)^24=16777216:=by decide
  have h40:(2:Int)^40=1099511627776:=by decide
  rw[XY,h24] at z;rw[h40];have hn:((r.stages.length:Nat):Int)<=2:=by lia
  lia
 .intro y hy;have hy:y∈x::l.last.take 2:=hy;rcases bo.mp hy with q|q
  .rw[q];exact hx
  .exact hl y (e_ q)
def xO (ok:lH r l)(g:lJ r)(hl:mz (2^24) l)(xs:bX)(hx:∀x∈xs,iS (2^24) x):
  (∀e∈(nv (m8 r) l xs).1,iS (2^40) e)/\mz (2^24) (nv (m8 r) l xs).2:=by
 have:∀(xs:bX) (a:bX×RowLearnt),lH r a.2->(∀x∈xs,iS (2^24) x)->(∀e∈a.1,iS (2^40) e)->mz (2^24) a.2->
   (∀e∈(xs.foldl (λ(a:bX×RowLearnt) (x:Int)=>(a.1++[(m8 r a.2 x).1],(m8 r a.2 x).2)) a).1,iS (2^40) e)/\mz (2^24) (xs.foldl (λ(a:bX×RowLearnt) (x:Int)=>(a.1++[(m8 r a.2 x).1],(m8 r a.2 x).2)) a).2:=by
  intro xs;induction xs with
  |nil=>intro a _ _ h1 h2;exact⟨h1,h2⟩
  |cons x rr ih=>
   intro a ok hx h1 h2;rw[bR];obtain⟨z1,z2⟩:=Zh ok g h2 (hx x (aU ..));refine ih _ (ok.rest g x) (λy m=>hx y (aP _ m)) (λe he=>?_) z2;rcases c_.mp he with q|q
   .exact h1 e q
   .rw[gc.mp q];exact z1
 exact this xs _ ok hx (λe he=>by simp at he) hl
def adh {e:Int}(h:iS (2^40) e):zig e+1<2^64:=by
 unfold iS at h;have h40:(2:Int)^40=1099511627776:=by decide
 rw[h40] at h;unfold zig;split<;>omega
def agZ (e:Int):(if 0<=e then 2*e else-2*e-1)=((zig e:Nat):Int):=by
 unfold zig;by_cases h:0<=e
 .rw[aj h,aj h];lia
 .rw[ah h,ah h];lia
def agY (n:Nat):(if((n:Nat):Int)%2=0 then((n:Nat):Int) / 2 else-(((n:Nat):Int)+1) / 2)=zag n:=by
 unfold zag;by_cases h:n%2=0
 .rw[aj h,aj (by lia)];lia
 .rw[ah h,ah (by lia)];lia
def UX (ok:lH r l)(g:lJ r){B:Int}(hB:2^50<=B)(hl:mz B l){e:Int}(he:iS (2^46) e):iS (8*B) (kU r l e).1/\mz (8*B) (kU r l e).2:=by
 have h50:(2:Int)^50=1125899906842624:=by decide
 have h46:(2:Int)^46=70368744177664:=by decide
 have XY:(2:Int)^38=274877906944:=by decide
 rw[h50] at hB;have f:=Lk (p:=r.fixed) (B:=B) (by lia) hl;have z:=Xi (ss:=r.stages) (ls:=l.stages) e (2^46) ok.sl g.st ok.st he;have:=g.sn;have main:iS (8*B) ((mm (r.stages.zip l.stages) e).1+jd r.fixed l.last):=by
  unfold iS at*;rw[h46,XY] at z;have hn:((r.stages.length:Nat):Int)<=2:=by lia
  lia
 refine⟨main,λy hy=>?_⟩;have hy:y∈((mm (r.stages.zip l.stages) e).1+jd r.fixed l.last)::l.last.take 2:=hy;rcases bo.mp hy with q|q
 .rw[q];exact main
 .have:=hl y (e_ q);unfold iS at*;lia
def Hj (ok:lH r l)(g:lJ r)(hB:2^50<=B)(hl:mz B l)(xs:bX)(hx:∀x∈xs,iS (2^46) x):
  ∀y∈(nv (kU r) l xs).1,iS (8^xs.length*B) y:=by
 have fA:∀(xs:bX) (a:bX×RowLearnt) (B:Int),2^50<=B->lH r a.2->(∀x∈xs,iS (2^46) x)->(∀e∈a.1,iS B e)->mz B a.2->
   (∀e∈(xs.foldl (λ(a:bX×RowLearnt) (x:Int)=>(a.1++[(kU r a.2 x).1],(kU r a.2 x).2)) a).1,iS (8^xs.length*B) e):=by
  intro xs;induction xs with
  |nil=>intro a B _ _ _ h1 h2;simpa using h1
  |cons x rr ih=>
   intro a B hB ok hx h1 h2;rw[bR,aZ,Int.pow_succ,QG];obtain⟨z1,z2⟩:=UX ok g hB h2 (hx x (aU ..));refine ih _ (8*B) (by lia) (ok.back g x) (λy m=>hx y (aP _ m)) (λe he=>?_) z2;rcases c_.mp he with q|q
   .have:=h1 e q;unfold iS at*;have h50:(2:Int)^50=1125899906842624:=by decide
    lia
   .rw[gc.mp q];exact z1
 exact fA xs _ B hB ok hx (λe he=>by simp at he) hl
open LwBits LwSound SoundCalls
inductive ub:bX->ly->bX->Prop where
 |open_ (t:bX):ub (0::t) [[0]] t
 |head (u t:bX):ub (1::(u.length:Int)::(u++t)) [[1],u] t
 |read (u t:bX):ub (2::(u.length:Int)::(u++t)) [[2],u] t
 |write (k b c l r:Int) (w s x t:bX):ub (3::k::b::c::l::r::(w.length:Int)::(w++((s.length:Int)::(s++((x.length:Int)::(x++t)))))) [[3,k,b,c,l,r],w,s,x] t
 |cut (k b c l r:Int) (w s x t:bX):ub (4::k::b::c::l::r::(w.length:Int)::(w++((s.length:Int)::(s++((x.length:Int)::(x++t)))))) [[4,k,b,c,l,r],w,s,x] t
def YD {a:bX}(h:a.length=5):∃k b c l r,a=[k,b,c,l,r]:=by
 obtain⟨k,a,rfl,h1⟩:=lcs h;obtain⟨b,a,rfl,h2⟩:=lcs h1;obtain⟨c,l,r,rfl⟩:=lc3 h2;exact⟨k,b,c,l,r,Z⟩
def ad8 (p:Int)(u t:bX):G9 [[p],u]++t=p::(u.length:Int)::(u++t):=by simp[G9,adA,aeP]
def ad9 (p k b c l r:Int)(w s x t:bX):G9 [[p,k,b,c,l,r],w,s,x]++t=p::k::b::c::l::r::(w.length:Int)::(w++((s.length:Int)::(s++((x.length:Int)::(x++t))))):=by simp[G9,adA,aeP]
def abq {l:bX}{c:ly}{t:bX}(h:S8 jh l=some (c,t)):ub l c t:=by
 obtain⟨e,p,a,xs,rfl,hs⟩:=PyFlat.call_inv h;clear h;subst e;unfold jh at hs;by_cases h0:p=0
 .rw[aj h0] at hs;obtain⟨e1,e2⟩:=zF (bh hs);rw[di e1.symm,di e2.symm,h0];exact .open_ t
 rw[ah h0] at hs;by_cases h1:p=1
 .rw[aj h1] at hs;obtain⟨e1,e2⟩:=zF (bh hs);obtain⟨u,rfl⟩:=lc1 e2.symm;rw[di e1.symm,ad8,h1];exact .head u t
 rw[ah h1] at hs;by_cases h2:p=2
 .rw[aj h2] at hs;obtain⟨e1,e2⟩:=zF (bh hs);obtain⟨u,rfl⟩:=lc1 e2.symm;rw[di e1.symm,ad8,h2];exact .read u t
 rw[ah h2] at hs;by_cases h3:p=3
 .rw[aj h3] at hs;obtain⟨e1,e2⟩:=zF (bh hs);obtain⟨k,b,c,l,r,rfl⟩:=YD e1.symm;obtain⟨w,s,x,rfl⟩:=lc3 e2.symm;rw[ad9,h3];exact .write k b c l r w s x t
 rw[ah h3] at hs;by_cases h4:p=4
 .rw[aj h4] at hs;obtain⟨e1,e2⟩:=zF (bh hs);obtain⟨k,b,c,l,r,rfl⟩:=YD e1.symm;obtain⟨w,s,x,rfl⟩:=lc3 e2.symm;rw[ad9,h4];exact .cut k b c l r w s x t
 rw[ah h4] at hs;cases hs
def Z1 {l:bX}{c:ly}{t:bX}(h:ub l c t):JM c=c:=by cases h<;>rfl
inductive qx:bX->List (ly)->Prop where
 |nil:qx [] []
 |cons {l t:bX} {c:ly} {cs:List (ly)} (h:ub l c t) (r:qx t cs):qx l (c::cs)
theorem La:∀(f:Nat) (l:bX) (cs:List (ly)),tG jh f l=some cs->qx l cs
 |f,[],cs,h=>by
  have:cs=[]:=by cases f<;>(simp[tG] at h;exact h)
  subst this;exact .nil
 |0,_::_,cs,h=>by cases h
 |f+1,p::r,cs,h=>by
  have h:(match S8 jh (p::r) with
   |none=>none
   |some (c,t)=>match tG jh f t with
    |none=>none
    |some cs=>some (c::cs))=some cs:=h
  cases e:S8 jh (p::r) with
  |none=>rw[e] at h;cases h
  |some x=>
   obtain⟨c,t⟩:=x;rw[e] at h;simp only at h;cases e2:tG jh f t with
   |none=>rw[e2] at h;cases h
   |some cs'=>
    rw[e2] at h;cases h;exact .cons (abq e) (La f t cs' e2)
def Wb {l:bX}{cs:List (ly)}(h:qx l cs):cs.map JM=cs:=by
 induction h with
 |nil=>rfl
 |cons h r ih=>rw[cz,Z1 h,ih]
def QO {l:bX}(h:NV l=true):∃cs,qx l cs/\(∀c∈cs,jN c=true)/\cs.length<=200/\Ew l=Ae (BS aQ aqX cs):=by
 unfold NV at h;unfold Ew;have hc:PyWrlnth.calls l=(match tG jh l.length l with|none=>none|some cs=>some (cs.map JM)):=rfl;cases e:tG jh l.length l with
 |none=>
  rw[e] at hc;rw[hc] at h;cases h
 |some cs=>
  have ca:=La _ _ _ e;rw[e] at hc;simp only at hc;rw[Wb ca] at hc;rw[hc] at h|-
  simp only at h|-
  refine⟨cs,ca,?_,?_,Z⟩
  .have h2:=(eZ.mp h).2;unfold aqW at h2;have h3:=(eZ.mp (eZ.mp h2).2).2;exact fz.mp h3
  .exact of_decide_eq_true (eZ.mp h).1
def V5 (a:bX)(l:ly):Ae (a::l)=(a.length:Int)::(a++Ae l):=by
 simp[Ae]
def P0 (s:aqV)(c:ly)(cs:List (ly)):BS aQ s (c::cs)=(aQ s c).2::BS aQ (aQ s c).1 cs:=rfl
open LwBits LwSound
def gu {α:Type}{l:List α}{x d:α}(h:l[i]? =some x):l.getD i d=x:=by rw[aG,h];rfl
def zm {α:Type}{f:Nat->α}(h:i<n):((aK n).map f)[i]? =some (f i):=by
 rw[aw,bD h];rfl
def get_some {α:Type}{l:List α}(h:i<l.length):∃x,l[i]? =some x:=⟨_,aD h⟩
def fJ {α:Type}{l:List α}{x:α}(h:l[i]? =some x):i<l.length:=(aN.mp h).1
structure Du (st:aW):Prop where
 fg:FG st.form
 ln:st.rows.length=st.form.rows.length
 ok:∀(i:Nat) rw l,st.form.rows[i]? =some rw->st.rows[i]? =some l->lH rw l/\sE st.form l.eps/\mz (2^24) l
def Du.new (g:FG f):Du (newState f):=by
 refine⟨g,by simp[newState],λi rw l h1 h2=>?_⟩;have RE:f.rows[i]? =some rw:=h1;have h2':(f.rows.map newRow)[i]? =some l:=h2;rw[aw,RE] at h2';cases h2';refine⟨lH.new (g.lS rw (az RE)),sE.nil _,λx hx=>?_⟩;have:x=0:=by simpa[newRow] using hx
 rw[this];exact⟨by decide,by decide⟩
def wR (h:iS B x):iS (2*B) x:=by unfold iS at*;lia
def YB {y:Int}(h:iS B x)(k:iS B y):iS (2*B) (x+y):=by unfold iS at*;lia
def Pl {y:Int}(h:iS B x)(k:iS B y):iS (2*B) (x-y):=by unfold iS at*;lia
def ajJ (h:iS (2*B) x):iS (2*B) (uS x 2):=by
 rw[cv _ (by decide)];unfold iS at*;lia
def Yw {m:Nat}{l r:Int}(hl:iS (2^23) l)(hr:iS (2^23) r):iS (2^24) (join m l r).1/\iS (2^24) (join m l r).2:=by
 rw[show(2:Int)^24=2*2^23 by decide]
 match m with
 |0=>exact⟨wR hl,wR hr⟩
 |1=>exact⟨wR hl,Pl hr hl⟩
 |2=>exact⟨Pl hl hr,wR hr⟩
 |m+3=>exact⟨ajJ (YB hl hr),Pl hl hr⟩
def SJ {m:Nat}{a b:Int}(h1:iS (2^23) (JX m a b).1)(h2:iS (2^23) (JX m a b).2):iS (2^24) a/\iS (2^24) b:=by
 rw[show(2:Int)^24=2*2^23 by decide];generalize(2:Int)^23=B at*
 match m,h1,h2 with
 |0,h1,h2=>exact⟨wR h1,wR h2⟩
 |1,h1,h2=>exact⟨wR h1,uR b a ▸ Pl h2 h1⟩
 |2,h1,h2=>exact⟨uR a b ▸ Pl h1 h2,wR h2⟩
 |m+3,h1,h2=>
  have h1:iS B (a+uS (b+1) 2):=h1;have h2:iS B (a+uS (b+1) 2-b):=h2;rw[cv _ (by decide)] at h1 h2;unfold iS at*;omega
theorem wj {g:Nat->Int->Int->Int×Int}{p q:Int->Prop}(h0:p 0)(Yl:∀x,p x->q x)(hg:∀m l r,p l->p r->q (g m l r).1/\q (g m l r).2):∀(js:ie) (rows:ly),(∀x∈rows,∀v∈x,p v)->∀x∈jT g js rows,∀v∈x,q v
 |[],rows,h=>by rw[o7];exactλx hx v hv=>Yl v (h x hx v hv)
 |_::_,[],h=>λx hx v hv=>Yl v (h x hx v hv)
 |_::_,[_],h=>λx hx v hv=>Yl v (h x hx v hv)
 |j::js,a::b::r,h=>λx hx v hv=>by
  have ih:=wj h0 Yl hg js r λx m=>h x (by simp[m]);have gd:∀(y:bX) (t:Nat),(∀v∈y,p v)->p (y.getD t 0):=λy t hy=>by
   rw[aG];cases e:y[t]? with
   |none=>exact h0
   |some z=>exact hy z (az e)
  simp only[jT,bo] at hx;rcases hx with e|e|e
  .rw[e] at hv;obtain⟨t,_,rfl⟩:=bj.mp hv;exact(hg j _ _ (gd a t (h a (by simp))) (gd b t (h b (by simp)))).1
  .rw[e] at hv;obtain⟨t,_,rfl⟩:=bj.mp hv;exact(hg j _ _ (gd a t (h a (by simp))) (gd b t (h b (by simp)))).2
  .exact ih x e v hv
def M8 (h:iS (2^23) x):iS (2^24) x:=by
 have h23:(2:Int)^23=8388608:=by decide
 have h24:(2:Int)^24=16777216:=by decide
 unfold iS at*;lia
theorem Cy:∀(js:ie) (rows:ly),(∀x∈rows,x.length=n)->(∀x∈jT JX js rows,∀v∈x,iS (2^23) v)->∀x∈rows,∀v∈x,iS (2^24) v
 |[],rows,_,h=>by rw[o7] at h;exactλx hx v hv=>M8 (h x hx v hv)
 |_::_,[],_,h=>λx hx v hv=>M8 (h x hx v hv)
 |_::_,[_],_,h=>λx hx v hv=>M8 (h x hx v hv)
 |j::js,a::b::r,hn,h=>λx hx v hv=>by
  simp only[jT] at h;have ih:=Cy js r (λx m=>hn x (by simp[m])) (λx m=>h x (by simp[m]));have ha:=hn a (by simp);have hb:=hn b (by simp);have both:∀t,t<n->iS (2^24) (a.getD t 0)/\iS (2^24) (b.getD t 0):=λt ht=>
   SJ (m:=j) (h _ (aU ..) _ (bj.mpr ⟨t,cb.mpr (by lia),Z⟩)) (h _ (aP _ (aU ..)) _ (bj.mpr ⟨t,cb.mpr (by lia),Z⟩))
  simp only[bo] at hx;rcases hx with e|e|e
  .subst e;obtain⟨t,ht⟩:=dJ.mp hv;rw[<-gu (d:=0) ht];exact(both t (by have:=fJ ht;lia)).1
  .subst e;obtain⟨t,ht⟩:=dJ.mp hv;rw[<-gu (d:=0) ht];exact(both t (by have:=fJ ht;lia)).2
  .exact ih x e v hv
theorem K3 {f:RowLearnt->Int->Int×RowLearnt}:∀(xs:bX) (a:bX×RowLearnt),∀e∈a.1,e∈(xs.foldl (λ(a:bX×RowLearnt) (x:Int)=>(a.1++[(f a.2 x).1],(f a.2 x).2)) a).1
 |[],a,e,h=>h
 |x::r,a,e,h=>by rw[bR];exact K3 r _ e (mY _ h)
theorem Hk:∀(xs:bX) (a:bX×RowLearnt),(∀e∈(xs.foldl (λ(a:bX×RowLearnt) (x:Int)=>(a.1++[(kU r a.2 x).1],(kU r a.2 x).2)) a).1,iS B e)->mz B a.2->mz B (xs.foldl (λ(a:bX×RowLearnt) (x:Int)=>(a.1++[(kU r a.2 x).1],(kU r a.2 x).2)) a).2
 |[],a,_,h=>h
 |x::rr,a,hy,h=>by
  rw[bR] at hy|-
  refine Hk rr _ hy λy m=>?_;have m:y∈(kU r a.2 x).1::a.2.last.take 2:=m;rcases bo.mp m with q|q
  .rw[q];exact hy _ (K3 (f:=kU r) rr _ _ (eQ _ (gc.mpr rfl)))
  .exact h y (e_ q)
def i8 (s:aW)(aS:bX)(xs:ly):(LX s aS xs).length=xs.length:=by simp[LX]
def qC {x:bX}(h1:xs[i]? =some x)(h2:s.rows[i]? =some l):(LX s aS xs)[i]? =some (zw s.form aS l.eps x):=by
 unfold LX;rw[zm (fJ h1),gu h1,gu h2]
def i9 (s:aW)(aS:bX)(xs:ly):ly:=jT join s.form.joint ((LX s aS xs).map λ(x:bX×List Int)=>x.1)
def jP (s:aW)(aS:bX)(xs:ly):(i9 s aS xs).length=xs.length:=by
 unfold i9;rw[gG,aB,i8]
def Pd (hn:∀x∈xs,x.length=n):∀y∈i9 s aS xs,y.length=n:=by
 refine nj _ _ _ λy hy=>?_;obtain⟨c,hc,rfl⟩:=bj.mp hy;obtain⟨i,hi,rfl⟩:=bj.mp hc;obtain⟨x,hx⟩:=get_some (cb.mp hi);rw[qj,gu hx];exact hn x (az hx)
def Ir (so:Du s)(hs:aS.length=4)(hl:xs.length=s.form.rows.length)(hx:∀x∈xs,∀v∈x,cB s.form v=true):∀y∈i9 s aS xs,∀v∈y,iS (2^24) v:=by
 refine wj (p:=iS (2^23)) ⟨by decide,by decide⟩ (λ_ h=>M8 h) (λm l r h1 h2=>Yw h1 h2) _ _ λy hy v hv=>?_;obtain⟨c,hc,rfl⟩:=bj.mp hy;obtain⟨i,hi⟩:=dJ.mp hc;have h0:=fJ hi;rw[i8] at h0;obtain⟨x,JU⟩:=get_some h0;obtain⟨l,WB⟩:=get_some (show i<s.rows.length by rw[so.ln];omega);obtain⟨lS,hr1⟩:=get_some (show i<s.form.rows.length by omega);rw[qC JU WB] at hi;cases hi;have b:=B0 so.fg hs (so.ok i lS l hr1 WB).2.1 x (hx x (az JU)) v hv;have lb:=IC so.fg;constructor<;>omega
def lL (s:aW)(aS:bX)(xs:ly):ly:=(lD m8 s (i9 s aS xs)).map λ(x:bX×RowLearnt)=>x.1
def SN (s:aW)(fA:Bool)(aS:bX)(xs:ly)(n:Nat):(written s fA aS xs n).1=blockBytes fA s.form n (code s.form.lanes (models xs.length) (itemsOf (lL s aS xs) n)):=rfl
def wB {fA:Bool}{rw:RowWay}{x y:bX}(h1:s.form.rows[i]? =some rw)(h2:s.rows[i]? =some l)(h3:xs[i]? =some x)(h4:(i9 s aS xs)[i]? =some y):
  (written s fA aS xs n).2.rows[i]? =some {(nv (m8 rw) l y).2 with eps:=(zw s.form aS l.eps x).2}:=by
 show((aK (lD m8 s (i9 s aS xs)).length).map λ(r:Nat)=>({((lD m8 s (i9 s aS xs)).getD r ([],⟨[],[],[]⟩)).2 with eps:=((LX s aS xs).getD r ([],[])).2}:RowLearnt))[i]? =_;have ha:(lD m8 s (i9 s aS xs))[i]? =some (nv (m8 rw) l y):=by
  unfold lD;rw[zm (fJ h4),gu h1,gu h2,gu h4]
 rw[zm (fJ ha),gu ha,gu (qC h3 h2)]
def yQ (s:aW)(fA:Bool)(aS:bX)(xs:ly)(n:Nat):(written s fA aS xs n).2.rows.length=xs.length:=by
 show((aK (lD m8 s (i9 s aS xs)).length).map λ(r:Nat)=>({((lD m8 s (i9 s aS xs)).getD r ([],⟨[],[],[]⟩)).2 with eps:=((LX s aS xs).getD r ([],[])).2}:RowLearnt)).length=_;rw[aB,j4];unfold lD;rw[aB,j4,jP]
def Du.written {fA:Bool}(so:Du s)(hs:aS.length=4)(hl:xs.length=s.form.rows.length)(hx:∀x∈xs,∀v∈x,cB s.form v=true):Du (dt s fA aS xs n).2:=by
 refine⟨so.fg,(yQ ..).trans hl,λi rw l h1 h2=>?_⟩;have h1:s.form.rows[i]? =some rw:=h1;have hi:=fJ h1;obtain⟨l0,Ik⟩:=get_some (show i<s.rows.length by rw[so.ln];omega);obtain⟨x,WK⟩:=get_some (show i<xs.length by omega);obtain⟨y,hy0⟩:=get_some (show i<(i9 s aS xs).length by rw[jP];omega);rw[wB h1 Ik WK hy0] at h2;cases h2;obtain⟨o1,o2,o3⟩:=so.ok i rw l0 h1 Ik;have g:=so.fg.lS rw (az h1);have o:=Hl (f:=m8) (λl x q=>q.rest g x) o1 y;have e:=AX so.fg hs o2 x (hx x (az WK));exact⟨⟨o.fx,o.la,o.sl,o.st,e.len⟩,e,(xO o1 g o3 y (Ir so hs hl hx y (az hy0))).2⟩
def VO (so:Du s)(hs:aS.length=4)(hl:xs.length=s.form.rows.length)(hx:∀x∈xs,∀v∈x,cB s.form v=true):∀e∈lL s aS xs,∀v∈e,zig v+1<2^64:=λe he v hv=>by
 obtain⟨c,hc,rfl⟩:=bj.mp he;obtain⟨i,hi,rfl⟩:=bj.mp hc;have hi:=cb.mp hi;obtain⟨y,hy0⟩:=get_some hi;rw[jP] at hi;obtain⟨l0,Ik⟩:=get_some (show i<s.rows.length by rw[so.ln];lia);obtain⟨lS,hr0⟩:=get_some (show i<s.form.rows.length by lia);rw[gu hr0,gu Ik,gu hy0] at hv;obtain⟨o1,o2,o3⟩:=so.ok i lS l0 hr0 Ik;exact adh ((xO o1 (so.fg.lS lS (az hr0)) o3 y (Ir so hs hl hx y (az hy0))).1 v hv)
def Sj (hn:∀x∈xs,x.length=n):∀e∈lL s aS xs,e.length=n:=λe he=>by
 obtain⟨c,hc,rfl⟩:=bj.mp he;obtain⟨i,hi,rfl⟩:=bj.mp hc;obtain⟨y,hy0⟩:=get_some (cb.mp hi);rw[vL,gu hy0];exact Pd hn y (az hy0)
def rW (s:aW)(aS:bX)(xs:ly):(lL s aS xs).length=xs.length:=by
 unfold lL lD;rw[aB,aB,j4,jP]
inductive Fb (b:rH)(p w:Nat)(ok:Bool)(r:List (Nat×Nat×Bool)):Prop|i(l:p+w<=b.length)(_:ok=true)(_:mI b r=none)
def NW {ok:Bool}{r:List (Nat×Nat×Bool)}(h:mI b ((p,w,ok)::r)=none):Fb b p w ok r:=by
 rw[qk] at h;by_cases h1:b.length<p+w
 .rw[aj h1] at h;cases h
 rw[ah h1] at h;cases ok with
 |false=>cases h
 |true=>exact⟨iY.mp h1,Z,h⟩
def fok {β:Type}{o:Option Nat}{e:Except Nat β}{x:β}(h:(match(generalizing:=false) o with|some y=>(.error y:Except Nat β)|none=>e)=.ok x):o=none/\e=.ok x:=by
 cases o with
 |none=>exact⟨Z,h⟩
 |some y=>cases h
def bt2 {p q:Prop}[Decidable p][Decidable q](h:(decide p&&decide q)=true):p/\q:=by simpa using h
def agl {t g:Nat}(h1:(decide (1<=t)&&decide (t<=TAPS))=true)(h2:(decide (1<=g)&&decide (g<=1024))=true)(h3:(w==0||(w==1&&decide (t<=WIDE)))=true)(h4:(decide (c<=12)&&(w==0||c==0))=true):iw ⟨t,g,w==1,c⟩:=by
 obtain⟨a1,a2⟩:=bt2 h1;obtain⟨a3,a4⟩:=bt2 h2;obtain⟨a5,a6⟩:=eZ.mp h4;refine⟨a1,a2,a3,a4,of_decide_eq_true a5,λhw=>?_⟩;have hw:w=1:=beq_iff_eq.mp hw;subst hw;exact⟨beq_iff_eq.mp a6,of_decide_eq_true h3⟩
theorem Fl:∀(k p:Nat) {ss:List Stage} {q:Nat},rJ b k p=.ok (ss,q)->ss.length=k/\(∀s∈ss,iw s)/\(p<=b.length->q<=b.length)
 |0,p,ss,q,h=>by cases h;exact⟨Z,nofun,id⟩
 |k+1,p,ss,q,h=>by
  obtain⟨hb,h0⟩:=fok h;clear h;cases hr:rJ b k (p+8) with
  |error y=>rw[hr] at h0;cases h0
  |ok r=>
  rw[hr] at h0;dsimp only at h0;have h:=h0;clear h0;cases h;obtain⟨_,h1,hb⟩:=NW hb;obtain⟨_,h2,hb⟩:=NW hb;obtain⟨_,h3,hb⟩:=NW hb;obtain⟨_,h4,hb⟩:=NW hb;obtain⟨l5,_,_⟩:=NW hb;obtain⟨i1,i2,i3⟩:=Fl k (p+8) hr;refine⟨congrArg (· +1) i1,λs hs=>?_,λ_=>i3 l5⟩;rcases bo.mp hs with rfl|e
  .exact agl h1 h2 h3 h4
  .exact i2 s e
theorem LL:∀(k p:Nat) {rs:List RowWay} {q:Nat},N2 b k p=.ok (rs,q)->rs.length=k/\(∀r∈rs,lJ r)/\(p<=b.length->q<=b.length)
 |0,p,rs,q,h=>by cases h;exact⟨Z,nofun,id⟩
 |k+1,p,rs,q,h=>by
  obtain⟨hb,h0⟩:=fok h;clear h;cases hs:rJ b (at_ b (p+1)) (p+2) with
  |error y=>rw[hs] at h0;cases h0
  |ok s=>
  rw[hs] at h0;dsimp only at h0;have h:=h0;clear h0;cases hr:N2 b k s.2 with
  |error y=>rw[hr] at h;cases h
  |ok r=>
  rw[hr] at h;dsimp only at h;have h0:=h;clear h;cases h0;obtain⟨_,h1,hb⟩:=NW hb;obtain⟨l2,h2,_⟩:=NW hb;obtain⟨j1,j2,j3⟩:=Fl _ _ hs;obtain⟨i1,i2,i3⟩:=LL k s.2 hr;refine⟨congrArg (· +1) i1,λx hx=>?_,λ_=>i3 (j3 l2)⟩;rcases bo.mp hx with rfl|e
  .exact⟨of_decide_eq_true h1,by show s.1.length<=2;rw[j1];exact of_decide_eq_true h2,j2⟩
  .exact i2 x e
theorem Iu:∀(k p:Nat) {js:ie} {q:Nat},BJ b k p=.ok (js,q)->js.length=k/\(∀j∈js,j<=3)/\(p<=b.length->q<=b.length)
 |0,p,js,q,h=>by cases h;exact⟨Z,nofun,id⟩
 |k+1,p,js,q,h=>by
  obtain⟨hb,h0⟩:=fok h;clear h;cases hr:BJ b k (p+1) with
  |error y=>rw[hr] at h0;cases h0
  |ok r=>
  rw[hr] at h0;dsimp only at h0;have h:=h0;clear h0;cases h;obtain⟨l1,h1,_⟩:=NW hb;obtain⟨i1,i2,i3⟩:=Iu k (p+1) hr;refine⟨congrArg (· +1) i1,λx hx=>?_,λ_=>i3 l1⟩;rcases bo.mp hx with rfl|e
  .exact of_decide_eq_true h1
  .exact i2 x e
structure QF (b:rH)(h:Head)(fo:Option Form)(p:Nat):Prop where
 r1:1<=h.rows
 r4:h.rows<=4
 b1:8<=h.bits
 b2:h.bits<=24
 c:h.cut<h.bits
 l:h.lanes=1\/h.lanes=4\/h.lanes=8\/h.lanes=16
 n1:1<=h.count
 n2:h.count<=64
 p1:p<=b.length
 no:h.key=false->fo=none
 yes:h.key=true->∃f,fo=some f/\FG f/\f.bits=h.bits/\f.cut=h.cut/\f.lanes=h.lanes/\f.rows.length=h.rows
def P_ {h:Head}{fo:Option Form}(e:readHead b=.ok (h,fo,p)):QF b h fo p:=by
 obtain⟨hb,e0⟩:=fok e;clear e;obtain⟨_,_,hb⟩:=NW hb;obtain⟨_,_,hb⟩:=NW hb;obtain⟨_,_,hb⟩:=NW hb;obtain⟨_,z3,hb⟩:=NW hb;obtain⟨_,z4,hb⟩:=NW hb;obtain⟨_,z5,hb⟩:=NW hb;obtain⟨_,z6,hb⟩:=NW hb;obtain⟨_,_,hb⟩:=NW hb;obtain⟨_,z8,hb⟩:=NW hb;obtain⟨l9,_,_⟩:=NW hb;obtain⟨r1,r4⟩:=bt2 z3;obtain⟨b1,b2⟩:=bt2 z4;have c:at_ b 5<at_ b 4:=of_decide_eq_true z5;obtain⟨n1,n2⟩:=bt2 z8;have hl:at_ b 6=1\/at_ b 6=4\/at_ b 6=8\/at_ b 6=16:=by simpa[SO] using z6
 clear z3 z4 z5 z6 z8;by_cases hk:(zx b).key=false
 .have e:(if(zx b).key=false then .ok (zx b,none,16) else _)=mW _:=e0;clear e0;rw[aj hk] at e;cases e;exact⟨r1,r4,b1,b2,c,hl,n1,n2,l9,λ_=>rfl,λq=>by rw[hk] at q;cases q⟩
 have e:(if(zx b).key=false then .ok (zx b,none,16) else _)=mW _:=e0;clear e0;rw[ah hk] at e;cases hr:N2 b (zx b).rows 16 with
 |error y=>rw[hr] at e;cases e
 |ok r=>
 rw[hr] at e;dsimp only at e;have e0:=e;clear e;cases hj:BJ b ((zx b).rows / 2) r.2 with
 |error y=>rw[hj] at e0;cases e0
 |ok j=>
 rw[hj] at e0;dsimp only at e0;have e:=e0;clear e0;cases e;obtain⟨i1,i2,i3⟩:=LL _ _ hr;obtain⟨j1,j2,j3⟩:=Iu _ _ hj;exact⟨r1,r4,b1,b2,c,hl,n1,n2,j3 (i3 l9),λq=>absurd q hk,λ_=>⟨_,Z,⟨b1,b2,c,hl,by show 1<=r.1.length;rw[i1];exact r1,by show r.1.length<=4;rw[i1];exact r4,i2,by show j.1.length=r.1.length / 2;rw[j1,i1],j2⟩,Z,Z,Z,i1⟩⟩
theorem Az (R:Nat):∀(sp:List (Nat×Nat)) (rd:iF) (zs:List (ie)) {zs':List (ie)} {u:iF},w9 R sp rd zs=.ok (zs',u)->(∀x∈sp,x.1<zs.length)->
  zs'.length=zs.length/\((∀z∈zs,∀v∈z,v<=MOST)->∀z∈zs',∀v∈z,v<=MOST)/\∀r,(zs'.getD r []).length=(zs.getD r []).length+sp.countP (λx=>x.1==r)
 |[],rd,zs,zs',u,h,_=>by cases h;exact⟨Z,id,λr=>by simp⟩
 |(r0,t)::l,rd,zs,zs',u,h,hs=>by
  unfold w9 at h;simp only at h;split at h
  .cases h
  .rename_i z v hz;split at h
   .cases h
   .rename_i hm;obtain⟨i1,i2,i3⟩:=Az R l v _ h (λx hx=>by rw[fc];exact hs x (aP _ hx));rw[fc] at i1;refine⟨i1,λhz0=>i2 λy hy w hw=>?_,λr=>?_⟩
    .rcases List.mem_or_eq_of_mem_set hy with q|q
     .exact hz0 y q w hw
     .subst q;rcases c_.mp hw with q|q
      .cases e:zs[r0]? with
       |none=>rw[aG,e] at q;cases q
       |some y0=>rw[gu e] at q;exact hz0 y0 (az e) w q
      .rw[gc.mp q];lia
    .rw[i3 r,List.countP_cons];by_cases e:r0=r
     .subst e;rw[aG,eF (hs _ (aU ..))];simp;lia
     .rw[aG,iE e,<-aG];simp[e]
def Qm {R r:Nat}(hR:R<=4)(hn:n<=64)(hr:r<R):(spots R n).countP (λx=>x.1==r)=n:=by
 have h:((aK 65).all λn=>(aK 5).all λR=>(aK R).all λr=>(spots R n).countP (λx=>x.1==r)==n)=true:=by decide+kernel
 have h1:=fz.mp (fz.mp (fz.mp h n (cb.mpr (by lia))) R (cb.mpr (by lia))) r (cb.mpr hr);exact beq_iff_eq.mp h1
def VZ {R:Nat}:∀x∈spots R n,x.1<R:=λx hx=>by
 unfold spots at hx;obtain⟨k,_,hx⟩:=ads.mp hx;obtain⟨r,hr,hx⟩:=ads.mp hx;obtain⟨i,_,rfl⟩:=bj.mp hx;exact cb.mp hr
def V_ {R:Nat}(hR:R<=4)(hn:n<=64){rd u:iF}{zs:List (ie)}(h:w9 R (spots R n) rd (aM R [])=.ok (zs,u)):zs.length=R/\∀z∈zs,z.length=n/\∀v∈z,v<=MOST:=by
 obtain⟨i1,i2,i3⟩:=Az R _ _ _ h (λx hx=>by rw[ib];exact VZ x hx);rw[ib] at i1;refine⟨i1,λz hz=>⟨?_,i2 (λy hy v hv=>by rw[(fb.mp hy).2] at hv;cases hv) z hz⟩⟩;obtain⟨r,hr⟩:=dJ.mp hz;have BF:=fJ hr;have:=i3 r;rw[gu hr,Qm hR hn (by lia),aG,pG,aj (by lia)] at this;simpa using this
def adg {v:Nat}(h:v<=MOST):iS (2^46) (zag v):=by
 have h46:(2:Int)^46=70368744177664:=by decide
 have hm:MOST=35184372088832:=by decide
 unfold iS;rw[h46];rw[hm] at h;unfold zag;split<;>omega
def oZ (s:aW)(es:ly):ly:=(lD kU s es).map λ(x:bX×RowLearnt)=>x.1
def mF (s:aW)(es:ly):ly:=(jT JX s.form.joint (oZ s es)).map λ(y:bX)=>y.map (aac s.form)
def Jo (s:aW)(es:ly):aW:={s with rows:=(lD kU s es).map λ(x:bX×RowLearnt)=>{x.2 with eps:=[0,0,0,0]}}
def vN (s:aW)(es:ly):(oZ s es).length=es.length:=by simp[oZ,lD]
def xN {rw:RowWay}{e:bX}(h1:s.form.rows[i]? =some rw)(h2:s.rows[i]? =some l)(h3:es[i]? =some e):(lD kU s es)[i]? =some (nv (kU rw) l e):=by
 unfold lD;rw[zm (fJ h3),gu h1,gu h2,gu h3]
def Bp {rw:RowWay}{e:bX}(h1:s.form.rows[i]? =some rw)(h2:s.rows[i]? =some l)(h3:es[i]? =some e):(Jo s es).rows[i]? =some {(nv (kU rw) l e).2 with eps:=[0,0,0,0]}:=by
 show((lD kU s es).map _)[i]? =_;rw[aw,xN h1 h2 h3];rfl
def Bq (s:aW)(es:ly):(Jo s es).rows.length=es.length:=by simp[Jo,lD]
def K4 (so:Du s)(hl:es.length=s.form.rows.length){y:bX}(hy:y∈oZ s es):∃(i:Nat) (rw:RowWay) (l:RowLearnt) (e:bX),s.form.rows[i]? =some rw/\s.rows[i]? =some l/\es[i]? =some e/\y=(nv (kU rw) l e).1:=by
 obtain⟨c,hc,rfl⟩:=bj.mp hy;obtain⟨i,hi⟩:=dJ.mp hc;have h0:=fJ hi;have:(lD kU s es).length=es.length:=by simp[lD]
 rw[this] at h0;obtain⟨e,he⟩:=get_some h0;obtain⟨l,WB⟩:=get_some (show i<s.rows.length by rw[so.ln];lia);obtain⟨lS,hr1⟩:=get_some (show i<s.form.rows.length by lia);rw[xN hr1 WB he] at hi;cases hi;exact⟨i,lS,l,e,hr1,WB,he,Z⟩
def AS (so:Du s)(hl:es.length=s.form.rows.length)(hn:∀e∈es,e.length=n):∀y∈oZ s es,y.length=n:=λy hy=>by
 obtain⟨i,lS,l,e,h1,h2,h3,rfl⟩:=K4 so hl hy;rw[vL];exact hn e (az h3)
def u9 {C:Int}(h:iS B x)(hb:B<=C):iS C x:=⟨by have:=h.1;lia,by have:=h.2;lia⟩
def ack (h:n<=64):(8:Int)^n*2^50<=2^242:=by
 have h1:(8:Int)^n=2^(3*n):=by rw[Int.pow_mul];rfl
 rw[h1,<-Int.pow_add];exact yO (by lia)
def UY (so:Du s)(hl:es.length=s.form.rows.length)(hn:∀e∈es,e.length<=64)(hx:∀e∈es,∀v∈e,iS (2^46) v):∀y∈oZ s es,∀v∈y,iS (2^242) v:=λy hy v hv=>by
 obtain⟨i,lS,l,e,h1,h2,h3,rfl⟩:=K4 so hl hy;obtain⟨o1,o2,o3⟩:=so.ok i lS l h1 h2;have z:=Hj o1 (so.fg.lS lS (az h1)) (B:=2^50) (by decide) (λx hx=>u9 (o3 x hx) (by decide)) e (hx e (az h3)) v hv;exact u9 z (ack (hn e (az h3)))
def LA (h:iS (2*B) x):iS (4*B+1) x:=by unfold iS at*;lia
def SK {m:Nat}{a b:Int}(h1:iS B a)(h2:iS B b):iS (4*B+1) (JX m a b).1/\iS (4*B+1) (JX m a b).2:=by
 match m with
 |0=>exact⟨LA (wR h1),LA (wR h2)⟩
 |1=>exact⟨LA (wR h1),LA (YB h2 h1)⟩
 |2=>exact⟨LA (YB h1 h2),LA (wR h2)⟩
 |m+3=>
  show iS _ (a+uS (b+1) 2)/\iS _ (a+uS (b+1) 2-b);rw[cv _ (by decide)];unfold iS at*;omega
def NJ (so:Du s)(hl:es.length=s.form.rows.length)(hn:∀e∈es,e.length<=64)(hx:∀e∈es,∀v∈e,iS (2^46) v):∀y∈jT JX s.form.joint (oZ s es),∀v∈y,iS (2^245) v:=by
 have e:(2:Int)^245=8*2^242:=by decide+kernel
 refine wj (p:=iS (2^242)) ⟨by have:=two_pos 242;lia,by have:=two_pos 242;lia⟩ (λx h=>u9 h (by have:=two_pos 242;lia)) (λm l r h1 h2=>?_) _ _ (UY so hl hn hx);have z:=SK (m:=m) h1 h2;have t:=two_pos 242;exact⟨u9 z.1 (by lia),u9 z.2 (by lia)⟩
def VR (g:FG f)(h1: -(2^(f.bits-1))<=aac f v)(h2:aac f v<2^(f.bits-1)):iS (2^23) v:=by
 have h23:(2:Int)^(f.bits-1)<=2^23:=yO (by have:=g.b2;lia);have hc:=two_pos f.cut;have ep:aac f v=v*2^f.cut:=by unfold aac;simp
 rw[ep] at h1 h2;have hc1:(1:Int)<=2^f.cut:=by lia
 constructor
 .refine Fv.mp λq=>?_;have:v*2^f.cut<=v*1:=Int.mul_le_mul_of_nonpos_left (by have:=two_pos 23;lia) hc1;lia
 .refine Fv.mp λq=>?_;have:v*1<=v*2^f.cut:=sI hc1 (by have:=two_pos 23;lia);lia
def Du.read (so:Du s)(hl:es.length=s.form.rows.length)(hn:∀e∈es,e.length=n)(hx:outside s.form (mF s es) n=none):Du (Jo s es):=by
 have hf:∀y∈jT JX s.form.joint (oZ s es),∀v∈y,iS (2^23) v:=λy hy v hv=>by
  obtain⟨r,hr⟩:=dJ.mp hy;obtain⟨t,ht⟩:=dJ.mp hv;have yl:y.length=n:=nj _ _ _ (AS so hl hn) y hy;have htl:=fJ ht;have sl:(mF s es).length=es.length:=by unfold mF;rw[aB,gG,vN]
  have hrl:=fJ hr;rw[gG,vN] at hrl;have z:=Et.mp hx (t*es.length+r) (cb.mpr (by
   rw[sl];have:(t+1)*es.length<=n*es.length:=iJ _ (by lia);rw[K1] at this;lia))
  rw[sl] at z;have e1:(t*es.length+r)%es.length=r:=by rw[jk,L_];exact n9 hrl
  have e2:(t*es.length+r) / es.length=t:=by rw[jk,L9 (by lia),xI hrl];lia
  have g1:(mF s es).getD r []=y.map (aac s.form):=gu (by unfold mF;rw[aw,hr];rfl);have g2:(y.map (aac s.form)).getD t 0=aac s.form v:=gu (by rw[aw,ht];rfl);simp only[e1,e2,g1,g2,KU,decide_eq_true_eq,not_or] at z;have ep:((2^(s.form.bits-1):Nat):Int)=2^(s.form.bits-1):=by simp
  rw[ep] at z;exact VR so.fg (by lia) (by lia)
 have hb:=Cy _ _ (AS so hl hn) hf;refine⟨so.fg,(Bq ..).trans hl,λi rw l h1 h2=>?_⟩;have h1:s.form.rows[i]? =some rw:=h1;have hi:=fJ h1;obtain⟨l0,Ik⟩:=get_some (show i<s.rows.length by rw[so.ln];lia);obtain⟨e,he⟩:=get_some (show i<es.length by lia);rw[Bp h1 Ik he] at h2;cases h2;obtain⟨o1,o2,o3⟩:=so.ok i rw l0 h1 Ik;have g:=so.fg.lS rw (az h1);have o:=Hl (f:=kU) (λl x q=>q.back g x) o1 e;refine⟨⟨o.fx,o.la,o.sl,o.st,Z⟩,sE.nil _,?_⟩;exact Hk (r:=rw) e ([],l0) (hb _ (bj.mpr ⟨_,az (xN h1 Ik he),Z⟩)) o3
end Mx
namespace Bs
open PySem PySem.Spec PyProof.Rows L2
def top (i:Nat):Stmt:=PySem.Challenge.pw_bitsound_s01_answers.main.body.getD i (.Pass ⟨0,0,0,0⟩)
abbrev ni (i j:Nat):Stmt:=inClass (top i) j
structure CI (K:au)(C:lQ)(ns:mX):Prop where
 cl:Cls K C
 na:∀f∈ns,G8 K C f
structure Dx (K:au)(x eU:Str)(st:Stmt)(f:lQ)(d:eN)(ps ls:mX):Prop where
 F:Fun K x eU st f d
 b:Binds K d ps []
 S:vJ (ps++ls) ps (dZ st)
structure Df (K:au)(mg:sM)(x:Str)(st:Stmt)(f:lQ)(d:eN)(ps ls:mX):Prop extends Dx K x x st f d ps ls where
 g:mg x=some (.ref f)
structure Dm (K:au)(C:lQ)(x eU:Str)(st:Stmt)(f:lQ)(d:eN)(ps ls:mX):Prop extends Dx K x eU st f d ps ls where
 m:Meth K C x f
abbrev Dx.Ok {K:au}{x eU:Str}{st:Stmt}{f:lQ}{d:eN}{ps ls:mX}(_:Dx K x eU st f d ps ls)(P:bJ)(w:cA)(mg:sM)(rZ:Heap)(CX:NR)(k:Nat)(sp:Sp):Prop:=lx P w K mg rZ CX k f d ps sp
set_option genInjectivity false in
structure fP where
 {ae9 aiD OX OY DW Cp o6 ux Cm Am HP Ce Aj Cd Kp yc x_ Rw O0 Rv ML O2 MM HV Ry v9 uy RA RB O3 EF Rq MN XF O1 Vd MH Cc MK Rr Ks MJ Ro yh yj F8 sU Ba vX zS yf vW u4 DS A8 yd Rt Vf Cf MG OW HN Cg EE FU OV DR A6 Al zQ Ci zP FX wO FZ F3 FY vZ yg vY Cn Rz Ve HQ HU Ku DX Ai Ko Ak Kq F7 Co DV OZ MI Rp Kt Ru yi Cj A9 Ck A_ zR DU EG FV zO A7 FW F6 Kr zT Vc iO eM cH bI yW uW K9 o5 lh uv o4 bE bW qg i7 fT cy gq eB qi uw CF ES rV IH GD iV:lQ}
 {aeY ait OH OI DO B9 tV Ah Ms Kh QZ Mn Kc B3 Kd xU xT Rc OL Rb Mz ON MA HI Rf Mw Km Rj Rk OO OD Q8 MB Xx OM U8 Mt Mm My Q9 Kj Mv Q0 OG OJ FQ A4 A5 vQ zM xW vP DK DL A1 xV Q_ U_ Mp Mq OF HF B4 OB FC OC DJ AZ Kg zK B5 zJ FF FJ FL FN FK vS xX vR B7 Ri U9 HG HH Kl DP Ka Kb Ke Kf FP B8 DN OK Mu Q1 Kk Ra xY Mr A2 B6 A3 zL DM OE FD zI A0 FE FO Ki zN Lc:eN}
structure Txt (K:au)(mg:sM)(t:fP):Prop where
 GW:Df K mg "held" (top 1) t.ae9 t.aeY ["x","most"] []
 SX:Df K mg "sgn" (top 2) t.aiD t.ait ["x"] []
 jD:Df K mg "low_first" (top 3) t.OX t.OH ["number","width"] ["i"]
 qz:Df K mg "number_at" (top 4) t.OY t.OI ["row","place","width"] ["number","i"]
 j8:Df K mg "lowest_of_bits" (top 5) t.DW t.DO ["bits"] []
 jC:Df K mg "highest_of_bits" (top 6) t.Cp t.B9 ["bits"] []
 dq:Dx K "__init__" "BlockFault.__init__" (ni 10 0) t.o6 t.tV ["self","kind","place"] []
 lq:Dx K "__init__" "Misfit.__init__" (ni 11 0) t.ux t.Ah ["self","place"] []
 vz:Dx K "__init__" "Stage.__init__" (ni 19 0) t.Cm t.Ms ["self","taps","gain","kind","scale"] []
 uf:Dx K "__init__" "RowWay.__init__" (ni 20 0) t.Am t.Kh ["self","fixed","stages"] []
 AH:Dx K "__init__" "Way.__init__" (ni 21 0) t.HP t.QZ ["self","row_ways","joints"] []
 rL:Dx K "__init__" "Frame.__init__" (ni 22 0) t.Ce t.Mn ["self","bits","cut","lanes","way"] []
 p9:Dx K "__init__" "Fields.__init__" (ni 23 0) t.Aj t.Kc ["self","row","as_bytes"] []
 ir:Dm K t.lh "take_any" "Fields.take_any" (ni 23 1) t.Cd t.B3 ["self","width"] ["begin","size"]
 cU:Dm K t.lh "take" "Fields.take" (ni 23 2) t.Kp t.Kd ["self","width","low","high"] ["begin","number"]
 lU:Dm K t.lh "take_one_of" "Fields.take_one_of" (ni 23 3) t.yc t.xU ["self","width","choices"] ["begin","number"]
 jB:Dm K t.lh "take_nought" "Fields.take_nought" (ni 23 4) t.x_ t.xT ["self","width"] []
 vF:Df K mg "take_key" (top 24) t.Rw t.Rc ["fields"] []
 tR:Df K mg "take_bits" (top 25) t.O0 t.OL ["fields"] []
 vE:Df K mg "take_cut" (top 26) t.Rv t.Rb ["fields","bits"] []
 rN:Df K mg "take_lanes" (top 27) t.ML t.Mz ["fields"] []
 tS:Df K mg "take_rows" (top 28) t.O2 t.ON ["fields"] []
 vG:Df K mg "take_stage" (top 29) t.MM t.MA ["fields"] ["taps","gain","kind","scale"]
 sx:Df K mg "take_row_way" (top 30) t.HV t.HI ["fields"] ["fixed","how_many","i"]
 vH:Df K mg "take_way" (top 31) t.Ry t.Rf ["fields","rows"] ["row_ways","joints","i"]
 oS:Df K mg "stage_told" (top 32) t.v9 t.Mw ["stage"] []
 ng:Df K mg "stage_bytes" (top 33) t.uy t.Km ["stage"] []
 sD:Df K mg "way_laid" (top 34) t.RA t.Rj ["way","lay_stage"] ["laid","row_way","stage"]
 vI:Df K mg "way_told" (top 35) t.RB t.Rk ["way"] []
 xH:Df K mg "way_bytes" (top 36) t.O3 t.OO ["way"] []
 xD:Dx K "__init__" "Head.__init__" (ni 45 0) t.EF t.OD ["self","key","rows","bits","cut","lanes","times"] []
 vA:Df K mg "check_of" (top 46) t.Rq t.Q8 ["row"] ["check","byte","i"]
 rO:Df K mg "with_check" (top 47) t.MN t.MB ["block","check"] []
 GX:Df K mg "sealed" (top 48) t.XF t.Xx ["block"] []
 xG:Df K mg "take_head" (top 49) t.O1 t.OM ["fields"] ["key","rows","bits","cut","lanes","times","head"]
 yS:Df K mg "head_of" (top 50) t.Vd t.U8 ["block"] ["head","e"]
 vB:Df K mg "head_bytes" (top 51) t.MH t.Mt ["key","frame","times"] ["rows","row"]
 vv:Dx K "__init__" "Asked.__init__" (ni 53 0) t.Cc t.Mm ["self","key","frame"] []
 vD:Df K mg "take_asked" (top 54) t.MK t.My ["fields"] ["key","bits","cut","lanes","rows","way"]
 AK:Df K mg "is_shape" (top 55) t.Rr t.Q9 ["shape"] ["part"]
 uh:Df K mg "are_of_bits" (top 56) t.Ks t.Kj ["numbers","bits"] ["x"]
 vC:Df K mg "rows_split" (top 57) t.MJ t.Mv ["numbers","rows"] ["times","r"]
 AI:Df K mg "asked_of" (top 58) t.Ro t.Q0 ["settings","told","shape","numbers"] ["asked","rows"]
 qy:Df K mg "join_pair" (top 63) t.yh t.OG ["joint","left","right"] []
 qA:Df K mg "part_pair" (top 64) t.yj t.OJ ["joint","first","second"] ["total"]
 kY:Df K mg "pairs_changed" (top 65) t.F8 t.FQ ["rows","joints","change"] ["changed","pair","joint","both","a","b","two"]
 kH:Dx K "__init__" "StageFilter.__init__" (ni 66 0) t.sU t.A4 ["self","stage"] []
 nY:Dm K t.bE "twin" "StageFilter.twin" (ni 66 1) t.Ba t.A5 ["self"] ["other"]
 iM:Dm K t.bE "foretold" "StageFilter.foretold" (ni 66 2) t.vX t.vQ ["self"] ["total","w","h"]
 jW:Dm K t.bE "learn" "StageFilter.learn" (ni 66 3) t.zS t.zM ["self","u","v"] ["step","most","most_past","w","h"]
 lW:Dm K t.bE "onward" "StageFilter.onward" (ni 66 4) t.yf t.xW ["self","u"] ["v"]
 kC:Dm K t.bE "backward" "StageFilter.backward" (ni 66 5) t.vW t.vP ["self","v"] ["u"]
 my:Dx K "__init__" "RowFilter.__init__" (ni 67 0) t.u4 t.DK ["self","row_way"] ["stage"]
 pS:Dm K t.bW "twin" "RowFilter.twin" (ni 67 1) t.DS t.DL ["self"] ["other","stage_filter"]
 nV:Dm K t.bW "onward" "RowFilter.onward" (ni 67 2) t.A8 t.A1 ["self","number"] ["u","order","latest","stage_filter"]
 lV:Dm K t.bW "backward" "RowFilter.backward" (ni 67 3) t.yd t.xV ["self","rest"] ["u","stage_filter","order"]
 AL:Df K mg "rests_of" (top 68) t.Rt t.Q_ ["filters","joints","rows"] ["rests","row_filter","row","number"]
 DA:Df K mg "rows_of" (top 69) t.Vf t.U_ ["filters","joints","rests"] ["rows","row_filter","rest","e"]
 vw:Dx K "__init__" "Model.__init__" (ni 75 0) t.Cf t.Mp ["self"] ["i"]
 vx:Dm K t.qg "rate" "Model.rate" (ni 75 1) t.MG t.Mq ["self"] []
 xF:Dm K t.qg "see" "Model.see" (ni 75 2) t.OW t.OF ["self","symbol"] ["rate","old","weight","below","above","i"]
 oM:Dm K t.qg "places" "Model.places" (ni 75 3) t.HN t.HF ["self","symbol"] []
 oN:Dm K t.qg "symbol_at" "Model.symbol_at" (ni 75 4) t.Cg t.B4 ["self","spot"] ["symbol"]
 tO:Dx K "__init__" "Bank.__init__" (ni 76 0) t.EE t.OB ["self","lanes"] []
 kX:Dm K t.i7 "model_of" "Bank.model_of" (ni 76 1) t.FU t.FC ["self","number"] []
 tP:Dm K t.i7 "lane" "Bank.lane" (ni 76 2) t.OV t.OC ["self"] []
 j7:Dm K t.i7 "pass_bits" "Bank.pass_bits" (ni 76 3) t.DR t.DJ ["self"] ["pair"]
 kx:Dm K t.i7 "pass_symbol" "Bank.pass_symbol" (ni 76 4) t.A6 t.AZ ["self","number","symbol"] []
 ue:Dx K "__init__" "Packer.__init__" (ni 81 0) t.Al t.Kg ["self","lanes"] []
 mL:Dm K t.fT "put_symbol" "Packer.put_symbol" (ni 81 1) t.zQ t.zK ["self","number","symbol"] ["model"]
 oO:Dm K t.fT "put_bits" "Packer.put_bits" (ni 81 2) t.Ci t.B5 ["self","value","bits"] ["size"]
 mK:Dm K t.fT "put_number" "Packer.put_number" (ni 81 3) t.zP t.zJ ["self","number","value"] ["bits","left","piece"]
 qQ:Dm K t.fT "packed" "Packer.packed" (ni 81 4) t.FX t.FF ["self"] ["states","words","j","begin","size","x","row","word"]
 qR:Dx K "__init__" "Unpacker.__init__" (ni 82 0) t.wO t.FJ ["self","block","place","lanes"] ["i","x"]
 nH:Dm K t.cy "spot" "Unpacker.spot" (ni 82 1) t.FZ t.FL ["self"] []
 qS:Dm K t.cy "word" "Unpacker.word" (ni 82 2) t.F3 t.FN ["self"] []
 nF:Dm K t.cy "move" "Unpacker.move" (ni 82 3) t.FY t.FK ["self","begin","size"] ["lane","x"]
 kJ:Dm K t.cy "take_symbol" "Unpacker.take_symbol" (ni 82 4) t.vZ t.vS ["self","number"] ["model","symbol"]
 lX:Dm K t.cy "take_bits" "Unpacker.take_bits" (ni 82 5) t.yg t.xX ["self","bits"] ["size","value"]
 kI:Dm K t.cy "take_number" "Unpacker.take_number" (ni 82 6) t.vY t.vR ["self","number"] ["bits","value","done","piece"]
 oQ:Dm K t.cy "at_end" "Unpacker.at_end" (ni 82 7) t.Cn t.B7 ["self"] ["x"]
 AN:Df K mg "value_of" (top 87) t.Rz t.Ri ["rest"] []
 Dz:Df K mg "rest_of" (top 88) t.Ve t.U9 ["value"] []
 oR:Df K mg "model_number" (top 89) t.HQ t.HG ["row","total"] []
 su:Df K mg "rests_packed" (top 90) t.HU t.HH ["rests","lanes"] ["packer","totals","begin","r","row","number","chunk","value","rest"]
 uj:Df K mg "chunk_taken" (top 91) t.Ku t.Kl ["unpacker","number","head","r","begin"] ["chunk","t","value"]
 pV:Df K mg "rests_unpacked" (top 92) t.DX t.DP ["block","head"] ["unpacker","rests","totals","begin","r","chunk","value"]
 uc:Dx K "__init__" "Cutter.__init__" (ni 96 0) t.Ai t.Ka ["self","frame","shape","errors"] []
 ud:Dm K t.gq "keep" "Cutter.keep" (ni 96 1) t.Ko t.Kb ["self","x"] ["pull","d","half","y","error","part"]
 m_:Dx K "__init__" "Learnt.__init__" (ni 98 0) t.Ak t.Ke ["self","frame"] ["row_way"]
 p_:Dm K t.eB "twin" "Learnt.twin" (ni 98 1) t.Kq t.Kf ["self"] ["other","row_filter"]
 qU:Df K mg "is_same_frame" (top 99) t.F7 t.FP ["one","other"] []
 lF:Df K mg "basis_for_asked" (top 100) t.Co t.B8 ["learnt","asked"] []
 pU:Df K mg "basis_for_head" (top 101) t.DV t.DN ["learnt","head"] ["frame"]
 tQ:Df K mg "rows_kept" (top 102) t.OZ t.OK ["learnt","asked"] ["kept","errors","row","before","cutter","x"]
 rM:Df K mg "rows_shown" (top 103) t.MI t.Mu ["rows","cut"] ["row","y"]
 AJ:Df K mg "block_of" (top 104) t.Rp t.Q1 ["learnt","asked"] ["frame","rests","head"]
 ui:Df K mg "check_shown" (top 105) t.Kt t.Kk ["rows","bits"] ["t","r","row"]
 AM:Df K mg "shown_of" (top 106) t.Ru t.Ra ["learnt","block","head"] ["rests","rows","shown","row"]
 jE:Df K mg "one_behind_another" (top 112) t.yi t.xY ["rows"] ["numbers","row"]
 vy:Dx K "__init__" "Sound.__init__" (ni 113 0) t.Cj t.Mr ["self"] []
 nW:Dm K t.qi "begin_anew" "Sound.begin_anew" (ni 113 1) t.A9 t.A2 ["self"] []
 oP:Dm K t.qi "tell_head" "Sound.tell_head" (ni 113 2) t.Ck t.B6 ["self","block"] ["head"]
 nX:Dm K t.qi "read_block" "Sound.read_block" (ni 113 3) t.A_ t.A3 ["self","block"] ["head","learnt","numbers"]
 mM:Dm K t.qi "write_block" "Sound.write_block" (ni 113 4) t.zR t.zL ["self","asked"] ["learnt","block"]
 pT:Dm K t.qi "tell_cut" "Sound.tell_cut" (ni 113 5) t.DU t.DM ["self","asked"] ["kept","numbers"]
 xE:Dx K "__init__" "Line.__init__" (ni 114 0) t.EG t.OE ["self","calls"] []
 qP:Dm K t.uw "has_more" "Line.has_more" (ni 114 1) t.FV t.FD ["self"] []
 iH:Dm K t.uw "take_numbers" "Line.take_numbers" (ni 114 2) t.zO t.zI ["self","how_many"] ["begin"]
 kz:Dm K t.uw "take_number" "Line.take_number" (ni 114 3) t.A7 t.A0 ["self"] []
 iC:Dm K t.uw "take_row" "Line.take_row" (ni 114 4) t.FW t.FE ["self"] []
 qT:Df K mg "answer_asking" (top 115) t.F6 t.FO ["sound","line","call"] ["settings","told","shape","numbers","asked"]
 ug:Df K mg "answer_call" (top 116) t.Kr t.Ki ["sound","line"] ["call"]
 mO:Df K mg "answer_or_refusal" (top 117) t.zT t.zN ["sound","line"] ["e"]
 yR:Df K mg "answers" (top 118) t.Vc t.Lc ["calls"] ["line","sound","answered","answer"]
 ql:mg "NotAllowed"=some (.ref t.iO)
 oX:tL K t.iO t.CF
 uD:fi K t.CF "__init__"=some none
 rR:mg "NotLearnt"=some (.ref t.eM)
 oo:tL K t.eM t.ES
 wq:fi K t.ES "__init__"=some none
 gm:mg "BlockFault"=some (.ref t.cH)
 iN:tL K t.cH t.rV
 hU:XMk K t.cH t.rV t.o6
 tE:Oh K t.rV "kind"
 rG:Oh K t.rV "place"
 si:mg "Misfit"=some (.ref t.bI)
 sO:tL K t.bI t.IH
 yV:XMk K t.bI t.IH t.ux
 w6:Oh K t.IH "place"
 XS:mg "Stage"=some (.ref t.yW)
 iq:CI K t.yW ["taps","gain","kind","scale"]
 aa9:Mk K t.yW t.Cm
 Vl:mg "RowWay"=some (.ref t.uW)
 oK:CI K t.uW ["fixed","stages"]
 W2:Mk K t.uW t.Am
 afg:mg "Way"=some (.ref t.K9)
 xC:CI K t.K9 ["row_ways","joints"]
 aia:Mk K t.K9 t.HP
 O5:mg "Frame"=some (.ref t.o5)
 dA:CI K t.o5 ["bits","cut","lanes","way"]
 S5:Mk K t.o5 t.Ce
 Lm:mg "Fields"=some (.ref t.lh)
 cu:CI K t.lh ["row","as_bytes","place"]
 N9:Mk K t.lh t.Aj
 abB:mg "Head"=some (.ref t.uv)
 dS:CI K t.uv ["key","rows","bits","cut","lanes","times","check","way","end"]
 aeK:Mk K t.uv t.EF
 XO:mg "Asked"=some (.ref t.o4)
 jz:CI K t.o4 ["key","frame","shape","rows"]
 aa6:Mk K t.o4 t.Cc
 yr:mg "StageFilter"=some (.ref t.bE)
 bM:CI K t.bE ["stage","weights","past"]
 Ac:Mk K t.bE t.sU
 Ct:mg "RowFilter"=some (.ref t.bW)
 dk:CI K t.bW ["row_way","before","stage_filters"]
 Eu:Mk K t.bW t.u4
 XQ:mg "Model"=some (.ref t.qg)
 jA:CI K t.qg ["begins","seen"]
 aa7:Mk K t.qg t.Cf
 Tw:mg "Bank"=some (.ref t.i7)
 ic:CI K t.i7 ["lanes","models","passed","waiting"]
 WY:Mk K t.i7 t.EE
 Vk:mg "Packer"=some (.ref t.fT)
 gn:CI K t.fT ["lanes","bank","shares"]
 W0:Mk K t.fT t.Al
 O6:mg "Unpacker"=some (.ref t.cy)
 bY:CI K t.cy ["block","bank","states","place"]
 QI:Mk K t.cy t.wO
 Vj:mg "Cutter"=some (.ref t.gq)
 iG:CI K t.gq ["cut","lowest","highest","shape","errors"]
 WZ:Mk K t.gq t.Ai
 DY:mg "Learnt"=some (.ref t.eB)
 fS:CI K t.eB ["frame","filters","errors"]
 G4:Mk K t.eB t.Ak
 XR:mg "Sound"=some (.ref t.qi)
 nB:CI K t.qi ["learnt"]
 aa8:Mk K t.qi t.Cj
 abC:mg "Line"=some (.ref t.uw)
 ku:CI K t.uw ["calls","place"]
 aeL:Mk K t.uw t.EG
 Iw:∃tk,mg "WIDE"=some (.int 1 tk)
 Pg:∃tk,mg "MOST_TAPS"=some (.int 16 tk)
 D4:∃tk,mg "MOST_WIDE_TAPS"=some (.int 8 tk)
 Pe:∃tk,mg "MOST_GAIN"=some (.int 1024 tk)
 MZ:∃tk,mg "MOST_SCALE"=some (.int 12 tk)
 wk:∃tk,mg "FIRST_BYTE"=some (.int 76 tk)
 uB:∃tk,mg "SECOND_BYTE"=some (.int 83 tk)
 uA:∃tk,mg "CHECK_PLACE"=some (.int 12 tk)
 qp:∃tk,mg "CHECK_WIDTH"=some (.int 4 tk)
 Iv:∃tk,mg "ALL_ONES"=some (.int 4294967295 tk)
 M1:∃tk,mg "POLYNOMIAL"=some (.int 2197175160 tk)
 CA:∃tk,mg "MOST_TIMES"=some (.int 64 tk)
 Aq:∃tk,mg "MOST_NARROW"=some (.int 32767 tk)
 Be:∃tk,mg "MOST_WIDE_WEIGHT"=some (.int 1048576 tk)
 CB:∃tk,mg "MOST_WIDE_INPUT"=some (.int 1073741824 tk)
 D5:∃tk,mg "SYMBOLS"=some (.int 64 tk)
 RO:∃tk,mg "SLOWNESS"=some (.int 6 tk)
 Pf:∃tk,mg "MOST_SEEN"=some (.int 65535 tk)
 iQ:∃tk,mg "ALL_PLACES"=some (.int 32768 tk)
 qr:∃tk,mg "LEAST_STATE"=some (.int 65536 tk)
 RQ:∃tk,mg "WORD"=some (.int 65536 tk)
 TR:∃tk,mg "PIECE"=some (.int 15 tk)
 GJ:∃tk,mg "CHUNK"=some (.int 16 tk)
 wQ:∃tk,mg "MODELS_OF_ROW"=some (.int 16 tk)
 M0:∃tk,mg "MOST_VALUE"=some (.int 35184372088832 tk)
 MY:∃tk,mg "MOST_ERROR"=some (.int 2147483647 tk)
 afM:∃tk,mg "OPEN"=some (.int 0 tk)
 afL:∃tk,mg "HEAD"=some (.int 1 tk)
 afN:∃tk,mg "READ"=some (.int 2 tk)
 abZ:∃tk,mg "WRITE"=some (.int 3 tk)
 abD:mg "LANES"=some (.ref t.GD)
 acu:∀H:Hp,Mb K H t.GD [.int 1,.int 4,.int 8,.int 16]
 EJ:mg "NO_ERRORS"=some (.ref t.iV)
 Fh:∀H:Hp,Mb K H t.iV [.int 0,.int 0,.int 0,.int 0]
 i_:mg "len"=none
 iA:mg "range"=none
 TZ:mg "sum"=none
 YJ:mg "all"=none
 ET:mg "min"=none
 ad2:mg "max"=none
 D8:mg "list"=none
 tW:mg "enumerate"=none
 IJ:mg "zip"=none
 II:mg "reversed"=none
 ER:mg "Exception"=none
 diff:t.iO≠t.bI/\t.eM≠t.bI/\t.cH≠t.bI/\t.iO≠t.eM/\t.iO≠t.cH/\t.eM≠t.cH
end Bs
namespace L2
open PySem PySem.Spec PyProof.Rows
section
variable{X:Cx}
def fF {x:Str}{i:Int}{cJ:Pos}(h:∃tk,X.mg x=some (.int i tk))(hg:autoParam (Gl X x) Z_r)(hd:autoParam (Dy x) Z_d):PE X (.Name x cJ) (tC (.int i)):=by
 obtain⟨tk,hm⟩:=h;exact tZ hg hm ⟨tk,Z⟩ hd
def Fun.xA {P:bJ}{w:cA}{K:au}{mg:sM}{rZ:Heap}{Mf:lQ}{x eU:Str}{st:Stmt}{f:lQ}{fd:eN}{N ps:mX}{k:Nat}{sp:Sp}(F:Fun K x eU st f fd)(S:vJ N ps (dZ st))(QE:∀vs H Q E,sp vs H Q E->vs.length=ps.length)
  (yt:∀(sP:kc) (A:Around) (outer:List Env) (s:aL) (H:Hp) (vs:b_) (Q:VK) (E:XK),lC k (A.deeper (tI eU (dZ st) s.heap.objs.size f sP))->sp vs H Q E->
   ∃t,J6 (AY (tN P w Mf) P w K mg rZ N eU (dZ st) f sP A outer s H E) (rQ st) t/\t {nx:=λ_ H'=>Q .gQ H',rt:=Q} (start N vs) H):lx P w K mg rZ (tN P w Mf) (k+1) f fd ps sp:=by
 obtain⟨oc,od,kV,Tn,pm,an,sP,ct,YX,rfl,lk,Wz⟩:=F.ex;exact adI lk Wz S QE λA outer s H vs Q E hr JT=>yt sP A outer s H vs Q E hr JT
inductive Fdr (K:au)(f:Str)(x:V)(H:Hp)(Q:lQ->lQ->V->Prop):Prop where
 |mk {a C dx:lQ} {fs:List (Str×V)} {v:V} {ns:mX} (ex:x=.ref a) (e:H a=some (.ins C dx fs)) (c:Bs.CI K C ns) (n:ns.contains f=true) (l:fs.lookup f=some v) (q:Q a C v):Fdr K f x H Q
inductive Fds (K:au)(f:Str)(y x:V)(H:Hp)(N:Hp->Prop):Prop where
 |mk {a C dx:lQ} {fs fs':List (Str×V)} {ns:mX} (ex:x=.ref a) (e:H a=some (.ins C dx fs)) (c:Bs.CI K C ns) (n:ns.contains f=true) (l:Nat.blt fs.length 1000=true) (p:vj f y fs=fs') (q:N (upd H a (.ins C dx fs'))):Fds K f y x H N
def tFd (K:au)(ta:TE)(f:Str):TE:=λσ H Q=>ta σ H λx H1=>Fdr K f x H1 λ_ _ v=>Q v H1
def Jj {e:Expr}{f:Str}{cJ:Pos}{ta:TE}(he:PE X e ta)(hb:mT e f X.env (eval e X.env)=eval e X.env):PE X (.Attribute e f cJ) (tFd X.K ta f):=by
 intro aA s σ H Q I h;refine Tc hb (jc (he aA s σ H _ I h) λu s1 ⟨x,H1,I1,rx,q0⟩=>?_);obtain⟨ex,ea,c,n,l,q⟩:=q0;subst ex;rename_i a _ _ _ v _;obtain rfl:u=Value.ref a:=rx;exact Ic I1 ea c.cl (c.na f (Aa.mp n)) l λu' s2 I2 ru=>⟨v,H1,I2,ru,q⟩
def sFd (K:au)(ta tv:TE)(f:Str):TS:=λD σ H=>tv σ H λy H1=>ta σ H1 λx H2=>Fds K f y x H2 (D.nx σ)
def akb {o iW:Expr}{f:Str}{cJ xu:Pos}{ta tv:TE}(ha:PE X o ta)(hv:PE X iW tv)(hs:mU iW (some (.Attribute o f xu)) cJ.line X.env=pure false):PS X (.Assign [.Attribute o f xu] iW cJ) (sFd X.K ta tv f):=by
 intro aA s σ H D I h;refine NO (jc (hv aA s σ H _ I h) λu s1 ⟨y,H1,I1,ry,q⟩=>jc (ha aA s1 σ H1 _ I1 q) λov s2 ⟨x,H2,I2,rx,q0⟩=>?_) hs;obtain⟨ex,ea,c,n,l,ep,q2⟩:=q0;subst ex ep;rename_i a _ _ _ _;obtain rfl:ov=Value.ref a:=rx;exact Ju I2 ea c.cl (c.na f (Aa.mp n)) (Wr l) ry λs3 I3=>⟨σ,_,I3,q2⟩
def agh (K:au)(ta tv:TE)(rd:V->V->Hp->VK->Prop)(f:Str):TS:=λD σ H=>ta σ H λx H1=>Fdr K f x H1 λa C v=>
 tv σ H1 λy H2=>rd v y H2 λz H3=>∃sR fs' fs2,H3 a=some (.ins C sR fs')/\Nat.blt fs'.length 1000=true/\vj f z fs'=fs2/\D.nx σ (upd H3 a (.ins C sR fs2))
def P4 {o iW:Expr}{f:Str}{cJ JB:Pos}{ta tv:TE}{op:Uv}{rd:V->V->Hp->VK->Prop}(ha:PE X o ta)(hv:PE X iW tv)(hop:ah7 X op rd):PS X (.AugAssign (.Attribute o f JB) op iW cJ) (agh X.K ta tv rd f):=by
 intro aA s σ H D I h;refine wpAny_AugAssign_AttributeAny (jc (ha aA s σ H _ I h) λov s1 ⟨x,H1,I1,rx,q0⟩=>?_);obtain⟨ex,ea,c,n,l,q⟩:=q0;subst ex;rename_i a _ _ _ v _;obtain rfl:ov=Value.ref a:=rx;have na:=c.na f (Aa.mp n);refine Ic I1 ea c.cl na l λu s2 I2 ru=>jc (hv aA s2 σ H1 _ I2 q) λw3 s3 ⟨y,H2,I3,ry,q3⟩=>jc (hop aA s3 σ H2 v y u w3 _ I3 ru ry q3) λw4 s4 ⟨z,H3,I4,rz,sR,fs',fs2,Lj,l',ep,q4⟩=>?_;subst ep;exact Ju I4 Lj c.cl na (Wr l') rz λs5 I5=>⟨σ,_,I5,q4⟩
def agK (f:lQ)(sp:Sp)(BD:b_)(E:XK)(tv:TE)(t:TA):TE:=λσ H Q=>tv σ H λx H0=>x=.ref f/\t σ H0 λvs H1=>sp (vs++BD) H1 Q E
def PR {CX:NR}{k:Nat}{f:lQ}{fd:eN}{ps:mX}{sp:Sp}{BD:b_}{ds:gS}{E:XK}{x:Str}{p cJ:Pos}{e:Expr}{es:Fw}{tv:TE}{t:TA}(hv:PE X (.Name x p) tv)
  (F:lx X.prog X.w X.K X.mg X.rZ CX k f fd ps sp) (hr:lC k X.A) (hk:il X.K (.ref f)=true) (hb:Binds X.K fd ps ds) (hd:Vals BD ds) (hx:Passes CX X E)
  (ha:PA X (e::es) t) (he:autoParam (Sm X e es) Z_r) (ot:autoParam (sHb X cJ es) Z_r):
  PE X (.Call (.Name x p) (e::es) [] cJ) (agK f sp BD E tv t):=by
 intro aA s σ H Q I h;refine fC (jc (hv aA s σ H _ I h) λu s0 ⟨y,H0,I0,ry,ey,q0⟩=>?_);subst ey;obtain rfl:u=Value.ref f:=ry;refine lg (h₀:=X.rZ) I.ok.mod.uC hk (jc (ha cJ aA s0 σ H0 _ I0 q0) λus s1 ⟨vs,H1,I1,r,q⟩=>⟨I1.zb,?_⟩) he ot;exact NA F hr hb hd hx I1 r q
def Vz:MtR X "int.bit_length" (λx xs H Q=>∃i,x=.int i/\xs=[]/\Q (.int (Builtin.Int.intBits i:Nat)) H):=by
 intro aA s σ H x xs v us Q I rx r h;obtain⟨i,rfl,rfl,q⟩:=h;obtain rfl:=Vals.zero r;obtain⟨t,rfl⟩:=(show∃t,v=Value.int i t from rx);exact call_int_bit_length ⟨.int (Builtin.Int.intBits i:Nat),H,I.tok _,⟨_,Z⟩,q⟩
def Ei {o:Expr}{to:TE}{kM lj:Pos}(ho:PE X o to)(Ig:autoParam (mT o "bit_length" X.env (eval o X.env)=eval o X.env) Z_r)(Il:autoParam ((kM.endLine==lj.line)=true) Z_r):
  PE X (.Call (.Attribute o "bit_length" kM) [] [] lj) (akH X.K "int" (λx xs H Q=>∃i,x=.int i/\xs=[]/\Q (.int (Builtin.Int.intBits i:Nat)) H) to):=
 af8 PySem.F.plainAttrs_int PySem.F.slot_int_bit_length PySem.F.type_int_bit_length Vz ho Ig Il
def T9:BA X (oy .LShift) (rI (λi j=>0<=j/\(Builtin.Int.intBits i:Int)+j<=2^27) λi j=>.int (i*2^j.toNat)):=opI λ_ _ _ _ _ _ _ hc q=>lshift_int hc.1 hc.2 q
end
def tH (l:List (Str×V)):l=l:=rfl
def i2 {a b c:Prop}(h:a):(a\/b)\/c:=.inl (.inl h)
def i3 {a b c d:Prop}(h:a):((a\/b)\/c)\/d:=.inl (.inl (.inl h))
section
open Bs
variable{X:Cx}{CX:NR}{k n:Nat}{f C:lQ}{fd:eN}{ps ls ns:mX}{st:Stmt}{sp:Sp}{E:XK}{x m eU:Str}{p cJ kM:Pos}{e o a b tg:Expr}{es:Fw}{ta tb te:TE}{t:TA}{i:Nat}
def ko (D:Df X.K X.mg x st f fd ps ls)(F:lx X.prog X.w X.K X.mg X.rZ CX k f fd ps sp)(hr:lC n X.A)(hx:Passes CX X E)(ha:PA X (e::es) t)(hk:autoParam (k<=n) Z_d)(hg:autoParam (Gl X x) Z_r)(DZ:autoParam (Dy x) Z_d)(he:autoParam (Sm X e es) Z_r)(ot:autoParam (sHb X cJ es) Z_r):
  PE X (.Call (.Name x p) (e::es) [] cJ) (aem sp [] E t):=acd F (hr.mono hk) hg D.g D.F.kp D.b .nil hx ha DZ he ot
def JW (M:Mk X.K C f)(hm:X.mg x=some (.ref C))(D:Dx X.K m eU st f fd ps ls)(F:lx X.prog X.w X.K X.mg X.rZ CX k f fd ps sp)(hr:lC n X.A)(hx:Passes CX X E)(ha:PA X (e::es) t)(hk:autoParam (k+1<=n) Z_d)(hg:autoParam (Gl X x) Z_r)(DZ:autoParam (Dy x) Z_d)(he:autoParam (Sm X e es) Z_r)(ot:autoParam (sHb X cJ es) Z_r):
  PE X (.Call (.Name x p) (e::es) [] cJ) (ZR C sp [] E t):=acf M F (hr.mono hk) hg hm D.b .nil hx ha DZ he ot
def qN {pl:Sem Bool}(he:PE X o ta)(c:CI X.K C ns)(D:Dm X.K C m eU st f fd ps ls)(F:lx X.prog X.w X.K X.mg X.rZ CX k f fd ps sp)(hr:lC n X.A)(hx:Passes CX X E)(ha:PA X (e::es) t)(hk:autoParam (k<=n) Z_d)
  (uz:autoParam (Sm X e es) Z_r) (ot:autoParam (sHb X cJ es) Z_r)
  (ht:eval (.Call (.Attribute o m kM) (e::es) [] cJ) X.env=(do
   let ov<-eval o X.env
   BN kM.atName
   let (f,first)<-vt [ov] (wC ov m pl)
   Fq cJ f first (m9 cJ (dv (e::es) X.env)) (w_ cJ (oz [] X.env))):=by rfl):
  PE X (.Call (.Attribute o m kM) (e::es) [] cJ) (Jz C m sp [] E ta t):=acg (pl:=pl) he c.cl D.m F (hr.mono hk) D.b .nil hx ha uz ot ht
def Fe {pl:Sem Bool}(he:PE X o ta)(c:CI X.K C ns)(D:Dm X.K C m eU st f fd ps ls)(F:lx X.prog X.w X.K X.mg X.rZ CX k f fd ps sp)(hr:lC n X.A)(hx:Passes CX X E)(hk:autoParam (k<=n) Z_d)
  (ht:eval (.Call (.Attribute o m kM) [] [] cJ) X.env=(do
   let ov<-eval o X.env
   BN kM.atName
   let (f,first)<-vt [ov] (wC ov m pl)
   Fq cJ f first (m9 cJ (dv [] X.env)) (w_ cJ (oz [] X.env))):=by rfl):
  PE X (.Call (.Attribute o m kM) [] [] cJ) (Jz C m sp [] E ta Gp):=Y5 (pl:=pl) he c.cl D.m F (hr.mono hk) D.b .nil hx ht
def cO (he:PE X e ta)(hb:autoParam (mT e x X.env (eval e X.env)=eval e X.env) Z_r):PE X (.Attribute e x cJ) (tFd X.K ta x):=Jj he hb
def kh (ha:PE X o ta)(hv:PE X e te)(hs:autoParam (mU e (some (.Attribute o x kM)) cJ.line X.env=pure false) Z_r):PS X (.Assign [.Attribute o x kM] e cJ) (sFd X.K ta te x):=akb ha hv hs
def fL (i:Nat)(hN:X.N.Nodup)(he:PE X e te)(hi:autoParam (X.N[i]? =some x) Z_r)(hx:autoParam (Loc X.env.scope x) Z_t)(hs:autoParam (mU e (some (.Name x kM)) cJ.line X.env=pure false) Z_r)(hf:autoParam (Ui X x) Z_t):
  PS X (.Assign [.Name x kM] e cJ) (ZP te (An i)):=aga hN hi hx he hs hf
def mv (i:Nat)(hN:X.N.Nodup)(hi:autoParam (X.N[i]? =some x) Z_r)(hx:autoParam (Loc X.env.scope x) Z_t)(hf:autoParam (Ui X x) Z_t):PG X (.Name x cJ) (An i):=ach hN hi hx hf
def rb {op:CmpOp}{r:R2}(ho:BA X (je op) r)(ha:PE X a ta)(hb:PE X b tb)(h:autoParam (op≠.In) Z_d)(h2:autoParam (op≠.NotIn) Z_d):PT X (.Compare a [op] [b] cJ) (aeo (tOp r ta tb)):=Ud ho ha hb (RV _ h h2)
def pcm {op:CmpOp}{r:R2}(ho:BA X (je op) r)(ha:PE X a ta)(hb:PE X b tb)(h:autoParam (op≠.In) Z_d)(h2:autoParam (op≠.NotIn) Z_d):PE X (.Compare a [op] [b] cJ) (tOp r ta tb):=T_ ho ha hb (RV _ h h2)
def JV (ha:PE X a ta)(hb:PE X b tb)(hs:autoParam (S7 b) Z_t):PE X (.Subscript a b cJ) (tOp (P7 X.K) ta tb):=wX (r:=P7 X.K) za ha hb hs
def psl {lo hi:Option Expr}{tl th:TO}(he:PE X e te)(hl:PO X lo tl)(hu:PO X hi th):PE X (.Subscript e (.Slice lo hi none p) cJ) (tSl (aco X.K) te tl th):=PX (r:=aco X.K) Ul he hl hu
def Bn (hm:X.mg "len"=none)(ha:PA X (e::es) t)(hg:autoParam (Gl X "len") Z_r)(he:autoParam (Sm X e es) Z_r)(ot:autoParam (sHb X cJ es) Z_r):PE X (.Call (.Name "len" p) (e::es) [] cJ) (tCB (λxs H Q=>∃p ys,xs=[.ref p]/\(nM X.K H p ys\/Mb X.K H p ys)/\Q (.int ys.length) H) t):=gO Mg hg hm PySem.boot_len ha (by decide) (by decide) he ot
section
variable{lj:Pos}
def pap (ho:PE X o ta)(ha:PA X (e::es) t)(Ig:autoParam (mT o "append" X.env (eval o X.env)=eval o X.env) Z_r)(afq:((m9 lj (dv (e::es) X.env)).all (λx=> !x.1)&&(w_ lj (oz [] X.env)).all (λx=>x.1.isSome)
   &&decide ((e::es).length+([]:List aaU).length+(if([]:List aaU).isEmpty then 0 else 1)<30))=true:=by rfl)
  (Il:autoParam ((kM.endLine==lj.line)=true) Z_r) (hs:autoParam (Sm X e es) Z_r) (RJ:autoParam ((m9 lj (dv es X.env)).any (·.1)=false) Z_r):
  PE X (.Call (.Attribute o "append" kM) (e::es) [] lj) (tBM X.K "list" Nu ta t):=Ax df PySem.F.slot_list_append PySem.F.type_list_append Vy ho ha Ig afq Il hs RJ
end
def Pw {Mf:lQ}:Raises X Mf λ_ _ _=>False:=λ_ _ _ _ _ _ _ _ _ _ _ _ _ z=>z.elim
section
variable{L:lQ}{ju:Env}{uG:List Env}{FT l7:Expr}{a_:nz}{wi:TI}{g:TG}
def GO (own:List (Str×Nat))(hN:X.N.Nodup)(hi:PI X tg l7 wi)(hg:∀{s:aL} {H:Hp} {C:lQ} {cl:List (Str×lQ)} {fp:pF},PG (X.gW s H a_ (iB a_ cl C X.env) fp) tg g)
  (he:∀{s:aL} {H:Hp} {C:lQ} {cl:List (Str×lQ)} {fp:pF} {E:j_},PE ((X.gW s H a_ (iB a_ cl C X.env) fp).vo E) FT te) (uz:autoParam (X.stack=ju::uG) Z_r) (Dv:autoParam (ju.frame=some L) Z_r) (Lp:autoParam (X.env.frame=some L) Z_r) (hc:autoParam (X.calm=true) Z_r) (ok:abn X.N X.env.scope a_ own=true:=by kernel_rfl) (hs:autoParam (∀x,nA l7 X.env x=pure x) Z_t):
  PE X (.ListComp FT [⟨tg,l7,[],0⟩] a_ cJ) (tLc wi g ZU te (own.map (·.2))):=Y4 (Mf:=0) (own:=own) Pw uz Dv Lp hc hN hi (xP ok) (λ_ _ _ _ _=>hg) (λ_ _ _ _ _=>CW) (λ_ _ _ _ _ _ _=>he) hs
def psc {y:Str}{py ZG:Pos}(i:Nat)(own:List (Str×Nat))(hN:X.N.Nodup)(hi:PI X tg l7 wi)(hg:∀{s:aL} {H:Hp} {C:lQ} {cl:List (Str×lQ)} {fp:pF},PG (X.gW s H a_ (iB a_ cl C X.env) fp) tg g)
  (he:∀{s:aL} {H:Hp} {C:lQ} {cl:List (Str×lQ)} {fp:pF} {E:j_},PE ((X.gW s H a_ (iB a_ cl C X.env) fp).vo E) FT te) (uz:autoParam (X.stack=ju::uG) Z_r) (Dv:autoParam (ju.frame=some L) Z_r) (Lp:autoParam (X.env.frame=some L) Z_r) (hc:autoParam (X.calm=true) Z_r) (hy:autoParam (X.N[i]? =some y) Z_r) (hyl:autoParam (X.env.scope.names.lookup y=some .local) Z_r) (hsw:mU (.ListComp FT [⟨tg,l7,[],0⟩] a_ cJ) (some (.Name y py)) ZG.line X.env=pure true:=by exact NI rfl rfl rfl rfl) (ok:abn X.N X.env.scope a_ own=true:=by kernel_rfl) (hs:autoParam (∀x,nA l7 X.env x=pure x) Z_t):
  PS X (.Assign [.Name y py] (.ListComp FT [⟨tg,l7,[],0⟩] a_ cJ) ZG) (ZP (tLc wi g ZU te (own.map (·.2))) (An i)):=Ej (Mf:=0) (own:=own) Pw uz Dv Lp hc hN hy hyl hsw hi (xP ok) (λ_ _ _ _ _=>hg) (λ_ _ _ _ _=>CW) (λ_ _ _ _ _ _ _=>he) hs
end
end
def cK {CX P w K mg rZ N q sc f cd A o s H E}:(AY CX P w K mg rZ N q sc f cd A o s H E).nox.K=K:=rfl
inductive Bd (X:Cx)(b:List Stmt)(D:Ends)(σ:St)(H:Hp):Prop|i {t u:TS}(_:J6 X b t)(_:u D σ H)(_:u=t:=by first|rw[cK]|rw[cL]|rfl)
inductive X2 {T0 T1:Type}(p:T0->T1->Prop):Prop|i a0 a1(_:p a0 a1)
inductive X3 {T0 T1 T2:Type}(p:T0->T1->T2->Prop):Prop|i a0 a1 a2(_:p a0 a1 a2)
inductive X4 {T0 T1 T2 T3:Type}(p:T0->T1->T2->T3->Prop):Prop|i a0 a1 a2 a3(_:p a0 a1 a2 a3)
inductive X5 {T0 T1 T2 T3 T4:Type}(p:T0->T1->T2->T3->T4->Prop):Prop|i a0 a1 a2 a3 a4(_:p a0 a1 a2 a3 a4)
inductive X6 {T0 T1 T2 T3 T4 T5:Type}(p:T0->T1->T2->T3->T4->T5->Prop):Prop|i a0 a1 a2 a3 a4 a5(_:p a0 a1 a2 a3 a4 a5)
inductive X7 {T0 T1 T2 T3 T4 T5 T6:Type}(p:T0->T1->T2->T3->T4->T5->T6->Prop):Prop|i a0 a1 a2 a3 a4 a5 a6(_:p a0 a1 a2 a3 a4 a5 a6)
inductive C3 (a0 a1 a2:Prop):Prop|i(_:a0)(_:a1)(_:a2)
inductive C4 (a0 a1 a2 a3:Prop):Prop|i(_:a0)(_:a1)(_:a2)(_:a3)
inductive C6 (a0 a1 a2 a3 a4 a5:Prop):Prop|i(_:a0)(_:a1)(_:a2)(_:a3)(_:a4)(_:a5)
inductive C7 (a0 a1 a2 a3 a4 a5 a6:Prop):Prop|i(_:a0)(_:a1)(_:a2)(_:a3)(_:a4)(_:a5)(_:a6)
inductive C9 (a0 a1 a2 a3 a4 a5 a6 a7 a8:Prop):Prop|i(_:a0)(_:a1)(_:a2)(_:a3)(_:a4)(_:a5)(_:a6)(_:a7)(_:a8)
inductive C10 (a0 a1 a2 a3 a4 a5 a6 a7 a8 a9:Prop):Prop|i(_:a0)(_:a1)(_:a2)(_:a3)(_:a4)(_:a5)(_:a6)(_:a7)(_:a8)(_:a9)
inductive C12 (a0 a1 a2 a3 a4 a5 a6 a7 a8 a9 a10 a11:Prop):Prop|i(_:a0)(_:a1)(_:a2)(_:a3)(_:a4)(_:a5)(_:a6)(_:a7)(_:a8)(_:a9)(_:a10)(_:a11)
inductive C15 (a0 a1 a2 a3 a4 a5 a6 a7 a8 a9 a10 a11 a12 a13 a14:Prop):Prop|i(_:a0)(_:a1)(_:a2)(_:a3)(_:a4)(_:a5)(_:a6)(_:a7)(_:a8)(_:a9)(_:a10)(_:a11)(_:a12)(_:a13)(_:a14)
section
open Bs
def _root_.Bs.Dx.ok {P:bJ}{w:cA}{K:au}{mg:sM}{rZ:Heap}{x eU:Str}{st:Stmt}{f:lQ}{d:eN}{ps ls:mX}{k:Nat}{sp:Sp}(D:Dx K x eU st f d ps ls)
  (yt:∀{sP:kc} {A:Around} {outer:List Env} {s:aL} (nd:(ps++ls).Nodup) (H:Hp) (vs:b_) (Q:VK) (E:XK),lC k (A.deeper (tI eU (dZ st) s.heap.objs.size f sP))->sp vs H Q E->
   Bd (AY jf P w K mg rZ (ps++ls) eU (dZ st) f sP A outer s H E).nox (rQ st) {nx:=λ_ H'=>Q .gQ H',rt:=Q} (start (ps++ls) vs) H)
  (QE:autoParam (∀vs H Q E,sp vs H Q E->vs.length=ps.length) Z_t):D.Ok P w mg rZ jf (k+1) sp:=
 D.F.ok D.S QE λ_ _ _ _ H vs Q E hr h=>match yt D.S.nd H vs Q E hr h with|.i a b e=>⟨_,a,e ▸ b⟩
def _root_.Bs.Dx.xA {P:bJ}{w:cA}{K:au}{mg:sM}{rZ:Heap}{Mf:lQ}{x eU:Str}{st:Stmt}{f:lQ}{d:eN}{ps ls:mX}{k:Nat}{sp:Sp}(D:Dx K x eU st f d ps ls)
  (yt:∀{sP:kc} {A:Around} {outer:List Env} {s:aL} (nd:(ps++ls).Nodup) (H:Hp) (vs:b_) (Q:VK) (E:XK),lC k (A.deeper (tI eU (dZ st) s.heap.objs.size f sP))->sp vs H Q E->
   Bd (AY (tN P w Mf) P w K mg rZ (ps++ls) eU (dZ st) f sP A outer s H E) (rQ st) {nx:=λ_ H'=>Q .gQ H',rt:=Q} (start (ps++ls) vs) H)
  (QE:autoParam (∀vs H Q E,sp vs H Q E->vs.length=ps.length) Z_t):D.Ok P w mg rZ (tN P w Mf) (k+1) sp:=
 D.F.xA D.S QE λ_ _ _ _ H vs Q E hr h=>match yt D.S.nd H vs Q E hr h with|.i a b e=>⟨_,a,e ▸ b⟩
end
abbrev Wj (J:It)(g:TG)(te:TE)(vs:List Nat)(σ:St)(H1:Hp)(D:lQ)(Qd:Hp->Prop):Prop:=∃W:Nat->Nat->Hp->Prop,(∃m,W 0 m (upd H1 D (.lst [])))/\∀i m H,W i m H->
   (J.stop i H/\Qd H)\/(J.go i H/\∃Nx:Hp->Prop,(∀H',Nx H'->∃m',m'<m/\W (i+1) m' H')/\∀x H',J.Wc i H x H'->g x (wipe σ vs) H' λmG H2=>wipe mG vs=wipe σ vs/\ZU mG H2 λb H3=>
    if b=true then te mG H3 λy H4=>∃dM,H4 D=some (.lst dM)/\dM.length<bu/\Nx (upd H4 D (.lst (dM++[y]))) else Nx H3)
def bZ {H:Hp}{a b:lQ}{o:HO}(h:H a=some o)(h':H b=none):b≠a:=(aI h h').symm
def aC.upd {H:Hp}{a:lQ}{o:HO}(h:H a=none):aC H (upd H a o):=λb u e=>by rw[aF (aI e h)];exact e
def M5 {J:It}{g:TG}{te:TE}{vs:ie}{σ:St}{H1:Hp}{D:lQ}{Qd:Hp->Prop}{ys:b_}(hD:H1 D=none)(hz:ys.length<=bu)
  (Yn:∀H,aC H1 H->J.stop ys.length H) (hgo:∀i H,i<ys.length->aC H1 H->J.go i H)
  (hs:∀i x y H H' Q,ys[i]? =some y->aC H1 H->J.Wc i H x H'->(∀H4,aC H H4->Q y H4)->g x (wipe σ vs) H' λmG H2=>wipe mG vs=wipe σ vs/\te mG H2 Q)
  (hd:∀H',H' D=some (.lst ys)->aC H1 H'->Qd H'):Wj J g te vs σ H1 D Qd:=by
 refine⟨λi m H=>m=ys.length-i/\i<=ys.length/\H D=some (.lst (ys.take i))/\aC H1 H,⟨ys.length,by simp,eT _,aq,aC.upd hD⟩,?_⟩;rintro i m H ⟨rfl,hi,eD,sm⟩;by_cases BF:i<ys.length
 .refine .inr ⟨hgo i H BF sm,λH'=>H' D=some (.lst (ys.take (i+1)))/\aC H1 H',λH' ⟨a,b⟩=>⟨ys.length-(i+1),by lia,Z,BF,a,b⟩,λx H' y=>?_⟩;have hy:ys[i]? =some ys[i]:=aD BF;refine hs i x ys[i] H H' _ hy sm y λH4 s4=>?_;refine⟨ys.take i,s4 _ _ eD,by rw[cN];lia,?_,λb o e=>?_⟩
  .rw[aq,Mx.take_snoc hy]
  .rw[aF (aI e hD)];exact s4 _ _ (sm _ _ e)
 .have e:i=ys.length:=by lia
  subst e;rw[gk] at eD;exact .inl ⟨Yn H sm,hd H eD sm⟩
section
variable{g:TG}{te:TE}{vs:ie}{σ:St}{H1:Hp}{D:lQ}{Qd:Hp->Prop}{ys:b_}{K:au}
def u7 {lo:Int}{n:Nat}(hD:H1 D=none)(hz:ys.length<=bu)(hn:ys.length=n)
  (hs:∀i y H Q,ys[i]? =some y->aC H1 H->(∀H4,aC H H4->Q y H4)->g (.int (lo+(i:Nat))) (wipe σ vs) H λmG H2=>wipe mG vs=wipe σ vs/\te mG H2 Q)
  (hd:∀H',H' D=some (.lst ys)->aC H1 H'->Qd H'):Wj (S1 lo n) g te vs σ H1 D Qd:=M5 (J:=S1 lo n) (te:=te) hD hz (λH _=>f7 hn.symm) (λi H h _=>by rw[hn] at h;exact h)
   (λi x y H H' Q hy sm ⟨e,z⟩ k=>by subst e z;exact hs i y _ Q hy sm k) hd
def nt {a:lQ}{xs:b_}(hD:H1 D=none)(hz:ys.length<=bu)(hl:nM K H1 a xs)(hn:ys.length=xs.length)
  (hs:∀(i:Nat) x y H Q,xs[i]? =some x->ys[i]? =some y->aC H1 H->(∀H4,aC H H4->Q y H4)->g x (wipe σ vs) H λmG H2=>wipe mG vs=wipe σ vs/\te mG H2 Q)
  (hd:∀H',H' D=some (.lst ys)->aC H1 H'->Qd H'):Wj (Wi K a) g te vs σ H1 D Qd:=M5 (J:=Wi K a) (te:=te) hD hz (λH sm=>⟨xs,sm.seq hl,f7 hn.symm⟩) (λi H h sm=>⟨xs,xs[i]'(by lia),sm.seq hl,aD (by lia)⟩)
   (λi x y H H' Q hy sm ⟨e,z⟩ k=>by subst e;exact hs i x y _ Q (z xs (sm.seq hl)) hy sm k) hd
def M6 {a b:lQ}{xs zs:b_}(hD:H1 D=none)(hz:ys.length<=bu)(hl:nM K H1 a xs)(RH:nM K H1 b zs)(hn:ys.length=xs.length)(hn2:ys.length=zs.length)
  (hs:∀(i:Nat) x z y T H Q,xs[i]? =some x->zs[i]? =some z->ys[i]? =some y->aC H1 H->H T=none->(∀H4,aC (upd H T (.tup [x,z])) H4->Q y H4)->g (.ref T) (wipe σ vs) (upd H T (.tup [x,z])) λmG H2=>wipe mG vs=wipe σ vs/\te mG H2 Q)
  (hd:∀H',H' D=some (.lst ys)->aC H1 H'->Qd H'):Wj (Itz K a b) g te vs σ H1 D Qd:=M5 (J:=Itz K a b) (te:=te) hD hz (λH sm=>⟨xs,zs,sm.seq hl,sm.seq RH,.inl (f7 hn.symm)⟩) (λi H h sm=>⟨xs,zs,xs[i]'(by lia),zs[i]'(by lia),sm.seq hl,sm.seq RH,aD (by lia),aD (by lia)⟩)
   (λi x y H H' Q hy sm ⟨T,x1,z1,e1,e2,e3,e4,e5⟩ k=>by subst e1 e3;exact hs i x1 z1 y T H Q (e4 xs (sm.seq hl)) (e5 zs (sm.seq RH)) hy sm e2 λH4 s4=>k H4 ((aC.upd e2).trans s4)) hd
end
end L2
namespace Bs
open PySem PySem.Spec PyProof.Rows L2 Mx
section
variable{P:bJ}{w:cA}{K:au}{mg:sM}{rZ:Heap}{t:fP}(T:Txt K mg t)
inductive agr (vs:b_)(H:Hp)(Q:VK)(E:XK):Prop|i(x m:Int)(_:vs=[.int x,.int m])(_:0<=m)(_:Q (.int (jM x m)) H)
def Nf:T.GW.Ok P w mg rZ jf 1 agr:=by
 refine T.GW.ok λnd H vs Q E hr h=>?_;obtain⟨x,m,rfl,hm,k⟩:=h;refine .i (aH (bz (gO (K_ rfl) rfl T.ad2 boot_max (ak (t5 pw (pv 1)) (ak (gO (oq rfl) rfl T.ET AE (ak (pv 1) (ak (pv 0) ax))) ax))))) ?_;refine⟨_,Z,_,Z,_,Z,_,Z,_,_,Z,_,_,Z,?_⟩;have e:(if(if x<m then x else m)> -m then(if x<m then x else m) else-m)=jM x m:=abJ hm;rw[e];exact k
inductive aky (vs:b_)(H:Hp)(Q:VK)(E:XK):Prop|i(x:Int)(_:vs=[.int x])(_:Q (.int (zC x)) H)
def YS:T.SX.Ok P w mg rZ jf 1 aky:=by
 refine T.SX.ok λnd H vs Q E hr h=>?_;obtain⟨x,rfl,k⟩:=h;rw[<-agk] at k;refine .i (ao (gj (rb Jb (pv 0) aJ) (aH (bz aJ)) cQ)
   (ao (gj (rb Fc (pv 0) aJ) (aH (bz (t5 pw aJ))) cQ)
   (aH (bz aJ)))) ?_
 refine⟨_,Z,_,_,Z,Z,_,Z,?_⟩;by_cases h1:0<x
 .rw[aj h1] at k;rw[ag h1];exact eY k
 .rw[ah h1] at k;rw[ae h1];refine fK ⟨_,Z,_,_,Z,Z,_,Z,?_⟩;by_cases h2:x<0
  .rw[aj h2] at k;rw[ag h2];exact eY ⟨_,Z,k⟩
  .rw[ah h2] at k;rw[ae h2];exact fK k
def zc (n:Int)(w:Nat):bX:=(aK w).map λi=>n / 2^(8*i)%256
inductive aks (vs:b_)(H:Hp)(Q:VK)(E:XK):Prop|i(n:Int)(wd:Nat)(_:vs=[.int n,.int wd])(_:0<=n)(_:wd<=8)(_:∀H' p,aC H H'->H' p=some (.lst ((zc n wd).map V.int))->H p=none->Q (.ref p) H')
def kO:T.jD.Ok P w mg rZ jf 1 aks:=by
 refine T.jD.ok λnd H vs Q E hr h=>?_;obtain⟨n,wd,rfl,hn,hw,k⟩:=h;refine .i (aH (bz (GO [("i",2)] nd (jx rfl T.iA (ak (pv 1) ax)) (mv 2 nd) (aX YV (aX sY (pv 0) (aX fQ aJ (pv 2))) aJ)))) ?_;refine⟨_,Z,_,Z,by lia,by lia,λD hD=>?_⟩;refine u7 (ys:=(zc n wd).map V.int) hD (by simp[zc,aE];lia) (by simp[zc]) (λi y H2 Q2 hy sm k2=>?_) λH' h1 h2=>k H' D h2 h1 hD;refine⟨Z,_,Z,_,Z,_,_,Z,Z,.inl ⟨by decide,by decide⟩,_,_,Z,Z,by lia,_,_,Z,Z,?_⟩;have hi:i<wd:=by
  have:=(aN.mp hy).1;simpa[zc] using this
 have e:Builtin.bitAnd (n / 2^((8:Int)*(0+(i:Int))).toNat) 255=n / 2^(8*i)%256:=by
  rw[show((8:Int)*(0+(i:Int))).toNat=8*i by lia];exact Bits.EB 8 (Int.ediv_nonneg hn (by exact Int.le_of_lt (Mx.two_pos _)))
 have ey:y=.int (n / 2^(8*i)%256):=by
  rw[aw] at hy;unfold zc at hy;rw[aw,bD hi] at hy;exact(bh hy).symm
 have fin:=k2 _ (aC.refl _);rw[ey,<-e] at fin;exact fin
def Hn {l:bX}{i:Int}(h0:0<=i)(h:i.toNat<l.length):UW (l.map V.int) i=some (.int (l.getD i.toNat 0)):=by
 refine at_of (j:=i.toNat) (by lia) ?_;rw[aw,aG,aD h];rfl
def intBits_le {x:Int}{k:Nat}(h:x.natAbs<2^k):Builtin.Int.intBits x<=k:=by
 unfold Builtin.Int.intBits;split
 .lia
 .rename_i hx;have:x.natAbs.log2<k:=(W4 (by simpa using hx)).mpr h;lia
inductive aku (K:au)(vs:b_)(H:Hp)(Q:VK)(E:XK):Prop|i(a:lQ)(bQ:bX)(p wd:Nat)(_:vs=[.ref a,.int p,.int wd])(_:nM K H a (bQ.map V.int))(_:1<=wd)(_:wd<=4)(_:p+wd<=bQ.length)(_:1<wd->∀x∈bQ,0<=x/\x<=255)(_:Q (.int (Mx.numAt bQ p wd)) H)
def wy:T.qz.Ok P w mg rZ jf 1 (aku K):=by
 refine T.qz.ok λnd H vs Q E hr h=>?_;obtain⟨a,bQ,p,wd,rfl,hl,h1,h4,hp,hb,k⟩:=h;refine .i (ao (fL 3 nd (JV (pv 0) (pv 1)))
   (ao (gX PassesOwn.never rfl (zj rfl T.iA (ak aJ (ak (pv 2) ax))) (mv 4 nd)
    (aH (Jl (i:=3) nd rfl (Ad rfl) (aX T9 (wX (r:=P7 K) za (pv 0) (aX dz (pv 1) (pv 4)) (λ_ _=>rfl)) (aX fQ aJ (pv 4))) MX)))
   (aH (bz (pv 3))))) ?_
 refine⟨_,Z,_,Z,a,_,_,_,Z,Z,hl,Hn (by lia) (by lia),?_⟩;refine⟨_,Z,_,_,Z,⟨by lia,by lia,by lia,by lia⟩,r_ (lo:=1) (n:=((wd:Int)-1).toNat) (λi σ H'=>H'=H/\∃z,σ=[some (.ref a),some (.int p),some (.int wd),some (.int ((aK i).foldl (λb k=>b+bQ.getD (p+(1+k)) 0*2^(8*(1+k))) (bQ.getD p 0))),z]) ⟨Z,none,?_⟩ ?_ ?_⟩
 .show _=_;simp[L2.start]
 .rintro i σ H' hi ⟨e1,z,e2⟩;subst e1 e2;have hi:i<wd-1:=xg wd 1 ▸ hi;have hx:p+(1+i)<bQ.length:=by lia
  have hbt:=hb (by lia) (bQ.getD (p+(1+i)) 0) (by rw[aG,aD hx];exact adq hx);refine⟨_,Z,_,Z,_,Z,_,Z,_,_,Z,Z,a,_,_,_,Z,Z,hl,Hn (by lia) (by lia),_,Z,_,_,Z,Z,.inl ⟨by decide,by decide⟩,_,_,Z,Z,⟨by lia,?_⟩,_,_,Z,Z,Z,some (.int (1+(i:Int))),?_⟩
  .have:=intBits_le (x:=bQ.getD ((p:Int)+(1+(i:Int))).toNat 0) (k:=8) (by rw[show((p:Int)+(1+(i:Int))).toNat=p+(1+i) from rfl];lia);lia
  .rw[de,dB,show((p:Int)+(1+(i:Int))).toNat=p+(1+i) from rfl,show((8:Int)*(1+(i:Int))).toNat=8*(1+i) from rfl];rfl
 .rintro σ H' ⟨e1,z,e2⟩;subst e1 e2;rw[show((wd:Int)-1).toNat=wd-1 from xg wd 1];exact⟨_,Z,k⟩
inductive Zp (g:Nat->Int)(vs:b_)(H:Hp)(Q:VK)(E:XK):Prop|i(b:Nat)(_:vs=[.int b])(_:1<=b)(_:b<=100)(_:Q (.int (g b)) H)
def pf:T.j8.Ok P w mg rZ jf 1 (Zp λb=> -(2^(b-1))):=by
 refine T.j8.ok λnd H vs Q E hr h=>?_;obtain⟨b,rfl,h1,h2,k⟩:=h;refine .i (aH (bz (t5 pw (aX uF aJ (aX gw (pv 0) aJ))))) ?_;refine⟨_,Z,_,_,Z,Z,_,_,Z,Z,⟨by lia,by lia,by decide⟩,_,Z,?_⟩;rw[show((b:Int)-1).toNat=b-1 from xg b 1,pL];exact k
def oi:T.jC.Ok P w mg rZ jf 1 (Zp λb=>2^(b-1)-1):=by
 refine T.jC.ok λnd H vs Q E hr h=>?_;obtain⟨b,rfl,h1,h2,k⟩:=h;refine .i (aH (bz (aX gw (aX uF aJ (aX gw (pv 0) aJ)) aJ))) ?_;refine⟨_,Z,_,_,Z,Z,_,_,Z,Z,⟨by lia,by lia,by decide⟩,_,_,Z,Z,?_⟩;rw[show((b:Int)-1).toNat=b-1 from xg b 1,pL];exact k
end
end Bs
namespace L2
open PySem PySem.Spec PyProof.Rows
variable{X:Cx}{n:Nat}{S:pF}{H H' H1 H0:Hp}{a b:lQ}{o:HO}{xs:b_}
def Raises.less {Mf:lQ}{E E':XK}(h:Raises X Mf E)(le:∀C d H,E' C d H->E C d H):Raises X Mf E':=λaA σ H s lo e C d wt I hp lu F q=>h aA σ H s lo e C d wt I hp lu F (le C d H q)
def xK.mark {k:Nat}{A:Around}(r:xK k A)(h:Option kc):xK k (A.mark h):=⟨r.dp,r.un⟩
def Se {Mf L e:lQ}{E:XK}{ju:Env}{uG:List Env}{n:Str}{rS:Pos}(hX:Raises X Mf E)(ok:X.Ok)(uz:X.stack=ju::uG)(Dv:ju.frame=some L)(Lp:X.env.frame=some L)(hl:X.env.scope.names.lookup n=some .local):
  Raises (X.as (X.A.mark (some (.ref e))) (asE X (X.A.mark (some (.ref e))) n rS)) Mf (λC d H=>E C d H/\∃c,C=.ref c):=
 VM (hX.less λ_ _ _ z=>z.1) ok ((qE _ _).trans ok.frames) uz Dv Lp (λ_ _ _ z=>z.2) hl
def KP {Mf L e:lQ}{E:XK}{ju:Env}{uG:List Env}(hX:Raises X Mf E)(ok:X.Ok)(uz:X.stack=ju::uG)(Dv:ju.frame=some L)(Lp:X.env.frame=some L):
  Raises (X.as (X.A.mark (some (.ref e))) (rm X (X.A.mark (some (.ref e))))) Mf (λC d H=>E C d H/\∃c,C=.ref c):=
 CY (hX.less λ_ _ _ z=>z.1) ok ((qE _ _).trans ok.frames) uz Dv Lp (λ_ _ _ z=>z.2)
def GL {K:au}{es:Fw}{k:Nat}{t:TGs}{cJ:Pos}(hK:X.K=K)(hc:X.calm=true)(h:PGs X es t)(hn:(tJ es X.env).length=n)(uz:(tJ es X.env).findIdx? (·.1)=none):PG X (.Tuple es k cJ) (afh K n t):=by
 subst hK;exact yG hc h hn uz
def Y7 {K:au}{tg e:Expr}{tl:TE}(hK:X.K=K)(h:PE X e tl):PI X tg e (Ys K tl):=by
 subst hK;exact fB h
def dE (S:pF)(H H':Hp):Prop:=∀b o,H b=some o->b∉S->H' b=some o
def aC.chg (h:aC H H'):dE S H H':=λb o e _=>h b o e
def dE.same (h:dE [] H H'):aC H H':=λb o e=>h b o e (by simp)
def dE.refl:dE S H H:=λ_ _ e _=>e
def dE.trans {H2:Hp}(a:dE S H H1)(b:dE S H1 H2):dE S H H2:=λc o e n=>b c o (a c o e n) n
def dE.more {S':pF}(a:dE S H H1)(h:∀x∈S,x∈S'):dE S' H H1:=λc o e n=>a c o e λm=>n (h c m)
def dE.d_ (c:dE S H H1)(h:a∈S):dE S H (upd H1 a o):=λb u e n=>by rw[aF (by rintro rfl;exact n h)];exact c b u e n
def dE.tw (c:dE S H H1)(h:H a=none):dE S H (upd H1 a o):=λb u e n=>by rw[aF (aI e h)];exact c b u e n
def dE.back (s:aC H0 H)(c:dE S H H')(h:∀a∈S,H0 a=none):aC H0 H':=λb o e=>c b o (s b o e) λm=>by rw[h b m] at e;cases e
def dE.one (c:dE [a] H H')(e:H b=some o)(n:b≠a):H' b=some o:=c b o e (by simpa using n)
def nw (H0 H:Hp):Hp:=λb=>if(H0 b).isSome=true then none else H b
def aT:nw H0 H b=some o↔H0 b=none/\H b=some o:=by
 unfold nw;cases h:H0 b with
 |none=>simp
 |some u=>simp
def iK:aC (nw H0 H) H:=λb o e=>(aT.mp e).2
def T8 (c:dE S H H')(h:∀a∈S,(H0 a).isSome=true):aC (nw H0 H) (nw H0 H'):=λb o e=>by
 obtain⟨e1,e2⟩:=aT.mp e;exact aT.mpr ⟨e1,c b o e2 λm=>by have:=h b m;rw[e1] at this;cases this⟩
def wu (c:aC H H'):aC (nw H0 H) (nw H0 H'):=T8 (S:=[]) c.chg (by simp)
def qt (d:∀b,H1 b=none->H0 b=none):aC (nw H1 H) (nw H0 H):=λb o e=>by
 obtain⟨e1,e2⟩:=aT.mp e;exact aT.mpr ⟨d b e1,e2⟩
def o9 (d:aC H0 H1):aC (nw H1 H) (nw H0 H):=qt λb e=>d.free e
def bO (h:upd H a o b=none):b≠a/\H b=none:=by
 by_cases e:b=a
 .subst e;rw[aq] at h;cases h
 .exact⟨e,by rw[aF e] at h;exact h⟩
def gA {x dx:lQ}{C:lQ}{fs:List (Str×V)}(nx:H x=none)(nd:H dx=none):aC H (upd (upd H dx (.own x)) x (.ins C dx fs)):=λb o e=>by
 rw[aF (aI e nx),aF (aI e nd)];exact e
def but (H:Hp)(a:lQ):Hp:=λb=>if b=a then none else H b
def dQ:but H a b=some o↔b≠a/\H b=some o:=by
 unfold but;by_cases h:b=a
 .simp[h]
 .simp[h]
def AW:aC (but H a) H:=λb o e=>(dQ.mp e).2
def abp:aC (but H a) (upd H a o):=λb u e=>by rw[aF (dQ.mp e).1];exact(dQ.mp e).2
def Apart (F G:Hp):Prop:=∀b,F b=none\/G b=none
def Apart.symm {F G:Hp}(h:Apart F G):Apart G F:=λb=>(h b).symm
abbrev ah4 (J:It)(g:TG)(tb:TS)(Dn:Ends)(σ:St)(H:Hp):Prop:=∃W:Nat->Nat->St->Hp->Prop,(∃m,W 0 m σ H)/\∀i m σ H,W i m σ H->(J.stop i H/\Dn.nx σ H)\/(J.go i H/\∃N:St->Hp->Prop,(∀gz H',N gz H'->∃m',m'<m/\W (i+1) m' gz H')/\∀x H',J.Wc i H x H'->g x σ H' λmG H2=>tb {Dn with nx:=N,ct:=N,bk:=Dn.nx} mG H2)
section
variable{g:TG}{te:TE}{vs:ie}{σ:St}{H1:Hp}{D:lQ}{Qd:Hp->Prop}{K:au}
def RS {J:It}(R:Nat->b_->Hp->Prop)(n:Nat)(hz:n<=bu)(h0:R 0 [] (upd H1 D (.lst [])))
  (RG:∀dM H,dM.length=n->H D=some (.lst dM)->R n dM H->J.stop n H/\Qd H) (hgo:∀i dM H,i<n->H D=some (.lst dM)->R i dM H->J.go i H)
  (hs:∀i dM H x H' Q,i<n->dM.length=i->H D=some (.lst dM)->R i dM H->J.Wc i H x H'->(∀y H4,H4 D=some (.lst dM)->R (i+1) (dM++[y]) (upd H4 D (.lst (dM++[y])))->Q y H4)->g x (wipe σ vs) H' λmG H2=>wipe mG vs=wipe σ vs/\te mG H2 Q):Wj J g te vs σ H1 D Qd:=by
 refine⟨λi m H=>m=n-i/\i<=n/\∃dM,dM.length=i/\H D=some (.lst dM)/\R i dM H,⟨n,by simp,eT _,[],Z,aq,h0⟩,?_⟩;rintro i m H ⟨rfl,hi,dM,hl,eD,r⟩;by_cases BF:i<n
 .refine .inr ⟨hgo i dM H BF eD r,λH'=>∃y,H' D=some (.lst (dM++[y]))/\R (i+1) (dM++[y]) H',λH' ⟨y,a,b⟩=>⟨n-(i+1),by lia,Z,BF,dM++[y],by simp[hl],a,b⟩,λx H' y=>?_⟩;exact hs i dM H x H' _ BF hl eD r y λy H4 e4 r4=>⟨dM,e4,by lia,y,aq,r4⟩
 .have e:i=n:=by lia
  subst e;exact .inl (RG dM H hl eD r)
def Ly {lo:Int}(R:Nat->b_->Hp->Prop)(n:Nat)(hz:n<=bu)(h0:R 0 [] (upd H1 D (.lst [])))
  (RG:∀dM H,dM.length=n->H D=some (.lst dM)->R n dM H->Qd H)
  (hs:∀(i:Nat) dM H Q,i<n->dM.length=i->H D=some (.lst dM)->R i dM H->(∀y H4,H4 D=some (.lst dM)->R (i+1) (dM++[y]) (upd H4 D (.lst (dM++[y])))->Q y H4)->g (.int (lo+(i:Nat))) (wipe σ vs) H λmG H2=>wipe mG vs=wipe σ vs/\te mG H2 Q):Wj (S1 lo n) g te vs σ H1 D Qd:=
 RS (J:=S1 lo n) (te:=te) R n hz h0 (λdM H a b c=>⟨bq n,RG dM H a b c⟩) (λi dM H h _ _=>h) λi dM H x H' Q hi hl eD r ⟨e1,e2⟩ k=>by
  subst e1 e2;exact hs i dM _ Q hi hl eD r k
def IA (R:Nat->b_->Hp->Prop)(hz:xs.length<=bu)(h0:R 0 [] (upd H1 D (.lst [])))(hR:∀i dM H,H D=some (.lst dM)->R i dM H->nM K H a xs)
  (RG:∀dM H,dM.length=xs.length->H D=some (.lst dM)->R xs.length dM H->Qd H)
  (hs:∀(i:Nat) dM H x Q,i<xs.length->dM.length=i->H D=some (.lst dM)->R i dM H->xs[i]? =some x->(∀y H4,H4 D=some (.lst dM)->R (i+1) (dM++[y]) (upd H4 D (.lst (dM++[y])))->Q y H4)->g x (wipe σ vs) H λmG H2=>wipe mG vs=wipe σ vs/\te mG H2 Q):Wj (Wi K a) g te vs σ H1 D Qd:=
 RS (J:=Wi K a) (te:=te) R xs.length hz h0 (λdM H a b c=>⟨⟨xs,hR _ _ _ b c,bq _⟩,RG dM H a b c⟩) (λi dM H h e r=>⟨xs,xs[i]'h,hR _ _ _ e r,aD h⟩) λi dM H x H' Q hi hl eD r ⟨e1,e2⟩ k=>by
  subst e1;exact hs i dM _ x Q hi hl eD r (e2 xs (hR _ _ _ eD r)) k
def Tv {ys:b_}{tb:TS}{Dn:Ends}(Pv:Nat->St->Hp->Prop)(h0:Pv 0 σ H)(hn:xs.length=n)(hn2:ys.length=n)(hl:∀i σ H,i<=n->Pv i σ H->nM K H a xs/\nM K H b ys)
  (hs:∀i σ H x y T,i<n->Pv i σ H->xs[i]? =some x->ys[i]? =some y->H T=none->g (.ref T) σ (upd H T (.tup [x,y])) λmG H2=>tb {Dn with nx:=λgz H'=>Pv (i+1) gz H',ct:=λgz H'=>Pv (i+1) gz H',bk:=Dn.nx} mG H2)
  (he:∀σ H,Pv n σ H->Dn.nx σ H):ah4 (Itz K a b) g tb Dn σ H:=by
 refine⟨λi m σ H=>m=n-i/\i<=n/\Pv i σ H,⟨n,by simp,eT _,h0⟩,?_⟩;rintro i m σ H ⟨rfl,hi,p⟩;obtain⟨l1,l2⟩:=hl i σ H hi p;by_cases h:i<n
 .refine .inr ⟨⟨xs,ys,xs[i]'(by lia),ys[i]'(by lia),l1,l2,aD _,aD _⟩,λgz H'=>Pv (i+1) gz H',λgz H' p'=>⟨n-(i+1),by lia,Z,h,p'⟩,?_⟩;rintro v H' ⟨T,x,y,rfl,nT,rfl,hx,hy⟩;exact hs i σ H x y T h p (hx xs l1) (hy ys l2) nT
 .have e:i=n:=by lia
  subst e;exact .inl ⟨⟨xs,ys,l1,l2,.inl (f7 hn)⟩,he σ H p⟩
def Cr {tb:TS}{Dn:Ends}(Pv:Nat->St->Hp->Prop)(h0:Pv 0 σ H)(hl:∀i σ H,i<=xs.length->Pv i σ H->nM K H a xs)
  (hs:∀(i:Nat) σ H x T,i<xs.length->Pv i σ H->xs[i]? =some x->H T=none->g (.ref T) σ (upd H T (.tup [.int (i:Nat),x])) λmG H2=>tb {Dn with nx:=λgz H'=>Pv (i+1) gz H',ct:=λgz H'=>Pv (i+1) gz H',bk:=Dn.nx} mG H2)
  (he:∀σ H,Pv xs.length σ H->Dn.nx σ H):ah4 (Ite K a) g tb Dn σ H:=by
 refine⟨λi m σ H=>m=xs.length-i/\i<=xs.length/\Pv i σ H,⟨xs.length,by simp,eT _,h0⟩,?_⟩;rintro i m σ H ⟨rfl,hi,p⟩;have l1:=hl i σ H hi p;by_cases h:i<xs.length
 .refine .inr ⟨⟨xs,xs[i]'(by lia),l1,aD _⟩,λgz H'=>Pv (i+1) gz H',λgz H' p'=>⟨xs.length-(i+1),by lia,Z,h,p'⟩,?_⟩;rintro v H' ⟨T,x,rfl,nT,rfl,hx⟩;exact hs i σ H x T h p (hx xs l1) nT
 .have e:i=xs.length:=by lia
  subst e;exact .inl ⟨⟨xs,l1,bq _⟩,he σ H p⟩
def Tu {tb:TS}{Dn:Ends}(Pv:Nat->St->Hp->Prop)(h0:Pv 0 σ H)(hl:∀i σ H,i<=xs.length->Pv i σ H->nM K H a xs)
  (hs:∀(i:Nat) σ H x,i<xs.length->Pv i σ H->xs[xs.length-1-i]? =some x->g x σ H λmG H2=>tb {Dn with nx:=λgz H'=>Pv (i+1) gz H',ct:=λgz H'=>Pv (i+1) gz H',bk:=Dn.nx} mG H2)
  (he:∀σ H,Pv xs.length σ H->Dn.nx σ H):∃W:Nat->Nat->St->Hp->Prop,(∃m,W 0 m σ H)/\∀i m σ H,W i m σ H->((Itv K a xs.length).stop i H/\Dn.nx σ H)\/((Itv K a xs.length).go i H/\∃N:St->Hp->Prop,(∀gz H',N gz H'->∃m',m'<m/\W (i+1) m' gz H')/\∀x H',(Itv K a xs.length).Wc i H x H'->g x σ H' λmG H2=>tb {Dn with nx:=N,ct:=N,bk:=Dn.nx} mG H2):=by
 refine⟨λi m σ H=>m=xs.length-i/\i<=xs.length/\Pv i σ H,⟨xs.length,by simp,eT _,h0⟩,?_⟩;rintro i m σ H ⟨rfl,hi,p⟩;have l1:=hl i σ H hi p;by_cases h:i<xs.length
 .refine .inr ⟨⟨h,xs,xs[xs.length-1-i]'(by omega),l1,aD _⟩,λgz H'=>Pv (i+1) gz H',λgz H' p'=>⟨xs.length-(i+1),by omega,Z,h,p'⟩,?_⟩;rintro v H' ⟨rfl,hx⟩;exact hs i σ _ v h p (hx xs l1)
 .have e:i=xs.length:=by omega
  subst e;exact .inl ⟨bq _,he σ H p⟩
end
def k16 {k:Nat}(h:k<(n+15) / 16):16*k<n:=by
 have h:=Nat.mul_le_of_le_div 16 _ _ h;exact Nat.lt_of_not_le λc=>absurd (bt h (BR c 15)) (by rw[jk,amz];exact Oa.mpr (Nat.add_lt_add_left (by decide) _))
def m16 {m:Nat}(h:m<=n):m+min 16 (n-m)=min (m+16) n:=by rw[<-Nat.add_min_add_left,i5 h]
def ao6 {m:Nat}(h:m<=n):((if(n:Int)<(m:Int)+16 then(n:Int) else(m:Int)+16)-(m:Int)).toNat=min 16 (n-m):=by
 obtain⟨d,rfl⟩:=Nat.exists_eq_add_of_le h;rw[k9];by_cases c:d<16
 .rw[aj (by rw[fq];exact Int.add_lt_add_left (UG.mpr c) _),fq,UC,uR,k_ (cY c)];rfl
 .have c:=iY.mp c;rw[ah (by rw[fq];exact Fv.mpr (Int.add_le_add_left (uk.mpr c) _)),UC,uR,f9 c];rfl
def sb2 {x m:Nat}(h:x%2=0)(e:m%2=0):(x-m)%2=0:=Nat.sub_mod_eq_zero_of_mod_eq (h.trans e.symm)
def pA {L d pc:Nat}(h:d<L)(p:1<=pc):L-(d+pc)<L-d:=Nat.sub_lt_sub_left h (Nat.lt_add_of_pos_right p)
def pB {L d:Nat}(h:d<L):1<=min 15 (L-d)/\min 15 (L-d)<=15/\min 15 (L-d)<=L-d:=⟨Nat.le_min.mpr ⟨by decide,G6 h⟩,fu ..,aeO ..⟩
def pC {i:Nat}(h:i<n):n-1-(n-1-i)=i:=Nat.sub_sub_self (W3 h)
def ajO (b:Nat):(if(b:Int)<15 then(b:Int) else 15)=((min 15 b:Nat):Int):=by
 by_cases c:b<15
 .rw[aj (show(b:Int)<15 from UG.mpr c),k_ (cY c)]
 .rw[ah (show¬(b:Int)<15 from Fv.mpr (uk.mpr (iY.mp c))),f9 (iY.mp c)];rfl
def rvq {i q:Nat}(hi:i<n)(hq:q=n-1-i):n-i=q+1/\n-(i+1)=q/\q<n:=by
 have e:n=q+1+i:=by rw[hq,uU,jH (W3 hi),jH (Nat.zero_lt_of_lt hi)]
 exact⟨W7 e,W7 (e.trans (uU ..)),e ▸ bc (ij q) (jt ..)⟩
def nd1 (n:Nat):((n:Int)-1- -1).toNat=n:=by rw[Int.sub_neg,Int.sub_add_cancel];rfl
def ndi {i q:Nat}(hi:i<n)(hq:q=n-1-i):(n:Int)-1+(i:Nat)*(-1)=(q:Int):=by
 have:=(rvq hi hq).1;clear hq;lia
def c64 (h:n<=64):((32768-(64-n):Nat):Int)=32768-(64-(n:Int)):=by
 rw[mr (bt (lO ..) (by decide)),mr h];rfl
def c63 {s:Nat}(h:s<64):((64:Int)-((s:Int)+1)).toNat=63-s:=by
 rw[show(64:Int)-((s:Int)+1)=((64-(s+1):Nat):Int) from(mr h).symm];exact ady 63 s
end L2
namespace Bs
open PySem PySem.Spec PyProof.Rows L2 Mx
variable{E:XK}{S:pF}{H H1 H' F N G H2 G' G0 H0 F' Hb:Hp}{e lo fA:Int}{xs uP:b_}{f:bN}{fd:eN}{a dx x D ba li dl ca:lQ}{r p q i n R ay pd pl:Nat}{bQ l:bX}{ab:Bool}{b:cf}{o:HO}{s:eO}{v fv lv:V}{Q:VK}{g:TG}{te:TE}{vs:ie}{Gs:Nat->Hp}{m:b9}{wl:List (Nat×Nat)}{st:aW}{it:oW}{rd:cE}{so:Option aW}
section
variable{P:bJ}{w:cA}{K:au}{mg:sM}{rZ:Heap}{t:fP}(T:Txt K mg t)
def zq (T:Txt K mg t):FnH P w K mg rZ t.ux t.Ah ["self","place"] (ZF t.bI ["place"]):=by
 refine T.lq.F.okH T.lq.S (λvs H Q h=>?_) (λsP A outer s H vs Q h=>?_)
 .obtain⟨e,xs,rfl,hl,_⟩:=h;simp[hl]
 .obtain⟨e,xs,rfl,hl,he,k⟩:=h;obtain⟨x,rfl⟩:=Mx.lc1 hl;refine⟨_,ao (P5 rfl T.ER (pv 0)) (aH (Np (pv 0) (pv 1) rfl)),?_⟩;refine⟨_,Z,e,t.bI,_,none,Z,T.sO,he,_,Z,_,Z,e,t.bI,_,Z,T.sO,T.w6,.inl ⟨aq,λdd n1 n2=>?_⟩⟩;have n3:H dd=none:=(bO n1).2;refine k _ dd [("place",x)] ?_ aq n3 n2 (λi n y h1 h2=>?_) (λb o eb nb=>?_)
  .rw[aF (eP n2),aq]
  .match i with
   |0=>cases h1;cases h2;rfl
   |i+1=>simp at h1
  .rw[aF (aI eb n3),aF nb,aF nb];exact eb
def h_ (T:Txt K mg t):FnH P w K mg rZ t.o6 t.tV ["self","kind","place"] (ZF t.cH ["kind","place"]):=by
 refine T.dq.F.okH T.dq.S (λvs H Q h=>?_) (λsP A outer s H vs Q h=>?_)
 .obtain⟨e,xs,rfl,hl,_⟩:=h;simp[hl]
 .obtain⟨e,xs,rfl,hl,he,k⟩:=h;obtain⟨x,z,rfl⟩:=Mx.lc2 hl;refine⟨_,ao (P5 rfl T.ER (pv 0)) (ao (Np (pv 0) (pv 1) rfl) (aH (Np (pv 0) (pv 2) rfl))),?_⟩;refine⟨_,Z,e,t.cH,_,none,Z,T.iN,he,_,Z,_,Z,e,t.cH,_,Z,T.iN,T.tE,.inl ⟨aq,λdd n1 n2=>?_⟩⟩;have n3:H dd=none:=(bO n1).2;refine⟨_,Z,_,Z,e,t.cH,_,Z,T.iN,T.rG,.inr ⟨dd,[("kind",x)],?_,aq,by simp,?_⟩⟩
  .rw[aF (eP n2),aq]
  refine k _ dd [("kind",x),("place",z)] ?_ aq n3 n2 (λi n y h1 h2=>?_) (λb o eb nb=>?_)
  .rw[aF (eP n2),aF (eP n2),aq]
  .match i with
   |0=>cases h1;cases h2;rfl
   |1=>cases h1;cases h2;rfl
   |i+2=>simp at h1
  .rw[aF (aI eb n3),aF (aI eb n3),aF nb,aF nb];exact eb
def Wn (t:fP)(E:XK)(S:pF)(H:Hp)(e:Int):Prop:=∀H' dd fs,H' dd=some (.ext (GB dd fs))->fs.lookup ("place":Str)=some (V.int e)->dE S H H'->E (.ref t.bI) (some dd) H'
def Gx (t:fP)(E:XK)(S:pF)(H:Hp)(k p:Int):Prop:=∀H' dd fs,H' dd=some (.ext (GB dd fs))->fs.lookup ("kind":Str)=some (V.int k)->fs.lookup ("place":Str)=some (V.int p)->dE S H H'->E (.ref t.cH) (some dd) H'
def S6 (C:lQ)(E:XK)(S:pF)(H:Hp):Prop:=∀H',dE S H H'->E (.ref C) none H'
def Wn.mono (h:Wn t E S H e)(c:dE S H H1):Wn t E S H1 e:=λH' dd fs a b d=>h H' dd fs a b (c.trans d)
def Wn.raise (h:Wn t E S H e):[V.int e].length=(["place"]:mX).length/\∀dd fs H2,H2 dd=some (.ext (GB dd fs))->Given ["place"] [V.int e] fs->aC H H2->E (.ref t.bI) (some dd) H2:=
 ⟨Z,λdd fs H2 a g s=>h H2 dd fs a (g 0 _ _ rfl rfl) s.chg⟩
def Gx.mono {k:Int}(h:Gx t E S H k e)(c:dE S H H1):Gx t E S H1 k e:=λH' dd fs a b d x=>h H' dd fs a b d (c.trans x)
def Gx.raise {k:Int}(h:Gx t E S H k e):[V.int k,V.int e].length=(["kind","place"]:mX).length/\∀dd fs H2,H2 dd=some (.ext (GB dd fs))->Given ["kind","place"] [V.int k,V.int e] fs->aC H H2->E (.ref t.cH) (some dd) H2:=
 ⟨Z,λdd fs H2 a g s=>h H2 dd fs a (g 0 _ _ rfl rfl) (g 1 _ _ rfl rfl) s.chg⟩
def S6.mono {C:lQ}(h:S6 C E S H)(c:dE S H H1):S6 C E S H1:=λH' x=>h H' (c.trans x)
inductive Fj (C:lQ)(mk:b_->List (Str×V))(n:Nat)(vs:b_)(H:Hp)(Q:VK)(E:XK):Prop|i x dx xs(_:vs=.ref x::xs)(_:xs.length=n)(_:H x=some (.ins C dx []))(_:Q .gQ (upd H x (.ins C dx (mk xs))))
def IG (ns:mX)(xs:b_):List (Str×V):=ns.zip xs
def afU (h:xs.length=2):∃a b,xs=[a,b]:=Mx.lc2 h
def afV (h:xs.length=4):∃a b c d,xs=[a,b,c,d]:=by
 obtain⟨a,r,rfl,h1⟩:=Mx.lcs h;obtain⟨b,c,d,rfl⟩:=Mx.lc3 h1;exact⟨a,b,c,d,Z⟩
def ao1 (h:xs.length=6):∃a b c d e f,xs=[a,b,c,d,e,f]:=by
 obtain⟨a,r,rfl,h1⟩:=Mx.lcs h;obtain⟨b,r,rfl,h2⟩:=Mx.lcs h1;obtain⟨c,d,e,f,rfl⟩:=afV h2;exact⟨a,b,c,d,e,f,Z⟩
def KD:T.vz.Ok P w mg rZ jf 1 (Fj t.yW (IG ["taps","gain","kind","scale"]) 4):=by
 refine T.vz.ok λnd H vs Q E hr h=>?_;obtain⟨x,dx,xs,rfl,hl,hx,k⟩:=h;obtain⟨a,b,c,d,rfl⟩:=afV hl;refine .i (ao (kh (pv 0) (pv 1))
   (ao (kh (pv 0) (pv 2))
   (ao (kh (pv 0) (pv 3))
   (aH (kh (pv 0) (pv 4)))))) ?_
 refine⟨_,Z,_,Z,Z,hx,T.iq,Z,Z,Z,?_⟩;refine⟨_,Z,_,Z,Z,aq,T.iq,Z,Z,Z,?_⟩;refine⟨_,Z,_,Z,Z,aq,T.iq,Z,Z,Z,?_⟩;refine⟨_,Z,_,Z,Z,aq,T.iq,Z,Z,Z,?_⟩;rw[eG,eG,eG];exact k
def IU:T.uf.Ok P w mg rZ jf 1 (Fj t.uW (IG ["fixed","stages"]) 2):=by
 refine T.uf.ok λnd H vs Q E hr h=>?_;obtain⟨x,dx,xs,rfl,hl,hx,k⟩:=h;obtain⟨a,b,rfl⟩:=afU hl;refine .i (ao (kh (pv 0) (pv 1))
   (aH (kh (pv 0) (pv 2)))) ?_
 refine⟨_,Z,_,Z,Z,hx,T.oK,Z,Z,Z,?_⟩;refine⟨_,Z,_,Z,Z,aq,T.oK,Z,Z,Z,?_⟩;rw[eG];exact k
def PB:T.AH.Ok P w mg rZ jf 1 (Fj t.K9 (IG ["row_ways","joints"]) 2):=by
 refine T.AH.ok λnd H vs Q E hr h=>?_;obtain⟨x,dx,xs,rfl,hl,hx,k⟩:=h;obtain⟨a,b,rfl⟩:=afU hl;refine .i (ao (kh (pv 0) (pv 1))
   (aH (kh (pv 0) (pv 2)))) ?_
 refine⟨_,Z,_,Z,Z,hx,T.xC,Z,Z,Z,?_⟩;refine⟨_,Z,_,Z,Z,aq,T.xC,Z,Z,Z,?_⟩;rw[eG];exact k
def Ar:T.rL.Ok P w mg rZ jf 1 (Fj t.o5 (IG ["bits","cut","lanes","way"]) 4):=by
 refine T.rL.ok λnd H vs Q E hr h=>?_;obtain⟨x,dx,xs,rfl,hl,hx,k⟩:=h;obtain⟨a,b,c,d,rfl⟩:=afV hl;refine .i (ao (kh (pv 0) (pv 1))
   (ao (kh (pv 0) (pv 2))
   (ao (kh (pv 0) (pv 3))
   (aH (kh (pv 0) (pv 4)))))) ?_
 refine⟨_,Z,_,Z,Z,hx,T.dA,Z,Z,Z,?_⟩;refine⟨_,Z,_,Z,Z,aq,T.dA,Z,Z,Z,?_⟩;refine⟨_,Z,_,Z,Z,aq,T.dA,Z,Z,Z,?_⟩;refine⟨_,Z,_,Z,Z,aq,T.dA,Z,Z,Z,?_⟩;rw[eG,eG,eG];exact k
def yz:T.p9.Ok P w mg rZ jf 1 (Fj t.lh (λxs=>IG ["row","as_bytes","place"] (xs++[.int 0])) 2):=by
 refine T.p9.ok λnd H vs Q E hr h=>?_;obtain⟨x,dx,xs,rfl,hl,hx,k⟩:=h;obtain⟨a,b,rfl⟩:=afU hl;refine .i (ao (kh (pv 0) (pv 1))
   (ao (kh (pv 0) (pv 2))
   (aH (kh (pv 0) aJ)))) ?_
 refine⟨_,Z,_,Z,Z,hx,T.cu,Z,Z,Z,?_⟩;refine⟨_,Z,_,Z,Z,aq,T.cu,Z,Z,Z,?_⟩;refine⟨_,Z,Z,aq,T.cu,Z,Z,Z,?_⟩;rw[eG,eG];exact k
def Nb:T.xD.Ok P w mg rZ jf 1 (Fj t.uv (λxs=>IG ["key","rows","bits","cut","lanes","times","check","way","end"] (xs++[.int 0,.gQ,.int 0])) 6):=by
 refine T.xD.ok λnd H vs Q E hr h=>?_;obtain⟨x,dx,xs,rfl,hl,hx,k⟩:=h;obtain⟨a,b,c,d,e,f,rfl⟩:=ao1 hl;refine .i (ao (kh (pv 0) (pv 1))
   (ao (kh (pv 0) (pv 2))
   (ao (kh (pv 0) (pv 3))
   (ao (kh (pv 0) (pv 4))
   (ao (kh (pv 0) (pv 5))
   (ao (kh (pv 0) (pv 6))
   (ao (kh (pv 0) aJ)
   (ao (kh (pv 0) R6)
   (aH (kh (pv 0) aJ)))))))))) ?_
 refine⟨_,Z,_,Z,Z,hx,T.dS,Z,Z,Z,?_⟩;refine⟨_,Z,_,Z,Z,aq,T.dS,Z,Z,Z,?_⟩;refine⟨_,Z,_,Z,Z,aq,T.dS,Z,Z,Z,?_⟩;refine⟨_,Z,_,Z,Z,aq,T.dS,Z,Z,Z,?_⟩;refine⟨_,Z,_,Z,Z,aq,T.dS,Z,Z,Z,?_⟩;refine⟨_,Z,_,Z,Z,aq,T.dS,Z,Z,Z,?_⟩;refine⟨_,Z,Z,aq,T.dS,Z,Z,Z,?_⟩;refine⟨_,Z,Z,aq,T.dS,Z,Z,Z,?_⟩;refine⟨_,Z,Z,aq,T.dS,Z,Z,Z,?_⟩;simp only[eG];exact k
def lx.exP {β:Type}{pre:β->Prop}{sp:β->Sp}{CX:NR}{k:Nat}{f:lQ}{ps:mX}(h:∀b,pre b->lx P w K mg rZ CX k f fd ps (sp b)):lx P w K mg rZ CX k f fd ps (λvs H Q E=>∃b,pre b/\sp b vs H Q E):=
 ⟨λvs H Q E ⟨b,p,z⟩=>(h b p).len vs H Q E z,λA outer s H args us vs Q E hr he hb hv ⟨b,p,z⟩=>(h b p).run A outer s H args us vs Q E hr he hb hv z⟩
abbrev UB (t:fP)(dx r:lQ)(ab:Bool)(p:Nat):HO:=.ins t.lh dx [("row",.ref r),("as_bytes",.bl ab),("place",.int p)]
structure FA (t:fP)(H:Hp)(a dx r:lQ)(bQ:bX)(ab:Bool)(p:Nat):Prop where
 at_:H a=some (UB t dx r ab p)
 lS:H r=some (.lst (bQ.map V.int))
 EC:ab=true->∀x∈bQ,0<=x/\x<=255
def FA.ne {r:lQ}(h:FA t H a dx r bQ ab p):r≠a:=g_ h.lS h.at_ (by intro z;cases z)
def FA.chg {r:lQ}(h:FA t H a dx r bQ ab p)(c:dE [a] H H')(e:H' a=some (UB t dx r ab q)):FA t H' a dx r bQ ab q:=
 ⟨e,c.one h.lS h.ne,h.EC⟩
inductive p8 {α:Type}(t:fP)(ex:b_)(f:bX->Bool->Nat->Except Nat (α×Nat))(is:α->V->Hp->Prop)(vs:b_)(H:Hp)(Q:VK)(E:XK):Prop|i a dx r bQ ab p(_:vs=.ref a::ex)(_:FA t H a dx r bQ ab p)(_:∀e,f bQ ab p=.error e->Wn t E [a] H e)(_:∀x q,f bQ ab p=.ok (x,q)->∀v H',dE [a] H H'->H' a=some (UB t dx r ab q)->is x v (nw H H')->Q v H')
def isI (x:Int)(v:V)(_:Hp):Prop:=v=.int x
def acZ {σ:L2.St}{Q':VK}(hi:σ[i]? =some (some (.int n)))(h:Q' (.int ((if ab=true then n else 1:Nat):Nat)) H):if ab=true then Em i σ H Q' else tC (.int 1) σ H Q':=by
 cases ab with
 |true=>exact⟨_,hi,h⟩
 |false=>exact h
def ajF {c:Bool}{a b:V}{σ:L2.St}{Q':VK}(h:Q' (if c=true then a else b) H):if c=true then tC a σ H Q' else tC b σ H Q':=by cases c<;>exact h
def zU (wd:Nat)(hw:1<=wd/\wd<=4):T.ir.Ok P w mg rZ (tN P w t.bI) 4 (p8 t [.int wd] (λbQ ab p=>Bu bQ ab wd p) isI):=by
 refine T.ir.xA λnd H vs Q E hr h=>?_;obtain⟨a,dx,r,bQ,ab,p,rfl,fa,kE,kQ⟩:=h;have h2:1<=(if ab=true then wd else 1)/\(if ab=true then wd else 1)<=4:=by split<;>omega
 refine .i (ao (fL 2 nd (cO (pv 0)))
   (ao (fL 3 nd (qJ (Bo (cO (pv 0))) (pv 1) aJ))
   (ao (gj (rb Jb (aX dz (pv 2) (pv 3)) (Bn T.i_ (ak (cO (pv 0)) ax))) (aH (jy (ns:=["place"]) aY rfl T.yV (zq T) (hr.mono (by decide)).h T.lq.b rfl rfl T.si (ak (Bn T.i_ (ak (cO (pv 0)) ax)) ax) (by decide))) cQ)
   (ao (kh (pv 0) (aX dz (pv 2) (pv 3)))
   (aH (bz (ko T.qz (wy T) hr bG (ak (cO (pv 0)) (ak (pv 2) (ak (pv 3) ax)))))))))) ?_
 refine⟨_,Z,Z,fa.at_,T.cu,Z,Z,?_⟩;refine⟨_,Z,Z,fa.at_,T.cu,Z,Z,?_⟩;obtain⟨sz,hsz⟩:∃sz:Nat,sz=if ab=true then wd else 1:=⟨_,Z⟩
 have h2:1<=sz/\sz<=4:=by rw[hsz];split<;>omega
 have hb:1<sz->∀x∈bQ,0<=x/\x<=255:=λz=>fa.EC (by
  cases ab with
  |true=>rfl
  |false=>simp at hsz;omega)
 have kE':p+sz>bQ.length->Wn t E [a] H bQ.length:=λz=>kE bQ.length (by show Bu bQ ab wd p=_;unfold Bu;rw[<-hsz,aj z]);have kQ':¬p+sz>bQ.length->∀v H',dE [a] H H'->H' a=some (UB t dx r ab (p+sz))->v=.int (Mx.numAt bQ p sz)->Q v H':=λz v H' c e ev=>kQ _ _ (by show Bu bQ ab wd p=_;unfold Bu;rw[<-hsz,ah z]) v H' c e ev;clear kE kQ;refine⟨ab,Z,acZ rfl ?_⟩;rw[<-hsz];refine⟨_,Z,_,Z,_,_,Z,Z,_,Z,Z,fa.at_,T.cu,Z,Z,r,_,Z,i3 fa.lS,_,_,Z,Z,_,Z,?_⟩;rw[aB];by_cases hp:p+sz>bQ.length
 .rw[ag (show(bQ.length:Int)<(p:Int)+(sz:Int) by omega)];refine eY ⟨_,Z,Z,fa.at_,T.cu,Z,Z,r,_,Z,i3 fa.lS,?_⟩;rw[aB];exact(kE' hp).raise
 .rw[ae (show¬(bQ.length:Int)<(p:Int)+(sz:Int) by omega)];refine fK ⟨_,Z,_,Z,_,_,Z,Z,_,Z,Z,fa.at_,T.cu,Z,Z,Z,?_⟩;refine⟨_,Z,Z,aq,T.cu,Z,Z,_,Z,_,Z,r,bQ,p,sz,Z,.inl (.inl ?_),h2.1,h2.2,by omega,hb,?_⟩
  .rw[aF fa.ne];exact fa.lS
  .exact kQ' hp _ _ (dE.refl.d_ (by simp)) aq rfl
def ako (t:fP):Sp:=λvs H Q E=>∃wd:Nat,(1<=wd/\wd<=4)/\p8 t [.int wd] (λbQ ab p=>Bu bQ ab wd p) isI vs H Q E
def oh:T.ir.Ok P w mg rZ (tN P w t.bI) 4 (ako t):=lx.exP λwd h=>zU T wd h
def aei (t:fP):Sp:=λvs H Q E=>∃b:Nat×Int×Int,(1<=b.1/\b.1<=4)/\p8 t [.int b.1,.int b.2.1,.int b.2.2] (λbQ ab p=>jV bQ ab b.1 b.2.1 b.2.2 p) isI vs H Q E
def cZ:T.cU.Ok P w mg rZ (tN P w t.bI) 5 (aei t):=by
 refine lx.exP λ⟨wd,lo,hi⟩ hw=>?_;refine T.cU.xA λnd H vs Q E hr h=>?_;obtain⟨a,dx,r,bQ,ab,p,rfl,fa,kE,kQ⟩:=h;refine .i (ao (fL 4 nd (cO (pv 0)))
   (ao (fL 5 nd (qN (pv 0) T.cu T.ir (oh T) hr aY.passes (ak (pv 1) ax)))
   (ao (gj (PW.pt (yK (rb Fc (pv 5) (pv 2)) (yL (rb Jb (pv 5) (pv 3))))) (aH (jy (ns:=["place"]) aY rfl T.yV (zq T) (hr.mono (by decide)).h T.lq.b rfl rfl T.si (ak (pv 4) ax) (by decide))) cQ)
   (aH (bz (pv 5)))))) ?_
 refine⟨_,Z,Z,fa.at_,T.cu,Z,Z,_,Z,a,_,_,Z,fa.at_,Z,_,Z,wd,hw,a,dx,r,bQ,ab,p,Z,fa,λe he=>kE e (by simp only[jV,he]),λx q hx v H' c e hv=>?_⟩;obtain rfl:=hv;refine⟨_,Z,_,Z,_,_,Z,Z,_,Z,?_⟩;by_cases h1:x<lo
 .rw[ag h1];refine eY ⟨_,Z,?_⟩;exact((kE p (by simp only[jV,hx];rw[aj (.inl h1)])).mono c).raise
 .rw[ae h1];refine fK ⟨_,Z,_,Z,_,_,Z,Z,_,Z,?_⟩;by_cases h2:hi<x
  .rw[ag h2];refine eY ⟨_,Z,?_⟩;exact((kE p (by simp only[jV,hx];rw[aj (.inr h2)])).mono c).raise
  .rw[ae h2];exact fK ⟨_,Z,kQ x q (by simp only[jV,hx];rw[ah (by lia)]) _ _ c e rfl⟩
def akw (t:fP):Sp:=λvs H Q E=>∃wd:Nat,(1<=wd/\wd<=4)/\p8 t [.int wd,.ref t.GD] (λbQ ab p=>Bv bQ ab wd iy p) isI vs H Q E
theorem Pc {x:Int}:∀{cs:bX},inV (.int x) (cs.map V.int)=decide (x∈cs)
 |[]=>rfl
 |a::cs=>by
  have ih:=Pc (x:=x) (cs:=cs);show(eqV (.int a) (.int x)||inV (.int x) (cs.map V.int))=_;rw[ih];show(decide (a=x)||decide (x∈cs))=decide (x∈a::cs);by_cases h:a=x
  .subst h;simp
  .have h':¬x=a:=λz=>h z.symm;simp[h,h']
def xo:T.lU.Ok P w mg rZ (tN P w t.bI) 5 (akw t):=by
 refine lx.exP λwd hw=>?_;refine T.lU.xA λnd H vs Q E hr h=>?_;obtain⟨a,dx,r,bQ,ab,p,rfl,fa,kE,kQ⟩:=h;refine .i (ao (fL 3 nd (cO (pv 0)))
   (ao (fL 4 nd (qN (pv 0) T.cu T.ir (oh T) hr aY.passes (ak (pv 1) ax)))
   (ao (gj (Ud Nk (pv 4) (pv 2) (by rfl)) (aH (jy (ns:=["place"]) aY rfl T.yV (zq T) (hr.mono (by decide)).h T.lq.b rfl rfl T.si (ak (pv 3) ax) (by decide))) cQ)
   (aH (bz (pv 4)))))) ?_
 refine⟨_,Z,Z,fa.at_,T.cu,Z,Z,_,Z,a,_,_,Z,fa.at_,Z,_,Z,wd,hw,a,dx,r,bQ,ab,p,Z,fa,λe he=>kE e (by simp only[Bv,he]),λx q hx v H' c e hv=>?_⟩;obtain rfl:=hv;refine⟨_,Z,_,Z,_,_,Z,.inr (T.acu _),Z,by decide,_,Z,?_⟩;have e1:inV (.int x) [.int 1,.int 4,.int 8,.int 16]=decide (x∈iy):=Pc (cs:=iy);rw[aj rfl,e1];by_cases h1:x∈iy
 .rw[ag h1];exact fK ⟨_,Z,kQ x q (by simp only[Bv,hx];rw[aj h1]) _ _ c e rfl⟩
 .rw[ae h1];refine eY ⟨_,Z,?_⟩;exact((kE p (by simp only[Bv,hx];rw[ah h1])).mono c).raise
def isU (_:Unit)(v:V)(_:Hp):Prop:=v=.gQ
def ac1 (wd:Nat)(bQ:bX)(ab:Bool)(p:Nat):Except Nat (Unit×Nat):=Mx.bd (Mx.tNo bQ ab wd p) λ_ q=>.ok ((),q)
def noE {wd:Nat}{e:Nat}(h:ac1 wd bQ ab p=.error e):Mx.tNo bQ ab wd p=.error e:=by
 unfold ac1 at h;cases q:Mx.tNo bQ ab wd p with
 |error y=>rw[q] at h;cases h;rfl
 |ok z=>rw[q] at h;cases h
def noO {wd:Nat}{u:Unit}(h:ac1 wd bQ ab p=.ok (u,q)):∃z,Mx.tNo bQ ab wd p=.ok (z,q):=by
 obtain⟨z,c,h1,h2⟩:=GK h;cases h2;exact⟨z,h1⟩
def Zu (t:fP):Sp:=λvs H Q E=>∃wd:Nat,(1<=wd/\wd<=4)/\p8 t [.int wd] (ac1 wd) isU vs H Q E
def pP:T.jB.Ok P w mg rZ (tN P w t.bI) 6 (Zu t):=by
 refine lx.exP λwd hw=>?_;refine T.jB.xA λnd H vs Q E hr h=>?_;obtain⟨a,dx,r,bQ,ab,p,rfl,fa,kE,kQ⟩:=h;refine .i (aH (gj (Bo (cO (pv 0))) (aH (cP (qN (pv 0) T.cu T.cU (cZ T) hr aY.passes (ak (pv 1) (ak aJ (ak aJ ax)))))) cQ)) ?_;refine⟨_,Z,Z,fa.at_,T.cu,Z,Z,ab,Z,?_⟩;cases ab with
 |false=>exact fK (kQ () p rfl .gQ H dE.refl fa.at_ rfl)
 |true=>
  refine eY ⟨_,Z,a,_,_,Z,fa.at_,Z,_,Z,(wd,0,0),hw,a,dx,r,bQ,true,p,Z,fa,λe he=>kE e (BC he),λx q hx v H' c e hv=>?_⟩;exact kQ () q (Af hx) .gQ H' c e rfl
def EX:T.vF.Ok P w mg rZ (tN P w t.bI) 6 (p8 t [] (λbQ ab p=>jV bQ ab 1 0 1 p) isI):=by
 refine T.vF.xA λnd H vs Q E hr h=>?_;obtain⟨a,dx,r,bQ,ab,p,rfl,fa,kE,kQ⟩:=h;refine .i (aH (bz (qN (pv 0) T.cu T.cU (cZ T) hr aY.passes (ak aJ (ak aJ (ak aJ ax)))))) ?_;exact⟨_,Z,a,_,_,Z,fa.at_,Z,(1,0,1),by decide,a,dx,r,bQ,ab,p,Z,fa,kE,kQ⟩
def CP:T.tR.Ok P w mg rZ (tN P w t.bI) 6 (p8 t [] (λbQ ab p=>jV bQ ab 1 8 24 p) isI):=by
 refine T.tR.xA λnd H vs Q E hr h=>?_;obtain⟨a,dx,r,bQ,ab,p,rfl,fa,kE,kQ⟩:=h;refine .i (aH (bz (qN (pv 0) T.cu T.cU (cZ T) hr aY.passes (ak aJ (ak aJ (ak aJ ax)))))) ?_;exact⟨_,Z,a,_,_,Z,fa.at_,Z,(1,8,24),by decide,a,dx,r,bQ,ab,p,Z,fa,kE,kQ⟩
def CQ:T.tS.Ok P w mg rZ (tN P w t.bI) 6 (p8 t [] (λbQ ab p=>jV bQ ab 1 1 4 p) isI):=by
 refine T.tS.xA λnd H vs Q E hr h=>?_;obtain⟨a,dx,r,bQ,ab,p,rfl,fa,kE,kQ⟩:=h;refine .i (aH (bz (qN (pv 0) T.cu T.cU (cZ T) hr aY.passes (ak aJ (ak aJ (ak aJ ax)))))) ?_;exact⟨_,Z,a,_,_,Z,fa.at_,Z,(1,1,4),by decide,a,dx,r,bQ,ab,p,Z,fa,kE,kQ⟩
def akr (t:fP):Sp:=λvs H Q E=>∃b:Int,True/\p8 t [.int b] (λbQ ab p=>jV bQ ab 1 0 (b-1) p) isI vs H Q E
def EW:T.vE.Ok P w mg rZ (tN P w t.bI) 6 (akr t):=by
 refine lx.exP λb _=>?_;refine T.vE.xA λnd H vs Q E hr h=>?_;obtain⟨a,dx,r,bQ,ab,p,rfl,fa,kE,kQ⟩:=h;refine .i (aH (bz (qN (pv 0) T.cu T.cU (cZ T) hr aY.passes (ak aJ (ak aJ (ak (aX gw (pv 1) aJ) ax)))))) ?_;exact⟨_,Z,a,_,_,Z,fa.at_,Z,_,Z,_,_,Z,Z,(1,0,b-1),⟨bq 1,by show 1<=4;decide⟩,a,dx,r,bQ,ab,p,Z,fa,kE,kQ⟩
def Au:T.rN.Ok P w mg rZ (tN P w t.bI) 6 (p8 t [] (λbQ ab p=>Bv bQ ab 1 iy p) isI):=by
 refine T.rN.xA λnd H vs Q E hr h=>?_;obtain⟨a,dx,r,bQ,ab,p,rfl,fa,kE,kQ⟩:=h;refine .i (aH (bz (qN (pv 0) T.cu T.lU (xo T) hr aY.passes (ak aJ (ak (tZ (v:=V.ref t.GD) rfl T.abD rfl) ax))))) ?_;exact⟨_,Z,a,_,_,Z,fa.at_,Z,1,by decide,a,dx,r,bQ,ab,p,Z,fa,kE,kQ⟩
def YE {u u':HO}(c:dE S H H1)(hS:∀a∈S,H1 a≠none)(nx:H1 x=none)(nd:H1 dx=none):dE S H (upd (upd H1 dx u) x u')/\nw H (upd (upd H1 dx u) x u') x=some u'/\aC H1 (upd (upd H1 dx u) x u'):=by
 have fr:∀y,H1 y=none->H y=none:=λy hy=>by
  cases e:H y with
  |none=>rfl
  |some o=>
   by_cases m:y∈S
   .exact absurd hy (hS y m)
   .rw[c y o e m] at hy;cases hy
 refine⟨(c.tw (fr dx nd)).tw (fr x nx),aT.mpr ⟨fr x nx,aq⟩,λb o e=>?_⟩;rw[aF (aI e nx),aF (aI e nd)];exact e
def ou {u u':HO}(c:dE [a] H H1)(ha:H1 a=some o)(nx:H1 x=none)(nd:H1 dx=none):dE [a] H (upd (upd H1 dx u) x u')/\nw H (upd (upd H1 dx u) x u') x=some u'/\upd (upd H1 dx u) x u' a=some o/\aC H1 (upd (upd H1 dx u) x u'):=by
 obtain⟨h1,h2,h3⟩:=YE (u:=u) (u':=u') c (λb hb=>by rw[show b=a from by simpa using hb,ha];simp) nx nd;exact⟨h1,h2,h3 _ _ ha,h3⟩
def Yu {c:Prop}[Decidable c]{a b:Int}{σ:L2.St}{Q':VK}(h:Q' (.int (if c then a else b)) H):if decide c=true then tC (.int a) σ H Q' else tC (.int b) σ H Q':=by
 by_cases hc:c
 .rw[ag hc,aj rfl];rw[aj hc] at h;exact h
 .rw[ae hc,ah (by decide)];rw[ah hc] at h;exact h
def rf {wd:Nat}{hi:Int}{x:Int}(h:jV bQ ab wd lo hi p=.ok (x,q)):lo<=x/\x<=hi:=by
 unfold jV at h;cases h1:Bu bQ ab wd p with
 |error e=>rw[h1] at h;cases h
 |ok z=>
  obtain⟨n,q'⟩:=z;rw[h1] at h;simp only at h;split at h
  .cases h
  .rename_i hh;cases h;omega
inductive StA (t:fP)(s:eO)(v:V)(H:Hp):Prop|i a dx(_:v=.ref a)(_:H a=some (.ins t.yW dx [("taps",.int s.taps),("gain",.int s.gain),("kind",.int (Mx.kindOf s)),("scale",.int s.scale)]))
def StA.same (h:StA t s v H)(m:aC H H'):StA t s v H':=by
 obtain⟨a,dx,e,h⟩:=h;exact⟨a,dx,e,m _ _ h⟩
inductive RwA (t:fP)(r:bL)(v:V)(H:Hp):Prop|i a dx sa vs(_:v=.ref a)(_:H a=some (.ins t.uW dx [("fixed",.int r.fixed),("stages",.ref sa)]))(_:H sa=some (.lst vs))(_:Paired (λs v=>StA t s v H) r.stages vs)
def RwA.same {s:bL}(h:RwA t s v H)(m:aC H H'):RwA t s v H':=by
 obtain⟨a,dx,sa,vs,e,h,h2,h3⟩:=h;exact⟨a,dx,sa,vs,e,m _ _ h,m _ _ h2,Paired.lR h3 λ_ _ z=>z.same m⟩
inductive Ww (t:fP)(x:List bL×List Nat)(v:V)(H:Hp):Prop|i a dx ra ja vs(_:v=.ref a)(_:H a=some (.ins t.K9 dx [("row_ways",.ref ra),("joints",.ref ja)]))(_:H ra=some (.lst vs))(_:Paired (λs v=>RwA t s v H) x.1 vs)(_:H ja=some (.lst ((x.2.map λ(j:Nat)=>(j:Int)).map V.int)))
def Ww.same {s:List bL×List Nat}(h:Ww t s v H)(m:aC H H'):Ww t s v H':=by
 obtain⟨a,dx,ra,ja,vs,e,h,h2,h3,h4⟩:=h;exact⟨a,dx,ra,ja,vs,e,m _ _ h,m _ _ h2,Paired.lR h3 λ_ _ z=>z.same m,m _ _ h4⟩
def nu {r:lQ}(wd:Nat)(lo hi:Int)(hw:1<=wd/\wd<=4)(fa:FA t H a dx r bQ ab p)(hE:∀e,jV bQ ab wd lo hi p=.error e->Wn t E [a] H e)
  (hQ:∀x q,jV bQ ab wd lo hi p=.ok (x,q)->∀H',dE [a] H H'->FA t H' a dx r bQ ab q->Q (.int x) H'):aei t [.ref a,.int wd,.int lo,.int hi] H Q E:=
 ⟨(wd,lo,hi),hw,a,dx,r,bQ,ab,p,Z,fa,hE,λx q hx v H' c e hv=>by cases hv;exact hQ x q hx H' c (fa.chg c e)⟩
def KL:T.vG.Ok P w mg rZ (tN P w t.bI) 7 (p8 t [] q_ (StA t)):=by
 refine T.vG.xA λnd H vs Q E hr h=>?_;obtain⟨a,dx,r,bQ,ab,p,rfl,fa,kE,kQ⟩:=h;refine .i (ao (fL 1 nd (qN (pv 0) T.cu T.cU (cZ T) hr aY.passes (ak aJ (ak aJ (ak (fF T.Pg) ax)))))
   (ao (fL 2 nd (qN (pv 0) T.cu T.cU (cZ T) hr aY.passes (ak aJ (ak aJ (ak (fF T.Pe) ax)))))
   (ao (fL 3 nd (qN (pv 0) T.cu T.cU (cZ T) hr aY.passes (ak aJ (ak aJ (ak (qJ (rb LD (pv 1) (fF T.D4)) (fF T.Iw) aJ) ax)))))
   (ao (fL 4 nd (qN (pv 0) T.cu T.cU (cZ T) hr aY.passes (ak aJ (ak aJ (ak (qJ (rb lp (pv 3) (fF T.Iw)) aJ (fF T.MZ)) ax)))))
   (ao (cP (qN (pv 0) T.cu T.jB (pP T) hr aY.passes (ak aJ ax)))
   (aH (bz (JW T.aa9 T.XS T.vz (KD T) hr bG (ak (pv 1) (ak (pv 2) (ak (pv 3) (ak (pv 4) ax)))))))))))) ?_
 refine⟨_,Z,a,_,_,Z,fa.at_,Z,nu 2 1 16 (by decide) fa (λe he=>kE e (BC he)) λx1 q1 JU H1 c1 fa1=>?_⟩;have E1:q_ bQ ab p=_:=Af JU;refine⟨_,Z,a,_,_,Z,fa1.at_,Z,nu 2 1 1024 (by decide) fa1 (λe he=>(kE e (E1.trans (BC he))).mono c1) λx2 q2 Yq H2 c2 fa2=>?_⟩;have E2:=E1.trans (Af Yq);clear E1;have d2:=c1.trans c2;refine⟨_,Z,a,_,_,Z,fa2.at_,Z,_,Z,_,_,Z,Z,_,Z,Yu (nu 1 0 (if x1<=8 then 1 else 0) (by decide) fa2 (λe he=>(kE e (E2.trans (BC he))).mono d2) λx3 q3 hx3 H3 c3 fa3=>?_)⟩;have E3:=E2.trans (Af hx3);clear E2;have d3:=d2.trans c3;refine⟨_,Z,a,_,_,Z,fa3.at_,Z,_,Z,Z,_,Z,?_⟩;have e3:decide (V.int x3=V.int 1)=decide (x3=1):=by by_cases h:x3=1<;>simp[h]
 rw[e3];refine Yu (nu 1 0 (if x3=1 then 0 else 12) (by decide) fa3 (λe he=>(kE e (E3.trans (BC he))).mono d3) λx4 q4 hx4 H4 c4 fa4=>?_);have E4:=E3.trans (Af hx4);clear E3;have d4:=d3.trans c4;refine⟨_,Z,a,_,_,Z,fa4.at_,Z,2,by decide,a,dx,r,bQ,ab,q4,Z,fa4,λe he=>(kE e (E4.trans (BC (noE he)))).mono d4,λx5 q5 hx5 v5 H5 c5 e5 hv5=>?_⟩;have d5:=d4.trans c5;have fa5:=fa4.chg c5 e5;refine⟨_,Z,_,Z,_,Z,_,Z,λx sR n1 n2 n3=>⟨x,sR,[.int x1,.int x2,.int x3,.int x4],Z,Z,aq,Z,?_⟩⟩;rw[eG];obtain⟨m1,m2,m3,m4⟩:=ou (u:=.own x) (u':=.ins t.yW sR (IG ["taps","gain","kind","scale"] [.int x1,.int x2,.int x3,.int x4])) d5 fa5.at_ n1 n2;have r1:=rf JU;have r2:=rf Yq;have r3:=rf hx3;have r4:=rf hx4;have q3:x3=0\/x3=1:=by
  have:x3<=1:=by
   have:=r3.2;split at this<;>lia
  lia
 obtain⟨_,h5⟩:=noO hx5;refine kQ ⟨x1.toNat,x2.toNat,x3==1,x4.toNat⟩ q5 (E4.trans (Af h5)) _ _ m1 m3 ⟨x,sR,Z,m2.trans ?_⟩
 .have k1:Mx.kindOf ⟨x1.toNat,x2.toNat,x3==1,x4.toNat⟩=x3:=by
   rcases q3 with h|h<;>subst h<;>rfl
  simp only[k1];rw[cV (by lia),cV (by lia),cV (by lia)];rfl
def Eh {α:Type}(l:List α):Except Nat (List α×Nat)->Except Nat (List α×Nat)
 |.error e=>.error e
 |.ok (m,q)=>.ok (l++m,q)
def PN {α:Type}{f:Nat->Except Nat (α×Nat)}{l:List α}{k q1:Nat}{x:α}(h:f q=.ok (x,q1)):Eh l (oj f (k+1) q)=Eh (l++[x]) (oj f k q1):=by
 rw[show oj f (k+1) q=_ from Af h];cases oj f k q1 with
 |error e=>rfl
 |ok z=>simp[Eh,Mx.bd]
def R5 {α:Type}{f:Nat->Except Nat (α×Nat)}{l:List α}{k e:Nat}(h:f q=.error e):Eh l (oj f (k+1) q)=.error e:=by
 rw[show oj f (k+1) q=_ from BC h];rfl
def JA {α:Type}{f:bX->Bool->Nat->Except Nat (α×Nat)}{is:α->V->Hp->Prop}(mono:∀x v H H',is x v H->aC H H'->is x v H'){σ:L2.St}{Qd:Hp->Prop}{r:lQ}
  (hz:n<=bu) (fa:FA t H1 a dx r bQ ab p) (hD:H1 D=none) (hte:∀(i:Nat) H Q,(∃q,FA t H a dx r bQ ab q/\(∀e,f bQ ab q=.error e->Wn t E [a] H e)/\∀x q',f bQ ab q=.ok (x,q')->∀v H',dE [a] H H'->H' a=some (UB t dx r ab q')->is x v (nw H H')->Q v H')->g (.int (lo+(i:Nat))) (wipe σ vs) H λmG H2=>wipe mG vs=wipe σ vs/\te mG H2 Q)
  (kE:∀e,oj (f bQ ab) n p=.error e->Wn t E [a] H1 e)
  (kQ:∀l q,oj (f bQ ab) n p=.ok (l,q)->∀vs H',dE [a] H1 H'->H' a=some (UB t dx r ab q)->H' D=some (.lst vs)->Paired (λx v=>is x v (nw H1 H')) l vs->Qd H'):Wj (S1 lo n) g te vs σ H1 D Qd:=by
 have nDa:D≠a:=bZ fa.at_ hD;have nDr:D≠r:=bZ fa.lS hD;refine Ly (λi dM H=>X2 λq l=>C4 (FA t H a dx r bQ ab q) (oj (f bQ ab) n p=Eh l (oj (f bQ ab) (n-i) q)) (Paired (λx v=>is x v (nw (upd H1 D (.lst [])) H)) l dM) (dE [a] H1 H)) n hz ⟨p,[],⟨by rw[aF (eP nDa)];exact fa.at_,by rw[aF (eP nDr)];exact fa.lS,fa.EC⟩,?_,.nil,dE.refl.tw hD⟩ ?_ λi dM H Q hi hl eD ⟨q,l,fa',e,pr,c⟩ k=>?_
 .show _=Eh [] (oj (f bQ ab) n p);cases oj (f bQ ab) n p with
  |error e=>rfl
  |ok z=>rfl
 .rintro dM H hl eD ⟨q,l,fa',e,pr,c⟩;rw[lP] at e;have e:oj (f bQ ab) n p=.ok (l++[],q):=e;rw[fX] at e;exact kQ l q e dM H c fa'.at_ eD (Paired.lR pr λx v z=>mono _ _ _ _ z (qt λb hb=>(bO hb).2))
 .obtain⟨m,hm⟩:∃m,n-i=m+1:=⟨n-i-1,(jH (G6 hi)).symm⟩;rw[hm] at e;refine hte i H Q ⟨q,fa',λer he=>(kE er (e.trans (R5 he))).mono c,λx q' hx v H' c' ea hv=>?_⟩;have eD':=c'.one eD nDa;refine k v H' eD' ⟨q',l++[x],?_,?_,?_,?_⟩
  .have:=fa'.chg c' ea;exact⟨by rw[aF (eP nDa)];exact this.at_,by rw[aF (eP nDr)];exact this.lS,fa.EC⟩
  .rw[Ob,hm,Fx];exact e.trans (PN hx)
  .have hS:aC (nw (upd H1 D (.lst [])) H) (nw (upd H1 D (.lst [])) (upd H' D (.lst (dM++[v])))):=λb o eb=>by
    obtain⟨z1,z2⟩:=aT.mp eb;obtain⟨z3,z4⟩:=bO z1;refine aT.mpr ⟨z1,?_⟩;rw[aF z3];refine c'.one z2 ?_;rintro rfl;rw[fa.at_] at z4;cases z4
   refine(Paired.lR pr λx v z=>mono _ _ _ _ z hS).snoc (mono _ _ _ _ hv λb o eb=>?_);obtain⟨z1,z2⟩:=aT.mp eb;have z3:b≠D:=bZ eD z1;refine aT.mpr ⟨?_,by rw[aF z3];exact z2⟩;rw[aF z3];cases q1:H1 b with
   |none=>rfl
   |some o1=>
    by_cases hb:b=a
    .subst hb;rw[fa'.at_] at z1;cases z1
    .rw[c.one q1 hb] at z1;cases z1
  .exact(c.trans c').tw hD
def Gg:T.sx.Ok P w mg rZ (tN P w t.bI) 8 (p8 t [] Nl (RwA t)):=by
 refine T.sx.xA λnd H vs Q E hr h=>?_;obtain⟨a,dx,r,bQ,ab,p,rfl,fa,kE,kQ⟩:=h;refine .i (ao (fL 1 nd (qN (pv 0) T.cu T.cU (cZ T) hr aY.passes (ak aJ (ak aJ (ak aJ ax)))))
   (ao (fL 2 nd (qN (pv 0) T.cu T.cU (cZ T) hr aY.passes (ak aJ (ak aJ (ak aJ ax)))))
   (aH (bz (JW T.W2 T.Vl T.uf (IU T) hr bG (ak (pv 1) (ak (Y4 (own:=[("i",3)]) aY rfl rfl rfl rfl nd (jx rfl T.iA (ak (pv 2) ax)) (xP (by kernel_rfl)) (λ_ _ _ _ _=>(mv 3 nd)) (λ_ _ _ _ _=>CW) (λ_ _ _ _ _ _ hB=>(ko T.vG (KL T) hr hB.passes (ak (pv 0) ax)))) ax))))))) ?_
 refine⟨_,Z,a,_,_,Z,fa.at_,Z,nu 1 0 3 (by decide) fa (λe he=>kE e (BC he)) λx1 q1 JU H1 c1 fa1=>?_⟩;have E1:Nl bQ ab p=_:=Af JU;refine⟨_,Z,a,_,_,Z,fa1.at_,Z,nu 1 0 2 (by decide) fa1 (λe he=>(kE e (E1.trans (BC he))).mono c1) λx2 q2 Yq H2 c2 fa2=>?_⟩;have E2:=E1.trans (Af Yq);clear E1;have d2:=c1.trans c2;have r1:=rf JU;have r2:=rf Yq;refine⟨_,Z,_,Z,_,Z,by lia,by lia,λD hD=>JA (f:=q_) (is:=StA t) (λx v H H' h s=>h.same s) (by rw[aE];lia) fa2 hD (λi H Q ⟨q,f1,f2,f3⟩=>⟨Z,_,Z,a,dx,r,bQ,ab,q,Z,f1,f2,f3⟩) (λe he=>(kE e (E2.trans (BC he))).mono d2) λl q3 hl vs3 H3 c3 e3 eD pr=>?_⟩;intro x sR n1 n2 n3;refine⟨x,sR,[.int x1,.ref D],Z,Z,aq,Z,?_⟩;rw[eG];have d3:=d2.trans c3;obtain⟨m1,m2,m3,m4⟩:=ou (u:=.own x) (u':=.ins t.uW sR (IG ["fixed","stages"] [.int x1,.ref D])) d3 e3 n1 n2;have fr:∀y,H2 y=none->H y=none:=λy hy=>by
  cases e:H y with
  |none=>rfl
  |some o=>
   by_cases m:y=a
   .subst m;rw[fa2.at_] at hy;cases hy
   .rw[d2.one e m] at hy;cases hy
 refine kQ ⟨x1.toNat,l⟩ q3 (E2.trans (Af hl)) _ _ m1 m3 ⟨x,sR,D,vs3,Z,m2.trans ?_,aT.mpr ⟨fr D hD,m4 _ _ eD⟩,Paired.lR pr λy v z=>z.same ((qt fr).trans (wu m4))⟩;rw[cV (by lia)];rfl
def akA (t:fP):Sp:=λvs H Q E=>∃n:Nat,n<=4/\p8 t [.int n] (YY n) (Ww t) vs H Q E
def isJ (x:Nat)(v:V)(_:Hp):Prop:=v=.int x
theorem paired_ints:∀{l:ie} {vs:b_} {H:Hp},Paired (λx v=>isJ x v H) l vs->vs=(l.map λ(j:Nat)=>(j:Int)).map V.int
 |_,_,_,.nil=>rfl
 |_,_,_,.cons h r=>by
  rw[paired_ints r,h];rfl
def EY:T.vH.Ok P w mg rZ (tN P w t.bI) 9 (akA t):=by
 refine lx.exP λn hn=>?_;refine T.vH.xA λnd H vs Q E hr h=>?_;obtain⟨a,dx,r,bQ,ab,p,rfl,fa,kE,kQ⟩:=h;refine .i (ao (Ej (i:=2) (own:=[("i",4)]) aY rfl rfl rfl rfl nd rfl rfl (NI rfl rfl rfl rfl) (jx rfl T.iA (ak (pv 1) ax)) (xP (by kernel_rfl)) (λ_ _ _ _ _=>(mv 4 nd)) (λ_ _ _ _ _=>CW) (λ_ _ _ _ _ _ hB=>(ko T.sx (Gg T) hr hB.passes (ak (pv 0) ax))))
   (ao (Ej (i:=3) (own:=[("i",4)]) aY rfl rfl rfl rfl nd rfl rfl (NI rfl rfl rfl rfl) (jx rfl T.iA (ak (aX jJ (pv 1) aJ) ax)) (xP (by kernel_rfl)) (λ_ _ _ _ _=>(mv 4 nd)) (λ_ _ _ _ _=>CW) (λ_ _ _ _ _ _ hB=>(qN (pv 0) T.cu T.cU (cZ T) hr hB.passes (ak aJ (ak aJ (ak aJ ax))))))
   (aH (bz (JW T.aia T.afg T.AH (PB T) hr bG (ak (pv 2) (ak (pv 3) ax))))))) ?_
 refine⟨_,Z,_,Z,by lia,by lia,λD hD=>JA (f:=Nl) (is:=RwA t) (λx v H H' h s=>h.same s) (by rw[aE];lia) fa hD (λi H Q ⟨q,f1,f2,f3⟩=>⟨Z,_,Z,a,dx,r,bQ,ab,q,Z,f1,f2,f3⟩) (λe he=>kE e (BC he)) λl q1 hl vs1 H1 c1 e1 eD pr=>?_⟩;have fa1:=fa.chg c1 e1;have E1:YY n bQ ab p=_:=Af hl;have hnD:D≠a:=bZ fa.at_ hD;refine⟨_,Z,_,_,Z,Z,⟨by decide,by decide⟩,_,Z,by lia,by lia,λD2 hD2=>JA (f:=Mx.pJ) (is:=isJ) (λx v H H' h s=>h) (by rw[aE];lia) fa1 hD2 (λi H Q ⟨q,f1,f2,f3⟩=>⟨Z,_,Z,a,_,_,Z,f1.at_,Z,nu 1 0 3 (by decide) f1 (λe he=>f2 e (BC he)) λx q' hx H' c' f'=>f3 x.toNat q' (Af hx) _ _ c' f'.at_ ?_⟩) (λe he=>(kE e ?_).mono c1) λl2 q2 RH vs2 H2 c2 e2 eD2 pr2=>?_⟩
 .show V.int x=V.int (x.toNat:Int);rw[cV (rf hx).1]
 .rw[show((n:Int) / 2).toNat=n / 2 by lia] at he;exact E1.trans (BC he)
 have d2:=c1.trans c2;rw[show((n:Int) / 2).toNat=n / 2 by lia] at RH;refine⟨_,Z,_,Z,λx sR n1 n2 n3=>⟨x,sR,[.ref D,.ref D2],Z,Z,aq,Z,?_⟩⟩;rw[eG];obtain⟨m1,m2,m3,m4⟩:=ou (u:=.own x) (u':=.ins t.K9 sR (IG ["row_ways","joints"] [.ref D,.ref D2])) d2 e2 n1 n2;have fr:∀y,H1 y=none->H y=none:=λy hy=>by
  cases e:H y with
  |none=>rfl
  |some o=>
   by_cases m:y=a
   .subst m;rw[e1] at hy;cases hy
   .rw[c1.one e m] at hy;cases hy
 have s2:aC (nw H H1) (nw H H2):=T8 c2 (by intro b hb;rw[show b=a from by simpa using hb,fa.at_];rfl);refine kQ (l,l2) q2 (E1.trans (Af RH)) _ _ m1 m3 ⟨x,sR,D,D2,vs1,Z,m2,aT.mpr ⟨hD,m4 _ _ (c2.one eD hnD)⟩,Paired.lR pr λy v z=>z.same (s2.trans (wu m4)),aT.mpr ⟨fr D2 hD2,m4 _ _ ?_⟩⟩;rw[eD2,paired_ints pr2]
theorem iR {α β:Type}{F:α->β->Prop}:∀{l:List α} {m:List β} {i:Nat} {v:β},Paired F l m->m[i]? =some v->∃x,l[i]? =some x/\F x v
 |_,_,_,_,.nil,e=>by simp at e
 |_,_,0,_,.cons h _,e=>by simp at e;subst e;exact⟨_,Z,h⟩
 |_,_,i+1,v,.cons _ r,e=>by
  obtain⟨x,h1,h2⟩:=iR (i:=i) (v:=v) r (by simpa using e);exact⟨x,by simpa using h1,h2⟩
theorem zh {α β:Type}{F:α->β->Prop}:∀{l:List α} {m:List β} {i:Nat} {x:α},Paired F l m->l[i]? =some x->∃v,m[i]? =some v/\F x v
 |_,_,_,_,.nil,e=>by simp at e
 |_,_,0,_,.cons h _,e=>by simp at e;subst e;exact⟨_,Z,h⟩
 |_,_,i+1,v,.cons _ r,e=>by
  obtain⟨x,h1,h2⟩:=zh (i:=i) (x:=v) r (by simpa using e);exact⟨x,by simpa using h1,h2⟩
theorem dR {α β:Type}{F:α->β->Prop}:∀{l:List α} {m:List β},Paired F l m->l.length=m.length
 |_,_,.nil=>rfl
 |_,_,.cons _ r=>by simp[dR r]
def LS (h:H a=some (.lst xs)):tyV K "list" (.ref a) H:=.inl ⟨Z,_,i2 h⟩
def NL (H:Hp)(Q:VK)(l:bX):Prop:=∀H' p,aC H H'->H' p=some (.lst (l.map V.int))->H p=none->Q (.ref p) H'
inductive Zs (t:fP)(QD:eO->bX)(vs:b_)(H:Hp)(Q:VK)(E:XK):Prop|i s v(_:vs=[v])(_:StA t s v H)(_:NL H Q (QD s))
def qK (s:eO):bX:=zc s.taps 2++zc s.gain 2++[Mx.kindOf s,s.scale,0,0]
def ji (n:Int)(w:Nat):(zc n w).length=w:=by simp[zc]
def KI:T.oS.Ok P w mg rZ jf 1 (Zs t mQ):=by
 refine T.oS.ok λnd H vs Q E hr h=>?_;obtain⟨s,v,rfl,⟨a,dx,rfl,ha⟩,k⟩:=h;refine .i (aH (bz (eE (ak (cO (pv 0)) (ak (cO (pv 0)) (ak (cO (pv 0)) (ak (cO (pv 0)) ax))))))) ?_;refine⟨_,Z,Z,ha,T.iq,Z,Z,_,Z,Z,ha,T.iq,Z,Z,_,Z,Z,ha,T.iq,Z,Z,_,Z,Z,ha,T.iq,Z,Z,by rw[aE];simp,λp hp=>?_⟩;exact k _ p (aC.upd hp) aq hp
def Ja:T.ng.Ok P w mg rZ jf 2 (Zs t qK):=by
 refine T.ng.ok λnd H vs Q E hr h=>?_;obtain⟨s,v,rfl,⟨a,dx,rfl,ha⟩,k⟩:=h;refine .i (aH (bz (aX mP (aX mP (ko T.jD (kO T) hr bG (ak (cO (pv 0)) (ak aJ ax))) (ko T.jD (kO T) hr bG (ak (cO (pv 0)) (ak aJ ax)))) (eE (ak (cO (pv 0)) (ak (cO (pv 0)) (ak aJ (ak aJ ax)))))))) ?_;refine⟨_,Z,Z,ha,T.iq,Z,Z,(s.taps:Int),2,Z,by lia,by decide,λH1 p1 s1 e1 n1=>?_⟩;refine⟨_,Z,Z,s1 _ _ ha,T.iq,Z,Z,(s.gain:Int),2,Z,by lia,by decide,λH2 p2 s2 e2 n2=>?_⟩;have s12:=s1.trans s2;refine⟨p1,p2,_,_,Z,Z,s2 _ _ e1,e2,by rw[aE];simp[ji],λp3 n3=>?_⟩;have s3:=s12.trans (aC.upd (o:=.lst ((zc s.taps 2).map V.int++(zc s.gain 2).map V.int)) n3);refine⟨_,Z,Z,s3 _ _ ha,T.iq,Z,Z,_,Z,Z,s3 _ _ ha,T.iq,Z,Z,by rw[aE];simp,λp4 n4=>?_⟩;have h43:p3≠p4:=aI aq n4;refine⟨p3,p4,_,_,Z,Z,by rw[aF h43,aq],aq,by rw[aE];simp[ji],λp5 n5=>?_⟩;have n4':=(bO n4).2;have s5:aC H (upd (upd (upd H2 p3 (.lst ((zc s.taps 2).map V.int++(zc s.gain 2).map V.int))) p4 (.lst [.int (Mx.kindOf s),.int s.scale,.int 0,.int 0])) p5 (.lst ((zc s.taps 2).map V.int++(zc s.gain 2).map V.int++[.int (Mx.kindOf s),.int s.scale,.int 0,.int 0]))):=(s3.trans (aC.upd n4)).trans (aC.upd n5);refine k _ p5 s5 ?_ ?_
 .rw[aq];simp[qK]
 .exact(s3.trans (aC.upd n4)).free n5
def lx.deep {sp:Sp}{CX:NR}{k k':Nat}{f:lQ}{ps:mX}(h:lx P w K mg rZ CX k f fd ps sp)(hk:k<=k'):lx P w K mg rZ CX k' f fd ps sp:=
 ⟨h.len,λA outer s H args us vs Q E hr he hb hv z=>h.run A outer s H args us vs Q E (hr.mono hk) he hb hv z⟩
def LN (QD:eO->bX)(r:bL):bX:=(r.fixed:Int)::(r.stages.length:Int)::r.stages.flatMap QD
def t8 (QD:eO->bX)(x:List bL×List Nat):bX:=x.1.flatMap (LN QD)++x.2.map λ(j:Nat)=>(j:Int)
def yY {α:Type}{f:α->bX}{l:List α}{x:α}(h:l[i]? =some x):(l.take (i+1)).flatMap f=(l.take i).flatMap f++f x:=by
 rw[Mx.take_snoc h,kK];simp
def abg (x:List bL×List Nat):Prop:=x.1.length<=4/\(∀r∈x.1,r.stages.length<=2)/\x.2.length<=2
def CS (T:Txt K mg t){f:lQ}{QD:eO->bX}(abL:∀s,(QD s).length<=8)(F:lx P w K mg rZ jf 2 f fd ["stage"] (Zs t QD))(hk:il K (.ref f)=true)(hb:Binds K fd ["stage"] []):
  T.sD.Ok P w mg rZ jf 3 (λvs H Q _=>∃x v,vs=[v,.ref f]/\Ww t x v H/\abg x/\NL H Q (t8 QD x)):=by
 refine T.sD.ok λnd H vs Q E hr h=>?_;obtain⟨⟨rows,js⟩,v,rfl,⟨a,dx,ra,ja,kT,rfl,ha,qm,pr,Qz⟩,⟨z1,z2,z3⟩,k⟩:=h;refine .i (ao (fL 2 nd (eE ax))
   (ao (gX PassesOwn.never rfl (fB (cO (pv 0))) (mv 3 nd)
    (ao (cP (pap (pv 2) (ak (cO (pv 3)) ax)))
   (ao (cP (pap (pv 2) (ak (Bn T.i_ (ak (cO (pv 3)) ax)) ax)))
   (aH (gX PassesOwn.never rfl (fB (cO (pv 3))) (mv 4 nd)
    (aH (cP (Ax df dC dD mE (pv 2) (ak (PR (pv 1) F (hr.mono (by decide)) hk hb .nil bG (ak (pv 4) ax)) ax)))))))))
   (aH (bz (aX mP (pv 2) (Jj (pv 0) rfl)))))) ?_
 refine⟨by rw[aE];simp,λL hL=>?_⟩;have haL:a≠L:=aI ha hL;refine⟨_,Z,Z,by rw[aF haL];exact ha,T.xC,Z,Z,ra,Z,⟨kT,i2 (by rw[aF (aI qm hL)];exact qm)⟩,?_⟩;refine qD (xs:=kT) (λi σ H'=>X2 λy1 y2=>C3 (σ=[some (.ref a),some (.ref f),some (.ref L),y1,y2]) (aC H H') (∃l:bX,l=(rows.take i).flatMap (LN QD)/\l.length<=18*i/\H' L=some (.lst (l.map V.int)))) ⟨none,none,Z,aC.upd hL,[],Z,by simp,aq⟩ (λi σ H' hi ⟨_,_,_,sm,_⟩=>i2 (sm _ _ qm)) ?_ ?_
 .rintro i x σ H' hx ⟨y1,y2,rfl,sm,l,el,hl,eL⟩;obtain⟨lS,WH,⟨b,db,sa,qO,rfl,MR,BE,ps⟩⟩:=iR pr hx;have hi4:i<4:=by have:=(aN.mp WH).1;lia
  have nbL:b≠L:=aI MR hL;have nsL:sa≠L:=aI BE hL;refine⟨_,Z,LS eL,_,Z,Z,sm _ _ MR,T.oK,Z,Z,L,_,_,Z,Z,eL,by rw[aE];simp;lia,?_⟩;refine⟨_,Z,LS aq,_,Z,Z,by rw[aF nbL];exact sm _ _ MR,T.oK,Z,Z,sa,_,Z,i3 (by rw[aF nsL];exact sm _ _ BE),L,_,_,Z,Z,aq,by rw[aE];simp;lia,?_⟩;have uz:lS.stages.length=qO.length:=dR ps;have h2:lS.stages.length<=2:=z2 lS (az WH);refine⟨_,Z,Z,by rw[aF nbL,aF nbL];exact sm _ _ MR,T.oK,Z,Z,sa,Z,⟨qO,i2 (by rw[aF nsL,aF nsL];exact sm _ _ BE)⟩,?_⟩;refine qD (xs:=qO) (λj σ H2=>∃y3,C3 (σ=[some (.ref a),some (.ref f),some (.ref L),some (.ref b),y3]) (aC H H2) (∃m:bX,m=l++(lS.fixed:Int)::(lS.stages.length:Int)::(lS.stages.take j).flatMap QD/\m.length<=18*i+2+8*j/\H2 L=some (.lst (m.map V.int)))) ⟨y2,Z,?_,l++[(lS.fixed:Int),(lS.stages.length:Int)],by simp,by simp;lia,by rw[aq];simp[uz]⟩ (λj σ H2 hj ⟨_,_,pK,_⟩=>i2 (pK _ _ BE)) ?_ ?_
  .intro c o e;rw[aF (aI e hL),aF (aI e hL)];exact sm _ _ e
  .rintro j x σ H2 Yq ⟨y3,rfl,pK,m,em,hm,eL2⟩;obtain⟨st,ajp,sA⟩:=iR ps Yq;have hj2:j<2:=by have:=(aN.mp ajp).1;lia
   refine⟨_,Z,LS eL2,_,Z,Z,_,Z,st,_,Z,sA.same pK,λH3 p3 s3 e3 n3=>?_⟩;have n3L:L≠p3:=aI eL2 n3;refine⟨L,p3,_,_,Z,Z,s3 _ _ eL2,e3,by have:=abL st;rw[aE];simp;lia,?_⟩;refine⟨some x,Z,λc o e=>by rw[aF (aI e hL)];exact s3 _ _ (pK _ _ e),m++QD st,?_,?_,?_⟩
   .rw[em,yY ajp];simp
   .have:=abL st;simp;lia
   .rw[aq];simp
  .rintro σ H2 ⟨y3,rfl,pK,m,em,hm,eL2⟩;have e2:lS.stages.take qO.length=lS.stages:=cq (by lia);rw[e2] at em;refine⟨_,_,Z,pK,m,?_,by lia,eL2⟩;rw[em,el,yY WH];rfl
 .rintro σ H' ⟨y1,y2,rfl,sm,l,el,hl,eL⟩;have e2:rows.take kT.length=rows:=cq (by have:=dR pr;simp at this;lia);rw[e2] at el;have hl4:kT.length<=4:=by have:=dR pr;simp at this z1;lia
  refine⟨_,Z,_,Z,Z,sm _ _ ha,T.xC,Z,Z,L,ja,_,_,Z,Z,eL,sm _ _ Qz,by rw[aE];simp at z3|-;lia,λp hp=>?_⟩;refine k _ p (sm.trans (aC.upd hp)) ?_ (sm.free hp);rw[aq,t8,el];simp
def ajH (b:Bool):eO->bX:=if b=true then qK else mQ
def agu (t:fP):Sp:=λvs H Q _=>∃b:Bool,True/\∃x v,vs=[v,.ref (if b=true then t.uy else t.v9)]/\Ww t x v H/\abg x/\NL H Q (t8 (ajH b) x)
def EZ:T.sD.Ok P w mg rZ jf 3 (agu t):=by
 refine lx.exP λb _=>?_;cases b with
 |true=>exact CS (QD:=qK) T (λs=>by simp[qK,ji]) (Ja T) T.ng.F.kp T.ng.b
 |false=>exact CS (QD:=mQ) T (λs=>by simp[mQ]) (lx.deep (KI T) (by decide)) T.oS.F.kp T.oS.b
inductive ZE (t:fP)(QD:eO->bX)(vs:b_)(H:Hp)(Q:VK)(E:XK):Prop|i x v(_:vs=[v])(_:Ww t x v H)(_:abg x)(_:NL H Q (t8 QD x))
def E_:T.vI.Ok P w mg rZ jf 4 (ZE t mQ):=by
 refine T.vI.ok λnd H vs Q E hr h=>?_;obtain⟨x,v,rfl,h1,h2,k⟩:=h;refine .i (aH (bz (ko T.sD (EZ T) hr bG (ak (pv 0) (ak (tZ (v:=V.ref t.v9) rfl T.oS.g rfl) ax))))) ?_;exact⟨_,Z,false,trivial,x,v,Z,h1,h2,k⟩
def Nj:T.xH.Ok P w mg rZ jf 4 (ZE t qK):=by
 refine T.xH.ok λnd H vs Q E hr h=>?_;obtain⟨x,v,rfl,h1,h2,k⟩:=h;refine .i (aH (bz (ko T.sD (EZ T) hr bG (ak (pv 0) (ak (tZ (v:=V.ref t.uy) rfl T.ng.g rfl) ax))))) ?_;exact⟨_,Z,true,trivial,x,v,Z,h1,h2,k⟩
def Xv (xs:b_)(k:Nat):qY xs none (some (k:Int))=xs.take k:=by
 unfold qY;rw[HT.Jt,HT.zp,iD,uq];by_cases h:k<=xs.length
 .rw[f9 h]
 .rw[k_ (by lia),gk,cq (by lia)]
def Xt (xs:b_)(k:Nat):qY xs (some (k:Int)) none=xs.drop k:=by
 unfold qY;rw[HT.Jt,HT.zp];by_cases h:k<=xs.length
 .rw[f9 h,cq (by simp)]
 .rw[k_ (by lia),gJ (bq _),gJ (by lia)];simp
def abr (xs:b_)(k j:Nat)(hk:k<=xs.length)(hj:j<=xs.length):qY xs (some (k:Int)) (some (j:Int))=(xs.drop k).take (j-k):=by
 unfold qY;rw[HT.zp,HT.zp,f9 hk,f9 hj]
def bx (a b:Nat):Builtin.bitXor (a:Int) (b:Int)=((fE a b:Nat):Int):=by
 rw[Bits.U1 (by lia) (by lia)];rfl
inductive acz (K:au)(vs:b_)(H:Hp)(Q:VK)(E:XK):Prop|i(a:lQ)(l:ie)(_:vs=[.ref a])(_:nM K H a ((l.map λ(b:Nat)=>(b:Int)).map V.int))(_:∀b∈l,b<256)(_:Q (.int (pN l)) H)
def J_ (n c:Nat):ig (n+1) c=Mx.crcStep (ig n c):=Ag n c
def EV:T.vA.Ok P w mg rZ jf 1 (acz K):=by
 refine T.vA.ok λnd H vs Q E hr h=>?_;obtain⟨a,l,rfl,hl,hb,k⟩:=h;refine .i (ao (fL 1 nd (fF T.Iv))
   (ao (gX PassesOwn.never rfl (fB (pv 0)) (mv 2 nd)
    (ao (fL 1 nd (aX R3 (pv 1) (pv 2)))
   (aH (gX PassesOwn.never rfl (jx rfl T.iA (ak aJ ax)) (mv 3 nd)
    (aH (fL 1 nd (aX R3 (aX sY (pv 1) aJ) (qJ (Za (aX YV (pv 1) aJ) (λ_=>rfl)) (fF T.M1) aJ))))))))
   (aH (bz (aX R3 (pv 1) (fF T.Iv)))))) ?_
 refine⟨_,Z,a,Z,⟨_,hl⟩,qD (xs:=(l.map λ(b:Nat)=>(b:Int)).map V.int) (λi σ H'=>H'=H/\∃y1 y2,σ=[some (.ref a),some (.int (((l.take i).foldl (λc b=>ig 8 (fE c b)) 4294967295:Nat):Int)),y1,y2]) ⟨Z,none,none,Z⟩ (λi σ H' _ ⟨e,_⟩=>by rw[e];exact hl) ?_ ?_⟩
 .rintro i x σ H' hx ⟨e,y1,y2,eσ⟩;subst e eσ;rw[aw,aw] at hx;cases BE:l[i]? with
  |none=>rw[BE] at hx;cases hx
  |some b=>
   rw[BE] at hx;cases hx;refine⟨_,Z,_,Z,_,_,Z,Z,?_⟩;refine⟨_,Z,by decide,by decide,?_⟩;refine r_ (λj σ H2=>H2=_/\∃y2,σ=[some (.ref a),some (.int ((ig j (fE ((l.take i).foldl (λc b=>ig 8 (fE c b)) 4294967295) b):Nat):Int)),some (.int b),y2]) ⟨Z,y2,congrArg (λz=>[some (V.ref a),some (V.int z),some (V.int b),y2]) (bx _ _)⟩ ?_ ?_
   .rintro j σ H2 hj ⟨e,y3,eσ⟩;subst e eσ;obtain⟨c,hc⟩:∃c,c=ig j (fE ((l.take i).foldl (λc b=>ig 8 (fE c b)) 4294967295) b):=⟨_,Z⟩;rw[J_,<-hc];have e1:Builtin.bitAnd (c:Int) 1=((c%2:Nat):Int):=by
     have:=Bits.EB (x:=(c:Int)) 1 (by lia);exact this
    have e2:((Builtin.bitAnd (c:Int) 1)!=0)=decide (c%2=1):=by
     rw[e1];rcases gN c with h|h<;>rw[h]<;>rfl
    refine⟨_,Z,_,_,Z,Z,(by show(0:Int)<=1;decide),_,Z,_,_,Z,Z,decide (c%2=1),e2.symm,Yu ⟨_,_,Z,Z,Z,some (.int (0+(j:Int))),?_⟩⟩;have e3:Builtin.bitXor ((c:Int) / 2^(1:Int).toNat) (if c%2=1 then 2197175160 else 0)=((Mx.crcStep c:Nat):Int):=by
     have:=bx (c / 2) (if c%2=1 then abb else 0);unfold Mx.crcStep;rw[<-this];congr 1;split<;>rfl
    exact congrArg (λz=>[some (V.ref a),some (V.int z),some (V.int b),some (V.int (0+(j:Int)))]) e3
   .rintro σ H2 ⟨e,y3,eσ⟩;subst e eσ;refine⟨Z,some (.int b),y3,?_⟩;rw[Mx.take_snoc BE,dB];rfl
 .rintro σ H' ⟨e,y1,y2,eσ⟩;subst e eσ;refine⟨_,Z,_,_,Z,Z,?_⟩;have e1:((l.map λ(b:Nat)=>(b:Int)).map V.int).length=l.length:=by simp
  have e2:=bx (l.foldl (λc b=>ig 8 (fE c b)) 4294967295) 4294967295;rw[e1,gk];unfold pN at k;rw[<-e2] at k;exact k
def Ow (bQ:bX)(c:Int):bX:=bQ.take 12++zc c 4++bQ.drop 16
inductive agE (vs:b_)(H:Hp)(Q:VK)(E:XK):Prop|i(a:lQ)(bQ:bX)(c:Int)(_:vs=[.ref a,.int c])(_:H a=some (.lst (bQ.map V.int)))(_:0<=c)(_:bQ.length<=1000000)(_:NL H Q (Ow bQ c))
def Av:T.rO.Ok P w mg rZ jf 2 agE:=by
 refine T.rO.ok λnd H vs Q E hr h=>?_;obtain⟨a,bQ,c,rfl,ha,hc,hz,k⟩:=h;refine .i (aH (bz (aX mP (aX mP (psl (pv 0) GQ (qu (fF T.uA))) (ko T.jD (kO T) hr bG (ak (pv 1) (ak (fF T.qp) ax)))) (psl (pv 0) (qu (aX dz (fF T.uA) (fF T.qp))) GQ)))) ?_;refine⟨_,Z,_,Z,a,_,Z,i2 ha,λp1 n1=>?_⟩;have s1:aC H (upd H p1 (.lst (qY (bQ.map V.int) none (some 12)))):=aC.upd n1;refine⟨_,Z,c,4,Z,hc,by decide,λH2 p2 s2 e2 n2=>?_⟩;have s12:=s1.trans s2;have e1:H2 p1=some (.lst ((bQ.take 12).map V.int)):=by
  rw[s2 _ _ aq,show(12:Int)=((12:Nat):Int) from rfl,Xv,kg]
 refine⟨p1,p2,_,_,Z,Z,e1,e2,by rw[aE];simp[ji];exact bt (fu 12 _) (by decide),λp3 n3=>?_⟩;have s3:=s12.trans (aC.upd (o:=.lst ((bQ.take 12).map V.int++(zc c 4).map V.int)) n3);refine⟨_,Z,_,_,Z,Z,_,Z,a,_,Z,i2 (s3 _ _ ha),λp4 n4=>?_⟩;have h34:p3≠p4:=aI aq n4;have e4:qY (bQ.map V.int) (some (12+4)) none=(bQ.drop 16).map V.int:=by
  rw[show(12+4:Int)=((16:Nat):Int) from rfl,Xt,lY]
 rw[e4];refine⟨p3,p4,_,_,Z,Z,by rw[aF h34,aq],aq,by rw[aE];simp[ji];exact bt (N_ (BR (fu 12 _) 4) (bt (lO ..) hz)) (by decide),λp5 n5=>?_⟩;have s4:=s3.trans (aC.upd (o:=.lst ((bQ.drop 16).map V.int)) n4);refine k _ p5 (s4.trans (aC.upd n5)) ?_ (s4.free n5);rw[aq,Ow];simp
abbrev nI (l:ie):bX:=l.map λ(b:Nat)=>(b:Int)
inductive ZD (vs:b_)(H:Hp)(Q:VK)(E:XK):Prop|i(a:lQ)(l:ie)(_:vs=[.ref a])(_:H a=some (.lst ((nI l).map V.int)))(_:∀b∈l,b<256)(_:l.length<=1000000)(_:NL H Q (Ow (nI l) (pN l)))
def VE:T.GX.Ok P w mg rZ jf 3 ZD:=by
 refine T.GX.ok λnd H vs Q E hr h=>?_;obtain⟨a,l,rfl,ha,hb,hz,k⟩:=h;refine .i (aH (bz (ko T.rO (Av T) hr bG (ak (pv 0) (ak (ko T.vA (EV T) hr bG (ak (pv 0) ax)) ax))))) ?_;exact⟨_,Z,_,Z,a,l,Z,i2 ha,hb,a,nI l,_,Z,ha,by lia,by simpa using hz,k⟩
inductive HdA (t:fP)(h:rB)(v:V)(H:Hp):Prop|i a dx wv(_:v=.ref a)(_:H a=some (.ins t.uv dx [("key",.int h.key),("rows",.int h.rows),("bits",.int h.bits),("cut",.int h.cut),("lanes",.int h.lanes),("times",.int h.times),("check",.int h.check),("way",wv),("end",.int h.fin)]))(_:match h.way with|none=>wv=.gQ|some x=>Ww t x wv H)
theorem HdA.same {h:rB}(a:HdA t h v H)(m:aC H H'):HdA t h v H':=by
 obtain⟨a,dx,wv,e,h1,h2⟩:=a;refine⟨a,dx,wv,e,m _ _ h1,?_⟩;cases hw:h.way with
 |none=>rw[hw] at h2;exact h2
 |some x=>rw[hw] at h2;exact Ww.same h2 m
inductive agq (t:fP)(vs:b_)(H:Hp)(Q:VK)(E:XK):Prop|i a dx r bQ(_:vs=[.ref a])(_:FA t H a dx r bQ true 0)(_:∀e,wW bQ=.error e->Wn t E [a] H e)(_:∀h,wW bQ=.ok h->∀v H',dE [a] H H'->HdA t h v (nw H H')->Q v H')
def Ni:T.xG.Ok P w mg rZ (tN P w t.bI) 10 (agq t):=by
 refine T.xG.xA λnd H vs Q E hr h=>?_;obtain⟨a,dx,r,bQ,rfl,fa,kE,kQ⟩:=h;refine .i (ao (cP (qN (pv 0) T.cu T.cU (cZ T) hr aY.passes (ak aJ (ak (fF T.wk) (ak (fF T.wk) ax)))))
   (ao (cP (qN (pv 0) T.cu T.cU (cZ T) hr aY.passes (ak aJ (ak (fF T.uB) (ak (fF T.uB) ax)))))
   (ao (fL 1 nd (ko T.vF (EX T) hr aY.passes (ak (pv 0) ax)))
   (ao (fL 2 nd (ko T.tS (CQ T) hr aY.passes (ak (pv 0) ax)))
   (ao (fL 3 nd (ko T.tR (CP T) hr aY.passes (ak (pv 0) ax)))
   (ao (fL 4 nd (ko T.vE (EW T) hr aY.passes (ak (pv 0) (ak (pv 3) ax))))
   (ao (fL 5 nd (ko T.rN (Au T) hr aY.passes (ak (pv 0) ax)))
   (ao (cP (qN (pv 0) T.cu T.jB (pP T) hr aY.passes (ak aJ ax)))
   (ao (fL 6 nd (qN (pv 0) T.cu T.cU (cZ T) hr aY.passes (ak aJ (ak aJ (ak (fF T.CA) ax)))))
   (ao (fL 7 nd (JW T.aeK T.abB T.xD (Nb T) hr bG (ak (pv 1) (ak (pv 2) (ak (pv 3) (ak (pv 4) (ak (pv 5) (ak (pv 6) ax))))))))
   (ao (kh (pv 7) (qN (pv 0) T.cu T.ir (oh T) hr aY.passes (ak (fF T.qp) ax)))
   (ao (gj (rb lp (pv 1) aJ) (aH (kh (pv 7) (ko T.vH (EY T) hr aY.passes (ak (pv 0) (ak (pv 2) ax))))) cQ)
   (ao (kh (pv 7) (cO (pv 0)))
   (aH (bz (pv 7)))))))))))))))) ?_
 refine⟨_,Z,a,_,_,Z,fa.at_,Z,nu 1 76 76 (by decide) fa (λe he=>kE e (BC he)) λx1 q1 JU H1 c1 fa1=>?_⟩;have E1:wW bQ=_:=Af JU;refine⟨_,Z,a,_,_,Z,fa1.at_,Z,nu 1 83 83 (by decide) fa1 (λe he=>(kE e (E1.trans (BC he))).mono c1) λx2 q2 Yq H2 c2 fa2=>?_⟩;have E2:=E1.trans (Af Yq);clear E1;have d2:=c1.trans c2;refine⟨_,Z,a,dx,r,bQ,true,q2,Z,fa2,λe he=>(kE e (E2.trans (BC he))).mono d2,λx3 q3 hx3 v3 H3 c3 e3 hv3=>?_⟩;cases hv3;have fa3:=fa2.chg c3 e3;have E3:=E2.trans (Af hx3);clear E2;have d3:=d2.trans c3;refine⟨_,Z,a,dx,r,bQ,true,q3,Z,fa3,λe he=>(kE e (E3.trans (BC he))).mono d3,λx4 q4 hx4 v4 H4 c4 e4 hv4=>?_⟩;cases hv4;have fa4:=fa3.chg c4 e4;have E4:=E3.trans (Af hx4);clear E3;have d4:=d3.trans c4;refine⟨_,Z,a,dx,r,bQ,true,q4,Z,fa4,λe he=>(kE e (E4.trans (BC he))).mono d4,λx5 q5 hx5 v5 H5 c5 e5 hv5=>?_⟩;cases hv5;have fa5:=fa4.chg c5 e5;have E5:=E4.trans (Af hx5);clear E4;have d5:=d4.trans c5;refine⟨_,Z,_,Z,x5,trivial,a,dx,r,bQ,true,q5,Z,fa5,λe he=>(kE e (E5.trans (BC he))).mono d5,λx6 q6 hx6 v6 H6 c6 e6 hv6=>?_⟩;cases hv6;have fa6:=fa5.chg c6 e6;have E6:=E5.trans (Af hx6);clear E5;have d6:=d5.trans c6;refine⟨_,Z,a,dx,r,bQ,true,q6,Z,fa6,λe he=>(kE e (E6.trans (BC he))).mono d6,λx7 q7 hx7 v7 H7 c7 e7 hv7=>?_⟩;cases hv7;have fa7:=fa6.chg c7 e7;have E7:=E6.trans (Af hx7);clear E6;have d7:=d6.trans c7;refine⟨_,Z,a,_,_,Z,fa7.at_,Z,1,by decide,a,dx,r,bQ,true,q7,Z,fa7,λe he=>(kE e (E7.trans (BC (noE he)))).mono d7,λx8 q8 hx8 v8 H8 c8 e8 hv8=>?_⟩;have fa8:=fa7.chg c8 e8;have d8:=d7.trans c8;obtain⟨_,h5⟩:=noO hx8;have E8:=E7.trans (Af h5);clear E7 h5;refine⟨_,Z,a,_,_,Z,fa8.at_,Z,nu 4 1 64 (by decide) fa8 (λe he=>(kE e (E8.trans (BC he))).mono d8) λx9 q9 hx9 H9 c9 fa9=>?_⟩;have E9:=E8.trans (Af hx9);clear E8;have d9:=d8.trans c9;refine⟨_,Z,_,Z,_,Z,_,Z,_,Z,_,Z,λx sR n1 n2 n3=>⟨x,sR,[.int x3,.int x4,.int x5,.int x6,.int x7,.int x9],Z,Z,aq,Z,?_⟩⟩;rw[eG];have nHx:H x=none:=by
  cases e:H x with
  |none=>rfl
  |some o=>
   by_cases m:x=a
   .subst m;rw[fa9.at_] at n1;cases n1
   .rw[d9.one e m] at n1;cases n1
 obtain⟨m1,m2,m3,m4⟩:=ou (u:=.own x) (u':=.ins t.uv sR (IG ["key","rows","bits","cut","lanes","times","check","way","end"] ([.int x3,.int x4,.int x5,.int x6,.int x7,.int x9]++[.int 0,.gQ,.int 0]))) d9 fa9.at_ n1 n2;have nxa:x≠a:=bZ fa9.at_ n1;have nxr:x≠r:=bZ fa9.lS n1;have afa:FA t (upd (upd H9 sR (.own x)) x (.ins t.uv sR (IG ["key","rows","bits","cut","lanes","times","check","way","end"] ([.int x3,.int x4,.int x5,.int x6,.int x7,.int x9]++[.int 0,.gQ,.int 0])))) a dx r bQ true q9:=⟨m3,m4 _ _ fa9.lS,fa.EC⟩;refine⟨_,Z,a,_,_,Z,afa.at_,Z,4,by decide,a,dx,r,bQ,true,q9,Z,afa,λe he=>(kE e (E9.trans (BC he))).mono m1,λxa qa hxa va Ha ca ea hva=>?_⟩;cases hva;have E0:=E9.trans (Af hxa);clear E9;have faa:=afa.chg ca ea;have aoG:=ca.one (aq (H:=upd H9 sR (.own x)) (a:=x)) nxa;refine⟨_,Z,Z,aoG,T.dS,Z,Z,tH (IG ["key","rows","bits","cut","lanes","times","check","way","end"] ([V.int x3,.int x4,.int x5,.int x6,.int x7,.int x9]++[V.int xa,.gQ,.int 0])),?_⟩;have db:=(m1.trans ca).tw (a:=x) (o:=.ins t.uv sR (IG ["key","rows","bits","cut","lanes","times","check","way","end"] ([.int x3,.int x4,.int x5,.int x6,.int x7,.int x9]++[V.int xa,.gQ,.int 0]))) nHx;have fab:FA t (upd Ha x (.ins t.uv sR (IG ["key","rows","bits","cut","lanes","times","check","way","end"] ([.int x3,.int x4,.int x5,.int x6,.int x7,.int x9]++[V.int xa,.gQ,.int 0])))) a dx r bQ true qa:=⟨by rw[aF (eP nxa)];exact faa.at_,by rw[aF (eP nxr)];exact faa.lS,fa.EC⟩;have r3:=rf hx3;have r4:=rf hx4;refine⟨_,Z,Z,_,Z,?_⟩;have e3:decide (V.int x3=V.int 1)=decide (x3=1):=by by_cases h:x3=1<;>simp[h]
 rw[e3];by_cases hk:x3=1
 .rw[ag hk];have hw:=E0.trans (aj hk);clear E0;have e4:V.int x4=V.int ((x4.toNat:Nat):Int):=by rw[cV (by lia)]
  refine eY ⟨_,Z,_,Z,x4.toNat,by lia,a,dx,r,bQ,true,qa,by rw[<-e4];rfl,fab,λe he=>(kE e (hw.trans (BC he))).mono db,λy qc hy wv Hc cc ec hwv=>?_⟩;have aoH:=cc.one (aq (H:=Ha) (a:=x)) nxa;refine⟨_,Z,Z,aoH,T.dS,Z,Z,Z,?_⟩;refine⟨_,Z,Z,by rw[aF (eP nxa)];exact ec,T.cu,Z,Z,_,Z,Z,aq,T.dS,Z,Z,Z,_,Z,?_⟩;rw[eG];refine kQ _ (hw.trans (Af hy)) _ _ ((db.trans cc).tw nHx) ⟨x,sR,wv,Z,aT.mpr ⟨nHx,aq⟩,?_⟩;refine Ww.same hwv λb o eb=>?_;obtain⟨z1,z2⟩:=aT.mp eb;have z3:=bO z1;refine aT.mpr ⟨?_,by rw[aF z3.1];exact z2⟩;cases q1:H b with
  |none=>rfl
  |some o1=>
   by_cases hb:b=a
   .subst hb;rw[fab.at_] at z1;cases z1
   .rw[db.one q1 hb] at z1;cases z1
 .rw[ae hk];have hw:=E0.trans (ah hk);clear E0;refine fK ⟨_,Z,Z,fab.at_,T.cu,Z,Z,_,Z,Z,aq,T.dS,Z,Z,Z,_,Z,?_⟩;rw[eG];exact kQ _ hw _ _ ((m1.trans ca).tw nHx) ⟨x,sR,.gQ,Z,aT.mpr ⟨nHx,aq⟩,Z⟩
inductive Zr (t:fP)(vs:b_)(H:Hp)(Q:VK)(E:XK):Prop|i(b:lQ)(l:ie)(_:vs=[.ref b])(_:H b=some (.lst ((nI l).map V.int)))(_:∀x∈l,x<256)(_:l.length<=4000)(_:(∀e,wW (nI l)=.error e->Gx t E [] H 1 e)/\∀h,wW (nI l)=.ok h->(((pN (l.take 12++[0,0,0,0]++l.drop 16):Nat):Int)≠h.check->Gx t E [] H 2 12)/\(((pN (l.take 12++[0,0,0,0]++l.drop 16):Nat):Int)=h.check->∀v H',aC H H'->HdA t h v (nw H H')->Q v H'))
def U4 (l:ie):Ow (nI l) 0=nI (l.take 12++[0,0,0,0]++l.drop 16):=by
 have e:zc 0 4=[0,0,0,0]:=by decide
 unfold Ow;rw[e];simp[nI,kg,lY]
def IZ:T.yS.Ok P w mg rZ (tN P w t.bI) 11 (Zr t):=by
 refine T.yS.xA λnd H vs Q E hr h=>?_;obtain⟨b,l,rfl,hb,hl,hz,kE,kQ⟩:=h;obtain⟨xk,hxk⟩:∃xk:XK,xk=λC d H1=>C=.ref t.bI/\∃dd fs e,d=some dd/\wW (nI l)=.error e/\H1 dd=some (.ext (GB dd fs))/\fs.lookup ("place":Str)=some (V.int (e:Nat))/\aC H H1:=⟨_,Z⟩;refine .i (ao (R_ (Mf:=t.bI) (Ex:=xk) rfl rfl rfl (λ_ _ hB=>(aH (fL 1 nd (ko T.xG (Ni T) hr hB.passes (ak (JW T.N9 T.Lm T.p9 (yz T) hr bG (ak (pv 0) (ak Y2 ax))) ax)))))
   (PY (i:=2) T.sO rfl T.si nd rfl rfl (λok e=>(aH (R9 (ns:=["kind","place"]) (Se aY ok rfl rfl rfl rfl) rfl T.diff.2.2.1 T.hU (h_ T) ((hr.mono (by decide)).h.mark _) T.dq.b rfl rfl T.gm (ak aJ (ak (Nm (Mf:=t.bI) (pv 2) rfl) ax)) (by decide))))
   R7))
   (ao (gj (rb Aw (ko T.vA (EV T) hr bG (ak (ko T.rO (Av T) hr bG (ak (pv 0) (ak aJ ax))) ax)) (cO (pv 1))) (aH (jy (ns:=["kind","place"]) aY rfl T.hU (h_ T) (hr.mono (by decide)).h T.dq.b rfl rfl T.gm (ak aJ (ak (fF T.uA) ax)) (by decide))) cQ)
   (aH (bz (pv 1))))) ?_
 refine⟨?_,λe C d H1 nE hx=>?_⟩
 .refine⟨_,Z,λa da n1 n2 n3=>⟨a,da,[.ref b,.bl true],Z,Z,aq,Z,?_⟩⟩;rw[eG];obtain⟨s1,s2⟩:=(⟨gA n1 n2,trivial⟩:aC H (upd (upd H da (.own a)) a (.ins t.lh da (IG ["row","as_bytes","place"] ([V.ref b,V.bl true]++[V.int 0]))))/\True);have nba:b≠a:=aI hb n1;refine⟨a,da,b,nI l,Z,⟨aq,s1 _ _ hb,λ_ x hx=>?_⟩,λe he=>?_,λh hh v H' c hv=>?_⟩
  .obtain⟨y,hy,rfl⟩:=bj.mp hx;have:=hl y hy;lia
  .intro H' dd fs h1 h2 h3;rw[hxk];exact⟨Z,dd,fs,e,Z,he,h1,h2,dE.back s1 h3 (by intro x hx;rw[show x=a from by simpa using hx];exact n1)⟩
  .have sm:aC H H':=dE.back s1 c (by intro x hx;rw[show x=a from by simpa using hx];exact n1);obtain⟨k1,k2⟩:=kQ h hh;obtain⟨ha,dh,wv,rfl,hh1,hh2⟩:=id hv;have hv':HdA t h (.ref ha) (nw H H'):=HdA.same hv (o9 s1);refine⟨_,Z,b,nI l,0,Z,sm _ _ hb,by decide,by simp;lia,λH2 p2 s2 e2 n2=>?_⟩;rw[U4] at e2;refine⟨p2,_,Z,i2 e2,λx hx=>?_,_,Z,Z,s2 _ _ (iK _ _ hh1),T.dS,Z,Z,Z,_,Z,?_⟩
   .simp only[c_] at hx;rcases hx with(hx|hx)|hx
    .exact hl x (e_ hx)
    .have:x=0:=by simpa using hx
     lia
    .exact hl x (j5 hx)
   .have e3:(!decide (V.int ((pN (l.take 12++[0,0,0,0]++l.drop 16):Nat):Int)=V.int h.check))=decide (((pN (l.take 12++[0,0,0,0]++l.drop 16):Nat):Int)≠h.check):=by
     by_cases hq:((pN (l.take 12++[0,0,0,0]++l.drop 16):Nat):Int)=h.check
     .rw[hq];simp
     .simp[hq]
    rw[e3];by_cases hq:((pN (l.take 12++[0,0,0,0]++l.drop 16):Nat):Int)=h.check
    .rw[ae (by simpa using hq)];exact fK ⟨_,Z,k2 hq _ _ (sm.trans s2) (HdA.same hv' (wu s2))⟩
    .rw[ag hq];exact eY ((k1 hq).mono (sm.trans s2).chg).raise
 .rw[hxk] at hx;obtain⟨rfl,dd,fs,er,rfl,he,hd,hf,sm⟩:=hx;refine⟨_,_,Z,T.sO,λ_=>?_,λz=>absurd rfl z⟩;refine⟨_,Z,e,t.bI,_,dd,fs,_,Z,T.sO,T.w6,aq,by rw[aF (aI hd nE)];exact hd,hf,⟨_,aq⟩,?_⟩;obtain⟨g1,g2⟩:=((kE er he).mono (H1:=upd H1 e (.ext (XH t.bI e t.bI (some dd)))) (sm.trans (aC.upd nE)).chg).raise;exact⟨g1,λd2 f2 H2 z1 z2 z3=>⟨g2 d2 f2 H2 z1 z2 z3,_,Z⟩⟩
def n_ {a b:Int}:decide (V.int a=V.int b)=decide (a=b):=by by_cases h:a=b<;>simp[h]
def B_ {a b:Int}:(!decide (V.int a=V.int b))=decide (a≠b):=by by_cases h:a=b<;>simp[h]
inductive Gz (t:fP)(f:bN)(v:V)(H:Hp):Prop|i a dx wv(_:v=.ref a)(_:H a=some (.ins t.o5 dx [("bits",.int f.bits),("cut",.int f.cut),("lanes",.int f.lanes),("way",wv)]))(_:Ww t (f.rows,f.joint) wv H)
def Gz.same (h:Gz t f v H)(m:aC H H'):Gz t f v H':=by
 obtain⟨a,dx,wv,e,h1,h2⟩:=h;exact⟨a,dx,wv,e,m _ _ h1,h2.same m⟩
def agX (g:Mx.FG f):abg (f.rows,f.joint):=⟨g.r4,λr hr=>(g.lS r hr).sn,by have:=g.jl;have:=g.r4;simp;lia⟩
def TX (g:Mx.FG f):(t8 qK (f.rows,f.joint)).length<=100:=by
 have h1:∀(l:List eO),(l.flatMap qK).length=8*l.length:=by
  intro l;induction l with
  |nil=>rfl
  |cons a r ih=>rw[cn,aO,ih];simp[qK,ji];lia
 have h2:∀(l:List bL),(∀r∈l,r.stages.length<=2)->(l.flatMap (LN qK)).length<=18*l.length:=by
  intro l;induction l with
  |nil=>intro _;simp
  |cons a r ih=>
   intro h;have:=ih λx hx=>h x (aP _ hx);have ha:=h a (aU ..);rw[cn,aO];simp only[LN,aZ,h1];lia
 have:=h2 f.rows λr hr=>(g.lS r hr).sn;have h3:=g.r4;have h4:=g.jl;simp only[t8,aO,aB];lia
def O8 (fA:Int)(f:bN)(wZ:Int):bX:=[76,83,fA,(f.rows.length:Int),(f.bits:Int),(f.cut:Int),(f.lanes:Int),0]++zc wZ 4++zc 0 4++(if fA=1 then t8 qK (f.rows,f.joint) else[])
inductive acB (t:fP)(vs:b_)(H:Hp)(Q:VK)(E:XK):Prop|i(fA:Int)(v:V)(f:bN)(wZ:Int)(_:vs=[.int fA,v,.int wZ])(_:Gz t f v H)(_:Mx.FG f)(_:0<=wZ)(_:NL H Q (O8 fA f wZ))
def KG:T.vB.Ok P w mg rZ jf 5 (acB t):=by
 refine T.vB.ok λnd H vs Q E hr h=>?_;obtain⟨fA,v,f,wZ,rfl,⟨a,dx,wv,rfl,ha,hw⟩,g,ht,k⟩:=h;obtain⟨wa,dw,ra,ja,kT,rfl,WJ,qm,pr,Qz⟩:=id hw;refine .i (ao (fL 3 nd (Bn T.i_ (ak (cO (cO (pv 1))) ax)))
   (ao (fL 4 nd (eE (ak (fF T.wk) (ak (fF T.uB) (ak (pv 0) (ak (pv 3) (ak (cO (pv 1)) (ak (cO (pv 1)) (ak (cO (pv 1)) (ak aJ ax))))))))))
   (ao (cP (Ax df dC dD mE (pv 4) (ak (ko T.jD (kO T) hr bG (ak (pv 2) (ak aJ ax))) ax)))
   (ao (cP (Ax df dC dD mE (pv 4) (ak (ko T.jD (kO T) hr bG (ak aJ (ak (fF T.qp) ax))) ax)))
   (ao (gj (rb lp (pv 0) aJ) (aH (cP (Ax df dC dD mE (pv 4) (ak (ko T.xH (Nj T) hr bG (ak (cO (pv 1)) ax)) ax)))) cQ)
   (aH (bz (pv 4)))))))) ?_
 refine⟨_,Z,Z,ha,T.dA,Z,Z,Z,WJ,T.xC,Z,Z,ra,_,Z,i3 qm,?_⟩;rw[<-dR pr];refine⟨_,Z,_,Z,_,Z,Z,ha,T.dA,Z,Z,_,Z,Z,ha,T.dA,Z,Z,_,Z,Z,ha,T.dA,Z,Z,by rw[aE];simp,λL hL=>?_⟩;have s1:aC H (upd H L (.lst [.int 76,.int 83,.int fA,.int (f.rows.length:Int),.int f.bits,.int f.cut,.int f.lanes,.int 0])):=aC.upd hL;refine⟨_,Z,LS aq,_,Z,wZ,4,Z,ht,by decide,λH2 p2 s2 e2 n2=>?_⟩;have eL2:=s2 _ _ (aq (H:=H) (a:=L));have n2L:L≠p2:=(bO n2).1.symm;refine⟨L,p2,_,_,Z,Z,eL2,e2,by rw[aE];simp[ji],?_⟩;refine⟨_,Z,LS aq,0,4,Z,by decide,by decide,λH3 p3 s3 e3 n3=>?_⟩;have eL3:=s3 _ _ (aq (H:=H2) (a:=L));refine⟨L,p3,_,_,Z,Z,eL3,e3,by rw[aE];simp[ji],?_⟩;have S3:aC H (upd H3 L (.lst ([V.int 76,.int 83,.int fA,.int (f.rows.length:Int),.int f.bits,.int f.cut,.int f.lanes,.int 0]++(zc wZ 4).map V.int++(zc 0 4).map V.int))):=λb o e=>by
  have nb:=aI e hL;rw[aF nb];refine s3 _ _ ?_;rw[aF nb];exact s2 _ _ (s1 _ _ e)
 refine⟨_,Z,Z,_,Z,?_⟩;rw[n_];by_cases hk:fA=1
 .rw[ag hk];refine eY ⟨_,Z,LS aq,_,Z,Z,S3 _ _ ha,T.dA,Z,Z,(f.rows,f.joint),_,Z,hw.same S3,agX g,λH4 p4 s4 e4 n4=>?_⟩;have eL4:=s4 _ _ (aq (H:=H3) (a:=L));have hz:=TX g;refine⟨L,p4,_,_,Z,Z,eL4,e4,by rw[aE];simp[ji];lia,_,Z,?_⟩;refine k _ L (λb o e=>?_) ?_ hL
  .rw[aF (aI e hL)];exact s4 _ _ (S3 _ _ e)
  .rw[aq,O8,aj hk];simp
 .rw[ae hk];refine fK ⟨_,Z,k _ L S3 ?_ hL⟩;rw[aq,O8,ah hk];simp
inductive agn (t:fP)(vs:b_)(H:Hp)(Q:VK)(E:XK):Prop|i x dx k fv(_:vs=[.ref x,k,fv])(_:H x=some (.ins t.o4 dx []))(_:∀H' sa ra,(∀b o,H b=some o->b≠x->H' b=some o)->H' x=some (.ins t.o4 dx [("key",k),("frame",fv),("shape",.ref sa),("rows",.ref ra)])->Q .gQ H')
def Ky:T.vv.Ok P w mg rZ jf 1 (agn t):=by
 refine T.vv.ok λnd H vs Q E hr h=>?_;obtain⟨x,dx,k,fv,rfl,hx,q⟩:=h;refine .i (ao (kh (pv 0) (pv 1))
   (ao (kh (pv 0) (pv 2))
   (ao (kh (pv 0) (eE ax))
   (aH (kh (pv 0) (eE ax)))))) ?_
 refine⟨_,Z,_,Z,Z,hx,T.jz,Z,Z,Z,?_⟩;refine⟨_,Z,_,Z,Z,aq,T.jz,Z,Z,Z,?_⟩;rw[eG];refine⟨by rw[aE];simp,λsa n1=>⟨_,Z,Z,by rw[aF (bO n1).1.symm,aq],T.jz,Z,Z,Z,?_⟩⟩;refine⟨by rw[aE];simp,λra n2=>⟨_,Z,Z,by rw[aF (bO n2).1.symm,aq],T.jz,Z,Z,Z,?_⟩⟩;refine q _ sa ra (λb o e nb=>?_) aq;have f1:=(bO (bO n2).2).2;rw[aF nb,aF (aI e (bO f1).2),aF nb,aF (aI e (bO n1).2),aF nb];exact e
inductive As0 (t:fP)(fA:Int)(f:bN)(v:V)(H:Hp):Prop|i a dx fv sa ra(_:v=.ref a)(_:H a=some (.ins t.o4 dx [("key",.int fA),("frame",fv),("shape",.ref sa),("rows",.ref ra)]))(_:Gz t f fv (but H a))
inductive acJ (t:fP)(vs:b_)(H:Hp)(Q:VK)(E:XK):Prop|i a dx r bQ(_:vs=[.ref a])(_:FA t H a dx r bQ false 0)(_:∀e,pY bQ=.error e->Wn t E [a] H e)(_:∀fA f,pY bQ=.ok (fA,f)->∀v H',dE [a] H H'->As0 t fA f v (nw H H')->Q v H')
def KJ:T.vD.Ok P w mg rZ (tN P w t.bI) 10 (acJ t):=by
 refine T.vD.xA λnd H vs Q E hr h=>?_;obtain⟨a,dx,r,bQ,rfl,fa,kE,kQ⟩:=h;refine .i (ao (fL 1 nd (ko T.vF (EX T) hr aY.passes (ak (pv 0) ax)))
   (ao (fL 2 nd (ko T.tR (CP T) hr aY.passes (ak (pv 0) ax)))
   (ao (fL 3 nd (ko T.vE (EW T) hr aY.passes (ak (pv 0) (ak (pv 2) ax))))
   (ao (fL 4 nd (ko T.rN (Au T) hr aY.passes (ak (pv 0) ax)))
   (ao (fL 5 nd (ko T.tS (CQ T) hr aY.passes (ak (pv 0) ax)))
   (ao (fL 6 nd (ko T.vH (EY T) hr aY.passes (ak (pv 0) (ak (pv 5) ax))))
   (ao (gj (rb Aw (cO (pv 0)) (Bn T.i_ (ak (cO (pv 0)) ax))) (aH (jy (ns:=["place"]) aY rfl T.yV (zq T) (hr.mono (by decide)).h T.lq.b rfl rfl T.si (ak (cO (pv 0)) ax) (by decide))) cQ)
   (aH (bz (JW T.aa6 T.XO T.vv (Ky T) hr bG (ak (pv 1) (ak (JW T.S5 T.O5 T.rL (Ar T) hr bG (ak (pv 2) (ak (pv 3) (ak (pv 4) (ak (pv 6) ax))))) ax)))))))))))) ?_
 refine⟨_,Z,a,dx,r,bQ,false,0,Z,fa,λe he=>kE e (BC he),λx3 q3 hx3 v3 H3 c3 e3 hv3=>?_⟩;cases hv3;have fa3:=fa.chg c3 e3;have E3:pY bQ=_:=Af hx3;refine⟨_,Z,a,dx,r,bQ,false,q3,Z,fa3,λe he=>(kE e (E3.trans (BC he))).mono c3,λx5 q5 hx5 v5 H5 c5 e5 hv5=>?_⟩;cases hv5;have fa5:=fa3.chg c5 e5;have E5:=E3.trans (Af hx5);clear E3;have d5:=c3.trans c5;refine⟨_,Z,_,Z,x5,trivial,a,dx,r,bQ,false,q5,Z,fa5,λe he=>(kE e (E5.trans (BC he))).mono d5,λx6 q6 hx6 v6 H6 c6 e6 hv6=>?_⟩;cases hv6;have fa6:=fa5.chg c6 e6;have E6:=E5.trans (Af hx6);clear E5;have d6:=d5.trans c6;refine⟨_,Z,a,dx,r,bQ,false,q6,Z,fa6,λe he=>(kE e (E6.trans (BC he))).mono d6,λx7 q7 hx7 v7 H7 c7 e7 hv7=>?_⟩;cases hv7;have fa7:=fa6.chg c7 e7;have E7:=E6.trans (Af hx7);clear E6;have d7:=d6.trans c7;refine⟨_,Z,a,dx,r,bQ,false,q7,Z,fa7,λe he=>(kE e (E7.trans (BC he))).mono d7,λx4 q4 hx4 v4 H4 c4 e4 hv4=>?_⟩;cases hv4;have fa4:=fa7.chg c4 e4;have E4:=E7.trans (Af hx4);clear E7;have d4:=d7.trans c4;have r4:=rf hx4;have r5:=rf hx5;have r6:=rf hx6;have r7:0<=x7:=by
  have:x7∈iy:=by
   simp only[Bv] at hx7;split at hx7
   .cases hx7
   .split at hx7
    .rename_i hm;cases hx7;exact hm
    .cases hx7
  simp[iy] at this;lia
 have e4':V.int x4=V.int ((x4.toNat:Nat):Int):=by rw[cV (by lia)]
 refine⟨_,Z,_,Z,x4.toNat,by lia,a,dx,r,bQ,false,q4,by rw[<-e4'];rfl,fa4,λe he=>(kE e (E4.trans (BC he))).mono d4,λy qc hy wv Hc cc ec hwv=>?_⟩;have fac:=fa4.chg cc ec;have dc:=d4.trans cc;refine⟨_,Z,Z,ec,T.cu,Z,Z,_,Z,Z,ec,T.cu,Z,Z,r,_,Z,i3 fac.lS,Z,_,Z,?_⟩;rw[B_,aB];by_cases hq:qc=bQ.length
 .rw[ae (by lia)];refine fK ⟨_,Z,_,Z,_,Z,_,Z,_,Z,λx sR n1 n2 n3=>⟨x,sR,[.int x5,.int x6,.int x7,wv],Z,Z,aq,Z,?_⟩⟩;rw[eG];intro y' dy n4 n5 n6;refine⟨y',dy,.int x3,.ref x,Z,aq,λH' sa ra hk hy'=>?_⟩;obtain⟨m1,m2,m3,m4⟩:=ou (u:=.own x) (u':=.ins t.o5 sR (IG ["bits","cut","lanes","way"] [.int x5,.int x6,.int x7,wv])) dc ec n1 n2;obtain⟨m1',m2',m3',m4'⟩:=ou (u:=.own y') (u':=.ins t.o4 dy []) m1 m3 n4 n5;have ny:H y'=none:=(aT.mp m2').1;have c2:dE [a] H H':=λb o e nb=>hk b o (m1' b o e nb) (aI e ny);have S2:aC (nw H Hc) (but (nw H H') y'):=λb o e=>by
   obtain⟨z1,z2⟩:=aT.mp e;have z3:=m4 _ _ z2;exact dQ.mpr ⟨aI z3 n4,aT.mpr ⟨z1,hk b o (m4' _ _ z3) (aI z3 n4)⟩⟩
  have fr:∀z,H4 z=none->H z=none:=λz hz=>by
   cases e:H z with
   |none=>rfl
   |some o=>
    by_cases m:z=a
    .subst m;rw[fa4.at_] at hz;cases hz
    .rw[d4.one e m] at hz;cases hz
  have JU:H' x=some (.ins t.o5 sR (IG ["bits","cut","lanes","way"] [.int x5,.int x6,.int x7,wv])):=hk x _ (m4' _ _ (aT.mp m2).2) (aI (aT.mp m2).2 n4);refine⟨Z,kQ _ _ ((E4.trans (Af hy)).trans (aj hq)) _ _ c2 ⟨y',dy,.ref x,sa,ra,Z,aT.mpr ⟨ny,hy'⟩,x,sR,wv,Z,dQ.mpr ⟨aI (aT.mp m2).2 n4,aT.mpr ⟨(aT.mp m2).1,JU.trans ?_⟩⟩,hwv.same ((qt fr).trans S2)⟩⟩;show _=some (HO.ins t.o5 sR [("bits",.int (x5.toNat:Int)),("cut",.int (x6.toNat:Int)),("lanes",.int (x7.toNat:Int)),("way",wv)]);rw[cV (by lia),cV (by lia),cV (by lia)];rfl
 .rw[ag (by show¬_;lia)];refine eY ⟨_,Z,Z,ec,T.cu,Z,Z,?_⟩;exact((kE qc ((E4.trans (Af hy)).trans (ah hq))).mono dc).raise
inductive acF (vs:b_)(H:Hp)(Q:VK)(E:XK):Prop|i(a:lQ)(l:bX)(_:vs=[.ref a])(_:H a=some (.lst (l.map V.int)))(_:l.length<=1000000)(_:∀H',aC H H'->Q (.bl (decide (l.length=4/\∀x∈l,-128<=x/\x<=127))) H')
def allB {p:Int->Prop}[DecidablePred p]:(l.map λx=>decide (p x)).all id=decide (∀x∈l,p x):=by
 induction l with
 |nil=>simp
 |cons a r ih=>
  rw[cz,wJ,ih];by_cases h:p a<;>by_cases h2:∀x∈r,p x<;>simp[h]
def Xo {a b z:Int}(h:Q (.bl (decide (a<=z/\z<=b))) H):if decide (a<=z)=true then Zb (λi j=>.bl (decide (i<=j))) (.int z) (.int b) H Q else Q (.bl false) H:=by
 by_cases h1:a<=z
 .rw[aj (ag h1)];refine⟨z,b,Z,Z,?_⟩;have e:decide (a<=z/\z<=b)=decide (z<=b):=by simp[h1]
  rw[<-e];exact h
 .rw[ah (by simpa using h1)];have e:decide (a<=z/\z<=b)=false:=by simp[h1]
  rw[<-e];exact h
def PJ:T.AK.Ok P w mg rZ jf 1 acF:=by
 refine T.AK.ok λnd H vs Q E hr h=>?_;obtain⟨a,l,rfl,ha,hz,k⟩:=h;refine .i (aH (bz (Y1 (pcm lp (Bn T.i_ (ak (pv 0) ax)) aJ) (Y6 (gO (QV rfl) rfl T.YJ boot_all (ak (GO [("part",1)] nd (fB (pv 0)) (mv 1 nd) (PU LD LD (t5 pw aJ) (pv 1) aJ)) ax)))))) ?_;refine⟨_,Z,a,_,Z,i3 ha,Z,_,Z,?_⟩;rw[n_,aB];by_cases h4:l.length=4
 .rw[ag (by lia)];refine eY ⟨_,Z,a,Z,⟨_,i2 ha⟩,λD hD=>?_⟩;refine nt (ys:=(l.map λx=>decide (-128<=x/\x<=127)).map V.bl) hD (by rw[aE];simp;lia) (i2 ha) (by simp) (λi x y H2 Q2 hx hy sm k2=>?_) λH' h1 h2=>?_
  .rw[aw] at hx;rw[aw,aw] at hy;cases hl:l[i]? with
   |none=>rw[hl] at hx;cases hx
   |some z=>
    rw[hl] at hx hy;cases hx;cases hy;have fin:=k2 H2 (aC.refl _);refine⟨Z,_,Z,_,Z,_,_,Z,Z,_,Z,?_⟩;exact Xo fin
  .refine⟨D,_,Z,i2 h1,?_⟩;rw[allB];have e:decide (l.length=4/\∀x∈l,-128<=x/\x<=127)=decide (∀x∈l,-128<=x/\x<=127):=by simp[h4]
   rw[<-e];exact k _ h2
 .rw[ae (by lia)];have e:decide (l.length=4/\∀x∈l,-128<=x/\x<=127)=false:=by simp[h4]
  have:=k H (aC.refl H);rw[e] at this;exact fK this
def ofBits (b:Nat)(x:Int):Prop:= -(2^(b-1))<=x/\x<=2^(b-1)-1
instance (b:Nat)(x:Int):Decidable (ofBits b x):=by unfold ofBits;exact inferInstance
inductive Zv (vs:b_)(H:Hp)(Q:VK)(E:XK):Prop|i(a:lQ)(l:bX)(b:Nat)(_:vs=[.ref a,.int b])(_:H a=some (.lst (l.map V.int)))(_:l.length<=1000000)(_:1<=b)(_:b<=100)(_:∀H',aC H H'->Q (.bl (decide (∀x∈l,ofBits b x))) H')
def IW:T.uh.Ok P w mg rZ jf 2 Zv:=by
 refine T.uh.ok λnd H vs Q E hr h=>?_;obtain⟨a,l,b,rfl,ha,hz,MR,BE,k⟩:=h;refine .i (aH (bz (gO (QV rfl) rfl T.YJ boot_all (ak (GO [("x",2)] nd (fB (pv 0)) (mv 2 nd) (PU LD LD (ko T.j8 (pf T) hr bG (ak (pv 1) ax)) (pv 2) (ko T.jC (oi T) hr bG (ak (pv 1) ax)))) ax)))) ?_;refine⟨_,Z,a,Z,⟨_,i2 ha⟩,λD hD=>?_⟩;refine nt (ys:=(l.map λx=>decide (ofBits b x)).map V.bl) hD (by rw[aE];simp;lia) (i2 ha) (by simp) (λi x y H2 Q2 hx hy sm k2=>?_) λH' h1 h2=>?_
 .rw[aw] at hx;rw[aw,aw] at hy;cases hl:l[i]? with
  |none=>rw[hl] at hx;cases hx
  |some z=>
   rw[hl] at hx hy;cases hx;cases hy;have fin:Q2 (V.bl (decide (ofBits b z))) H2:=k2 H2 (aC.refl _);refine⟨Z,_,Z,b,Z,MR,BE,_,Z,_,_,Z,Z,_,Z,?_⟩;by_cases h1: -(2^(b-1))<=z
   .rw[aj (ag h1)];refine⟨_,Z,b,Z,MR,BE,_,_,Z,Z,?_⟩;have e:decide (ofBits b z)=decide (z<=2^(b-1)-1):=by simp[ofBits,h1]
    rw[e] at fin;exact fin
   .rw[ah (by simpa using h1)];have e:decide (ofBits b z)=false:=by simp[ofBits,h1]
    rw[e] at fin;exact fin
 .refine⟨D,_,Z,i2 h1,?_⟩;rw[allB];exact k _ h2
def M7 {α:Type}{J:It}{te:TE}{σ:L2.St}{Qd:Hp->Prop}(xs:List α)(is:α->V->Hp->Prop)(mono:∀x v H H',is x v H->aC H H'->is x v H')(hD:H1 D=none)(hz:xs.length<=bu)
  (Yn:∀H,aC H1 H->J.stop xs.length H) (hgo:∀i H,i<xs.length->aC H1 H->J.go i H)
  (hs:∀i x v H H' Q,xs[i]? =some x->aC H1 H->J.Wc i H v H'->(∀y H4,aC H H4->is x y (nw H H4)->Q y H4)->g v (wipe σ vs) H' λmG H2=>wipe mG vs=wipe σ vs/\te mG H2 Q)
  (hd:∀H' ys,aC H1 H'->H' D=some (.lst ys)->Paired (λx v=>is x v (nw H1 H')) xs ys->Qd H'):Wj J g te vs σ H1 D Qd:=by
 refine RS (J:=J) (te:=te) (λi dM H=>aC H1 H/\Paired (λx v=>is x v (nw (upd H1 D (.lst [])) H)) (xs.take i) dM) xs.length hz ⟨aC.upd hD,.nil⟩ (λdM H hl eD ⟨sm,pr⟩=>⟨Yn H sm,?_⟩) (λi dM H hi eD ⟨sm,pr⟩=>hgo i H hi sm) λi dM H v H' Q hi hl eD ⟨sm,pr⟩ hy k=>?_
 .rw[gk] at pr;exact hd H dM sm eD (Paired.lR pr λx v z=>mono _ _ _ _ z (qt λb hb=>(bO hb).2))
 .have hx:xs[i]? =some (xs[i]'hi):=aD hi;refine hs i _ v H H' Q hx sm hy λy H4 s4 hn=>?_;have hS:aC (nw (upd H1 D (.lst [])) H4) (nw (upd H1 D (.lst [])) (upd H4 D (.lst (dM++[y])))):=λb o e=>by
   obtain⟨z1,z2⟩:=aT.mp e;exact aT.mpr ⟨z1,by rw[aF (bO z1).1];exact z2⟩
  refine k y H4 (s4 _ _ eD) ⟨λb o e=>by rw[aF (aI e hD)];exact s4 _ _ (sm _ _ e),?_⟩;rw[Mx.take_snoc hx];refine(Paired.lR pr λx v z=>mono _ _ _ _ z ((wu s4).trans hS)).snoc (mono _ _ _ _ hn (aC.trans (qt λb hb=>?_) hS));by_cases e:b=D
  .subst e;rw[eD] at hb;cases hb
  .rw[aF e];exact sm.free hb
def Vu {α:Type}{te:TE}{σ:L2.St}{Qd:Hp->Prop}(xs:List α)(is:α->V->Hp->Prop)(mono:∀x v H H',is x v H->aC H H'->is x v H')(hD:H1 D=none)(hz:xs.length<=bu)(hn:xs.length=n)
  (hs:∀(i:Nat) x H Q,xs[i]? =some x->aC H1 H->(∀y H4,aC H H4->is x y (nw H H4)->Q y H4)->g (.int (lo+(i:Nat))) (wipe σ vs) H λmG H2=>wipe mG vs=wipe σ vs/\te mG H2 Q)
  (hd:∀H' ys,aC H1 H'->H' D=some (.lst ys)->Paired (λx v=>is x v (nw H1 H')) xs ys->Qd H'):Wj (S1 lo n) g te vs σ H1 D Qd:=
 M7 (J:=S1 lo n) (te:=te) xs is mono hD hz (λH _=>f7 hn.symm) (λi H h _=>by rw[hn] at h;exact h) (λi x v H H' Q hx sm ⟨e,z⟩ k=>by subst e z;exact hs i x _ Q hx sm k) hd
def Yz {α:Type}{te:TE}{σ:L2.St}{Qd:Hp->Prop}{us:b_}(xs:List α)(is:α->V->Hp->Prop)(mono:∀x v H H',is x v H->aC H H'->is x v H')(hD:H1 D=none)(hz:xs.length<=bu)(hl:nM K H1 a us)(hn:xs.length=us.length)
  (hs:∀(i:Nat) x u H Q,xs[i]? =some x->us[i]? =some u->aC H1 H->(∀y H4,aC H H4->is x y (nw H H4)->Q y H4)->g u (wipe σ vs) H λmG H2=>wipe mG vs=wipe σ vs/\te mG H2 Q)
  (hd:∀H' ys,aC H1 H'->H' D=some (.lst ys)->Paired (λx v=>is x v (nw H1 H')) xs ys->Qd H'):Wj (Wi K a) g te vs σ H1 D Qd:=
 M7 (J:=Wi K a) (te:=te) xs is mono hD hz (λH sm=>⟨us,sm.seq hl,f7 hn.symm⟩) (λi H h sm=>⟨us,us[i]'(by lia),sm.seq hl,aD (by lia)⟩) (λi x v H H' Q hx sm ⟨e,z⟩ k=>by subst e;exact hs i x v _ Q hx (z us (sm.seq hl)) sm k) hd
inductive IsL (x:bX)(v:V)(H:Hp):Prop|i p(_:v=.ref p)(_:H p=some (.lst (x.map V.int)))
def IsL.same {x:bX}(h:IsL x v H)(m:aC H H'):IsL x v H':=by
 obtain⟨p,e,h⟩:=h;exact⟨p,e,m _ _ h⟩
def uH (x:bX)(rows:Nat):ly:=(aK rows).map λr=>(x.drop (r*(x.length / rows))).take (x.length / rows)
def NLL (H:Hp)(Q:VK)(l:ly):Prop:=∀H' p vs,aC H H'->H' p=some (.lst vs)->H p=none->Paired (λx v=>IsL x v (nw H H')) l vs->Q (.ref p) H'
inductive acH (vs:b_)(H:Hp)(Q:VK)(E:XK):Prop|i(a:lQ)(x:bX)(r:Nat)(_:vs=[.ref a,.int r])(_:H a=some (.lst (x.map V.int)))(_:x.length<=1000000)(_:1<=r)(_:r<=4)(_:NLL H Q (uH x r))
def KH:T.vC.Ok P w mg rZ jf 1 acH:=by
 refine T.vC.ok λnd H vs Q E hr h=>?_;obtain⟨a,x,r,rfl,ha,hz,hr1,hr2,k⟩:=h;refine .i (ao (fL 2 nd (aX jJ (Bn T.i_ (ak (pv 0) ax)) (pv 1)))
   (aH (bz (GO [("r",3)] nd (jx rfl T.iA (ak (pv 1) ax)) (mv 3 nd) (PX (r:=aco K) Ul (pv 0) (qu (aX fQ (pv 3) (pv 2))) (qu (aX fQ (aX dz (pv 3) aJ) (pv 2)))))))) ?_
 refine⟨_,Z,a,_,Z,i3 ha,_,Z,_,_,Z,Z,⟨by lia,by lia⟩,?_⟩;refine⟨_,Z,_,Z,by lia,by lia,λD hD=>?_⟩;rw[aB];obtain⟨tm,htm⟩:∃tm,tm=x.length / r:=⟨_,Z⟩;have htr:tm*r<=x.length:=by rw[htm];exact aau _ _
 have ajr:((x.length:Int) / (r:Int))=((tm:Nat):Int):=by rw[htm];rfl
 refine Vu (uH x r) IsL (λx v H H' h m=>h.same m) hD (by rw[aE];simp[uH];lia) (by simp[uH]) (λi y H' Q2 hy sm k2=>?_) λH' ys sm eD pr=>k H' D ys sm eD hD pr;have hi:i<r:=by have:=(aN.mp hy).1;simpa[uH] using this
 refine⟨Z,_,Z,_,Z,_,Z,_,_,Z,Z,.inl ⟨by lia,by lia⟩,_,Z,_,Z,_,_,Z,Z,_,Z,_,_,Z,Z,.inl ⟨by lia,by lia⟩,_,Z,a,_,Z,i2 (sm _ _ ha),λp hp=>?_⟩;refine k2 _ _ (aC.upd hp) ⟨p,Z,aT.mpr ⟨hp,?_⟩⟩;have e1:(0+(i:Int))*((x.length:Int) / (r:Int))=((i*tm:Nat):Int):=by rw[ajr];simp
 have e2:(0+(i:Int)+1)*((x.length:Int) / (r:Int))=(((i+1)*tm:Nat):Int):=by rw[ajr];simp
 have hb:(i+1)*tm<=r*tm:=iJ tm hi;have BE:i*tm<=(i+1)*tm:=iJ tm (by lia);have hb3:r*tm<=x.length:=by rw[jk];exact htr
 have e3:=abr (x.map V.int) (i*tm) ((i+1)*tm) (by simp;lia) (by simp;lia);rw[<-e1,<-e2] at e3;have ey:y=(x.drop (i*tm)).take tm:=by
  unfold uH at hy;rw[aw,bD hi,<-htm] at hy;exact(bh hy).symm
 rw[aq];refine congrArg (λz=>some (HO.lst z)) (e3.trans ?_);rw[ey,show(i+1)*tm-i*tm=tm by rw[G7,k9],kg,lY]
inductive AsA (t:fP)(fA:Int)(f:bN)(fv:V)(aS:bX)(xs:ly)(v:V)(H:Hp):Prop|i a dx sa ra vs(_:v=.ref a)(_:H a=some (.ins t.o4 dx [("key",.int fA),("frame",fv),("shape",.ref sa),("rows",.ref ra)]))(_:Gz t f fv H)(_:H sa=some (.lst (aS.map V.int)))(_:H ra=some (.lst vs))(_:Paired (λx v=>IsL x v H) xs vs)
def AsA.same {aS:bX}{xs:ly}(h:AsA t fA f fv aS xs v H)(m:aC H H'):AsA t fA f fv aS xs v H':=by
 obtain⟨a,dx,sa,ra,vs,e,h1,h2,h3,h4,h5⟩:=h;exact⟨a,dx,sa,ra,vs,e,m _ _ h1,h2.same m,m _ _ h3,m _ _ h4,Paired.lR h5 λx v z=>z.same m⟩
structure K2 (f:bN)(aS x:bX):Prop where
 s4:aS.length=4
 sr:∀v∈aS,-128<=v/\v<=127
 x0:x.length≠0
 xm:x.length%f.rows.length=0
 xt:x.length / f.rows.length<=64
 xb:∀v∈x,ofBits f.bits v
inductive VS (t:fP)(vs:b_)(H:Hp)(Q:VK)(E:XK):Prop|i(s5 td sh nm:lQ)(l5 lt ls ln:bX)(_:vs=[.ref s5,.ref td,.ref sh,.ref nm])(_:H s5=some (.lst (l5.map V.int)))(_:H td=some (.lst (lt.map V.int)))(_:H sh=some (.lst (ls.map V.int)))(_:H nm=some (.lst (ln.map V.int)))(_:l5.length<=1000)(_:lt.length<=1000)(_:ls.length<=1000)(_:ln.length<=1000)(_:∀fA f,pY (l5++lt)=.ok (fA,f)->Mx.FG f)(_:∀e,pY (l5++lt)=.error e->S6 t.iO E [] H)(_:∀fA f,pY (l5++lt)=.ok (fA,f)->(¬K2 f ls ln->S6 t.iO E [] H)/\(K2 f ls ln->∀v fv H',aC H H'->AsA t fA f fv ls (uH ln f.rows.length) v H'->Gz t f fv (nw H H')->Q v H'))
def PD:T.AI.Ok P w mg rZ (tN P w t.bI) 11 (VS t):=by
 refine T.AI.xA λnd H vs Q E hr h=>?_;obtain⟨s5,td,sh,nm,l5,lt,ls,ln,rfl,h5,ht,hs,hn,z1,z2,z3,z4,hf,kE,kQ⟩:=h;obtain⟨xk,hxk⟩:∃xk:XK,xk=λC d H1=>C=.ref t.bI/\∃e,pY (l5++lt)=.error e/\aC H H1:=⟨_,Z⟩;refine .i (ao (R_ (Mf:=t.bI) (Ex:=xk) rfl rfl rfl (λ_ _ hB=>(aH (fL 4 nd (ko T.vD (KJ T) hr hB.passes (ak (JW T.N9 T.Lm T.p9 (yz T) hr bG (ak (aX mP (pv 0) (pv 1)) (ak Y2 ax))) ax)))))
   (Nn T.sO rfl T.si (λok e=>(aH (R8 (KP aY ok rfl rfl rfl) rfl T.diff.1 T.oX T.uD rfl T.ql)))
   R7))
   (ao (fL 5 nd (Bn T.i_ (ak (cO (cO (cO (pv 4)))) ax)))
   (ao (gj (PW.pt (yK (Nq (Bo (ko T.AK (PJ T) hr bG (ak (pv 2) ax)))) (yK (rb lp (Bn T.i_ (ak (pv 3) ax)) aJ) (yL (rb Aw (aX pX (Bn T.i_ (ak (pv 3) ax)) (pv 5)) aJ))))) (aH (vi aY rfl T.oX T.uD rfl T.ql)) cQ)
   (ao (gj (PW.pt (yK (rb Jb (aX jJ (Bn T.i_ (ak (pv 3) ax)) (pv 5)) (fF T.CA)) (yL (Nq (Bo (ko T.uh (IW T) hr bG (ak (pv 3) (ak (cO (cO (pv 4))) ax)))))))) (aH (vi aY rfl T.oX T.uD rfl T.ql)) cQ)
   (ao (kh (pv 4) (pv 2))
   (ao (kh (pv 4) (ko T.vC (KH T) hr bG (ak (pv 3) (ak (pv 5) ax))))
   (aH (bz (pv 4))))))))) ?_
 refine⟨?_,λe C d H1 nE hx=>?_⟩
 .refine⟨_,Z,_,Z,s5,td,_,_,Z,Z,h5,ht,by rw[aE];simp;lia,λr nr=>?_⟩;have s0:aC H (upd H r (.lst (l5.map V.int++lt.map V.int))):=aC.upd nr;intro a da n1 n2 n3;refine⟨a,da,[.ref r,.bl false],Z,Z,aq,Z,?_⟩;rw[eG];have s1:=s0.trans (gA (C:=t.lh) (fs:=IG ["row","as_bytes","place"] ([V.ref r,V.bl false]++[V.int 0])) n1 n2);have nra:r≠a:=(bO n1).1.symm;have nrd:r≠da:=(bO n2).1.symm;refine⟨a,da,r,l5++lt,Z,⟨aq,by rw[aF nra,aF nrd,aq,jU],λz=>by cases z⟩,λe he=>?_,λfA f hh v H' c hv=>?_⟩
  .intro H' dd fs h1 h2 h3;rw[hxk];exact⟨Z,e,he,dE.back s1 h3 (by intro x hx;rw[show x=a from by simpa using hx];exact(bO n1).2)⟩
  .have sm:aC H H':=dE.back s1 c (by intro x hx;rw[show x=a from by simpa using hx];exact(bO n1).2);have g:=hf fA f hh;obtain⟨k1,k2⟩:=kQ fA f hh;obtain⟨b,db,fv,sa,ra,rfl,hb,hfv⟩:=hv;have hb':=iK _ _ hb;have nb:H b=none:=s1.free (aT.mp hb).1;have hfn:Gz t f fv (but (nw H H') b):=hfv.same λy o e=>dQ.mpr ⟨(dQ.mp e).1,o9 s1 _ _ (dQ.mp e).2⟩;replace hfv:Gz t f fv (nw (upd (upd (upd H r (.lst (l5.map V.int++lt.map V.int))) da (.own a)) a (.ins t.lh da (IG ["row","as_bytes","place"] ([V.ref r,V.bl false]++[V.int 0])))) H'):=hfv.same AW;obtain⟨fa,dfa,wv,rfl,JR,hw⟩:=id hfv;obtain⟨wa,dw,rwa,ja,kT,rfl,WJ,afA,prw,Qz⟩:=hw;have iP:kT.length=f.rows.length:=(dR prw).symm;refine⟨_,Z,Z,hb',T.jz,Z,Z,Z,iK _ _ JR,T.dA,Z,Z,Z,iK _ _ WJ,T.xC,Z,Z,rwa,_,Z,i3 (iK _ _ afA),?_⟩;rw[iP];have hr1:=g.r1;have hr4:=g.r4;refine⟨_,Z,sh,ls,Z,sm _ _ hs,by lia,λH2 s2=>⟨_,Z,?_⟩⟩;have pK:=sm.trans s2;by_cases q1:ls.length=4/\∀x∈ls,-128<=x/\x<=127
   .rw[ag q1];refine fK ⟨_,Z,nm,_,Z,i3 (pK _ _ hn),Z,_,Z,?_⟩;rw[n_,aB];by_cases q2:ln.length=0
    .rw[ag (by lia)];refine eY (eY ?_);exactλH3 s3=>k1 (λz=>z.x0 q2) H3 (pK.trans s3).chg
    .rw[ae (by lia)];refine fK ⟨_,Z,nm,_,Z,i3 (pK _ _ hn),_,Z,_,_,Z,Z,(by show(0:Int)<_;lia),Z,_,Z,?_⟩;rw[B_,aB];by_cases q3:ln.length%f.rows.length=0
     .rw[ae (by simp only[ne_eq,tT];lia)];refine fK ?_;refine⟨_,Z,nm,_,Z,i3 (pK _ _ hn),_,Z,_,_,Z,Z,⟨by lia,by lia⟩,_,_,Z,Z,_,Z,?_⟩;rw[aB];have ediv:(ln.length:Int) / (f.rows.length:Int)=((ln.length / f.rows.length:Nat):Int):=rfl;rw[ediv];by_cases q4:ln.length / f.rows.length<=64
      .rw[ae (by lia)];have MR:=g.b1;have BE:=g.b2;refine fK ⟨_,Z,_,Z,Z,s2 _ _ hb',T.jz,Z,Z,Z,s2 _ _ (iK _ _ JR),T.dA,Z,Z,nm,ln,f.bits,Z,pK _ _ hn,by lia,by lia,by lia,λH3 s3=>⟨_,Z,?_⟩⟩;have AA:=pK.trans s3;by_cases q5:∀x∈ln,ofBits f.bits x
       .rw[ag q5];refine fK ?_;have anJ:=s3 _ _ (s2 _ _ hb');refine⟨_,Z,_,Z,Z,anJ,T.jz,Z,Z,tH [("key",V.int fA),("frame",V.ref fa),("shape",V.ref sh),("rows",V.ref ra)],?_⟩;have El:aC H (upd H3 b (.ins t.o4 db [("key",V.int fA),("frame",V.ref fa),("shape",V.ref sh),("rows",V.ref ra)])):=λy o e=>by rw[aF (aI e nb)];exact AA _ _ e
        refine⟨_,Z,_,Z,nm,ln,f.rows.length,Z,El _ _ hn,by lia,by lia,by lia,λH5 p5 v5 s5' e5 n5 pr5=>?_⟩;refine⟨_,Z,Z,s5' _ _ aq,T.jz,Z,Z,Z,_,Z,?_⟩;have nbp:b≠p5:=aI aq n5;have smF:aC H (upd H5 b (.ins t.o4 db [("key",V.int fA),("frame",V.ref fa),("shape",V.ref sh),("rows",V.ref p5)])):=λy o e=>by rw[aF (aI e nb)];exact s5' _ _ (El _ _ e)
        have frn:Gz t f (.ref fa) (nw H (upd H5 b (.ins t.o4 db [("key",V.int fA),("frame",V.ref fa),("shape",V.ref sh),("rows",V.ref p5)]))):=by
         refine hfn.same λy o e=>?_;obtain⟨g1,g2⟩:=dQ.mp e;obtain⟨g3,g4⟩:=aT.mp g2;refine aT.mpr ⟨g3,?_⟩;rw[aF g1];refine s5' _ _ ?_;rw[aF g1];exact s3 _ _ (s2 _ _ g4)
        refine k2 ⟨q1.1,q1.2,q2,q3,q4,q5⟩ _ (.ref fa) _ smF ⟨b,db,sh,p5,v5,Z,aq,frn.same iK,smF _ _ hs,by rw[aF nbp.symm];exact e5,?_⟩ frn;refine Paired.lR pr5 λx v z=>z.same λy o e=>?_;obtain⟨g1,g2⟩:=aT.mp e;rw[aF (bZ aq g1)];exact g2
       .rw[ae q5];refine eY ?_;exactλH4 s4=>k1 (λz=>q5 z.xb) H4 (AA.trans s4).chg
      .rw[ag (by lia)];refine eY (eY ?_);exactλH4 s4=>k1 (λz=>q4 z.xt) H4 (pK.trans s4).chg
     .rw[ag (by show¬_;lia)];refine eY ?_;exactλH4 s4=>k1 (λz=>q3 z.xm) H4 (pK.trans s4).chg
   .rw[ae q1];refine eY (eY ?_);exactλH4 s4=>k1 (λz=>q1 ⟨z.s4,z.sr⟩) H4 (pK.trans s4).chg
 .rw[hxk] at hx;obtain⟨rfl,er,he,sm⟩:=hx;refine⟨_,_,Z,T.sO,λ_=>?_,λz=>absurd rfl z⟩;exact⟨⟨_,aq⟩,λH2 s2=>⟨kE er he H2 ((sm.trans (aC.upd nE)).trans s2).chg,_,Z⟩⟩
inductive isP (x:Int×Int)(v:V)(H:Hp):Prop|i p(_:v=.ref p)(_:H p=some (.tup [.int x.1,.int x.2]))
def isP.same {x:Int×Int}(h:isP x v H)(m:aC H H'):isP x v H':=by
 obtain⟨p,e,h⟩:=h;exact⟨p,e,m _ _ h⟩
inductive Ss (g:Nat->Int->Int->Int×Int)(vs:b_)(H:Hp)(Q:VK)(E:XK):Prop|i(j:Nat)(a b:Int)(_:vs=[.int j,.int a,.int b])(_:j<=3)(_:∀v H',aC H H'->isP (g j a b) v (nw H H')->Q v H')
def qI {a b:Int}{z:Int×Int}(hz:z=(a,b))(k:∀v H',aC H H'->isP z v (nw H H')->Q v H'):[V.int a,V.int b].length<=bu/\∀p,H p=none->Q (.ref p) (upd H p (.tup [.int a,.int b])):=by
 subst hz;exact⟨by rw[aE];simp,λp hp=>k _ _ (aC.upd hp) ⟨p,Z,aT.mpr ⟨hp,aq⟩⟩⟩
def Ng:T.qy.Ok P w mg rZ jf 1 (Ss sJ):=by
 refine T.qy.ok λnd H vs Q E hr h=>?_;obtain⟨j,a,b,rfl,hj,k⟩:=h;rw[abY j hj] at k;refine .i (ao (gj (rb lp (pv 0) aJ) (aH (bz (sZ (ak (pv 1) (ak (aX gw (pv 2) (pv 1)) ax))))) cQ)
   (ao (gj (rb lp (pv 0) aJ) (aH (bz (sZ (ak (aX gw (pv 1) (pv 2)) (ak (pv 2) ax))))) cQ)
   (ao (gj (rb lp (pv 0) aJ) (aH (bz (sZ (ak (aX jJ (aX dz (pv 1) (pv 2)) aJ) (ak (aX gw (pv 1) (pv 2)) ax))))) cQ)
   (aH (bz (sZ (ak (pv 1) (ak (pv 2) ax)))))))) ?_
 refine⟨_,Z,Z,_,Z,?_⟩;rw[n_];by_cases h1:j=1
 .rw[ag (by lia)];rw[aj h1] at k;exact eY ⟨_,Z,_,Z,_,Z,_,_,Z,Z,qI rfl k⟩
 .rw[ae (by lia)];rw[ah h1] at k;refine fK ⟨_,Z,Z,_,Z,?_⟩;rw[n_];by_cases h2:j=2
  .rw[ag (by lia)];rw[aj h2] at k;exact eY ⟨_,Z,_,Z,_,_,Z,Z,_,Z,qI rfl k⟩
  .rw[ae (by lia)];rw[ah h2] at k;refine fK ⟨_,Z,Z,_,Z,?_⟩;rw[n_];by_cases h3:j=3
   .rw[ag (by lia)];rw[aj h3] at k;exact eY ⟨_,Z,_,Z,_,_,Z,Z,_,_,Z,Z,⟨by decide,by decide⟩,_,Z,_,Z,_,_,Z,Z,qI rfl k⟩
   .rw[ae (by lia)];rw[ah h3] at k;exact fK ⟨_,Z,_,Z,qI rfl k⟩
def Nh:T.qA.Ok P w mg rZ jf 1 (Ss zE):=by
 refine T.qA.ok λnd H vs Q E hr h=>?_;obtain⟨j,a,b,rfl,hj,k⟩:=h;rw[V9 j hj] at k;refine .i (ao (gj (rb lp (pv 0) aJ) (aH (bz (sZ (ak (pv 1) (ak (aX dz (pv 2) (pv 1)) ax))))) cQ)
   (ao (gj (rb lp (pv 0) aJ) (aH (bz (sZ (ak (aX dz (pv 1) (pv 2)) (ak (pv 2) ax))))) cQ)
   (ao (gj (rb lp (pv 0) aJ) (ao (fL 3 nd (aX dz (aX fQ aJ (pv 1)) (aX pX (pv 2) aJ)))
   (aH (bz (sZ (ak (aX jJ (aX dz (pv 3) (pv 2)) aJ) (ak (aX jJ (aX gw (pv 3) (pv 2)) aJ) ax)))))) cQ)
   (aH (bz (sZ (ak (pv 1) (ak (pv 2) ax)))))))) ?_
 refine⟨_,Z,Z,_,Z,?_⟩;rw[n_];by_cases h1:j=1
 .rw[ag (by lia)];rw[aj h1] at k;exact eY ⟨_,Z,_,Z,_,Z,_,_,Z,Z,qI rfl k⟩
 .rw[ae (by lia)];rw[ah h1] at k;refine fK ⟨_,Z,Z,_,Z,?_⟩;rw[n_];by_cases h2:j=2
  .rw[ag (by lia)];rw[aj h2] at k;exact eY ⟨_,Z,_,Z,_,_,Z,Z,_,Z,qI rfl k⟩
  .rw[ae (by lia)];rw[ah h2] at k;refine fK ⟨_,Z,Z,_,Z,?_⟩;rw[n_];by_cases h3:j=3
   .rw[ag (by lia)];rw[aj h3] at k;refine eY ⟨_,Z,_,_,Z,Z,.inl ⟨by decide,by decide⟩,_,Z,_,_,Z,Z,(by show(0:Int)<2;decide),_,_,Z,Z,?_⟩;refine⟨_,Z,_,Z,_,_,Z,Z,_,_,Z,Z,⟨by decide,by decide⟩,_,Z,_,Z,_,_,Z,Z,_,_,Z,Z,⟨by decide,by decide⟩,qI rfl k⟩
   .rw[ae (by lia)];rw[ah h3] at k;exact fK ⟨_,Z,_,Z,qI rfl k⟩
def vp (F N:Hp):Hp:=λb=>if(F b).isSome=true then F b else N b
def Fm:aC F (vp F N):=λb o e=>by unfold vp;rw[e];rfl
def ZZ (h:aC F H):aC (nw H H') (vp F (nw H H')):=λb o e=>by
 unfold vp;have:=h.free (aT.mp e).1;rw[this];exact e
def JC (h:aC F H)(h':aC N H):aC (vp F N) H:=λb o e=>by
 unfold vp at e;split at e
 .exact h _ _ e
 .exact h' _ _ e
def JD {N':Hp}(h:aC N N'):aC (vp F N) (vp F N'):=λb o e=>by
 unfold vp at e|-
 split at e
 .rename_i q;rw[aj q];exact e
 .rename_i q;rw[ah q];exact h _ _ e
theorem Bl {α β:Type}{F:α->β->Prop}{x:α}{v:β}(h:F x v):∀{l:List α} {m:List β} (i:Nat),Paired F l m->Paired F (l.set i x) (m.set i v)
 |_,_,_,.nil=>.nil
 |_,_,0,.cons _ r=>.cons h r
 |_,_,i+1,.cons q r=>.cons q (Bl h i r)
def qo {j:Nat}{i:Int}(hi:i=(j:Int))(h:j<n):ixN n i=some j:=by
 subst hi;unfold ixN;rw[aj (by lia),aj (by lia)];simp
inductive Um (K:au)(f:lQ)(g:Nat->Int->Int->Int×Int)(vs:b_)(H:Hp)(Q:VK)(E:XK):Prop|i(ra ja:lQ)(xs:ly)(kT:b_)(js:ie)(F:Hp)(n:Nat)(_:vs=[.ref ra,.ref ja,.ref f])(_:aC F H)(_:H ra=some (.lst kT))(_:Paired (λx v=>IsL x v F) xs kT)(_:H ja=some (.lst ((nI js).map V.int)))(_:∀j∈js,j<=3)(_:xs.length<=4)(_:js.length=xs.length / 2)(_:∀x∈xs,x.length=n)(_:n<=64)(_:∀H' p NM,aC H H'->H' p=some (.lst NM)->H p=none->Paired (λx v=>IsL x v (vp F (nw H H'))) (ki g js xs) NM->Q (.ref p) H')
def tY (T:Txt K mg t){f:lQ}{ps:mX}{g:Nat->Int->Int->Int×Int}(F:lx P w K mg rZ jf 1 f fd ps (Ss g))(hk:il K (.ref f)=true)(hb:Binds K fd ps []):
  T.kY.Ok P w mg rZ jf 2 (Um K f g):=by
 refine T.kY.ok λnd H vs Q E hr h=>?_;obtain⟨ra,ja,xs,kT,js,F0,n,rfl,hF,qm,pr,Qz,j3,x4,jl,xn,CD,k⟩:=h;refine .i (ao (fL 3 nd (sk mD rfl T.D8 Gu (ak (pv 0) ax)))
   (ao (gX PassesOwn.never rfl (GN rfl T.tW (ak (pv 1) ax)) (yG rfl (fj (mv 4 nd) (fj (mv 5 nd) ph)))
    (ao (psc 6 [("a",7),("b",8)] nd (Bm rfl T.IJ (ak (JV (pv 0) (aX fQ aJ (pv 4))) (ak (JV (pv 0) (aX dz (aX fQ aJ (pv 4)) aJ)) ax))) (GL (K:=K) (n:=2) rfl rfl (fj (mv 7 nd) (fj (mv 8 nd) ph)) rfl rfl) (PR (pv 2) F (hr.mono (by decide)) hk hb .nil bG (ak (pv 5) (ak (pv 7) (ak (pv 8) ax)))))
   (ao (yJ (GO [("two",9)] nd (fB (pv 6)) (mv 9 nd) (wX (r:=Sb K) D1 (pv 9) aJ (λ_ _=>rfl))) (yF (pv 3) (aX fQ aJ (pv 4)) set_list))
   (aH (yJ (GO [("two",9)] nd (fB (pv 6)) (mv 9 nd) (wX (r:=Sb K) D1 (pv 9) aJ (λ_ _=>rfl))) (yF (pv 3) (aX dz (aX fQ aJ (pv 4)) aJ) set_list))))))
   (aH (bz (pv 3))))) ?_
 have rl:xs.length=kT.length:=dR pr;refine⟨_,Z,ra,_,Z,i3 qm,λC nC=>?_⟩;have s0:aC H (upd H C (.lst kT)):=aC.upd nC;refine⟨_,Z,ja,_,Z,i2 (s0 _ _ Qz),?_⟩;refine Cr (xs:=(nI js).map V.int) (λi σ H'=>X7 λy1 y2 y3 y4 y5 y6 Xw=>C4 (σ=[some (.ref ra),some (.ref ja),some (.ref f),some (.ref C),y1,y2,y3,y4,y5,y6]) (aC H H') (H' C=some (.lst Xw)) (Paired (λx v=>IsL x v (vp F0 (nw (upd H C (.lst kT)) H'))) (ki g (js.take i) xs) Xw))
  ⟨none,none,none,none,none,none,kT,Z,s0,aq,?_⟩ (λi σ H' _ ⟨_,_,_,_,_,_,_,_,sm,_,_⟩=>i2 (sm _ _ Qz)) ?_ ?_
 .rw[NT,o7];exact Paired.lR pr λx v z=>z.same Fm
 .rintro i σ H' x Tt hi ⟨y1,y2,y3,y4,y5,y6,Xw,rfl,sm,eC,pc⟩ hx nT;have Ij:i<js.length:=by simpa using hi
  have hj:js[i]? =some (js[i]'Ij):=aD Ij;obtain⟨j,hj'⟩:∃j,js[i]'Ij=j:=⟨_,Z⟩;rw[hj'] at hj;have ex:x=V.int (j:Int):=by
   rw[aw,aw,hj] at hx;exact(bh hx).symm
  subst ex;have JU:2*i<xs.length:=by lia
  have Yq:2*i+1<xs.length:=by lia
  obtain⟨a,ha⟩:∃a,xs[2*i]? =some a:=⟨_,aD JU⟩;obtain⟨b,BE⟩:∃b,xs[2*i+1]? =some b:=⟨_,aD Yq⟩;have la:a.length=n:=xn a (az ha);have lb:b.length=n:=xn b (az BE);obtain⟨va,hva,pa,rfl,Yi⟩:=zh pr ha;obtain⟨vb,hvb,pb,rfl,hpb⟩:=zh pr BE;have s1:aC H (upd H' Tt (.tup [V.int (i:Nat),V.int (j:Int)])):=sm.trans (aC.upd nT);have ile:i<=2:=by lia
  refine⟨Tt,_,Z,i2 aq,Z,_,_,Z,_,_,Z,Z,?_⟩;refine⟨_,Z,_,Z,_,_,Z,Z,.inl ⟨by decide,by decide⟩,ra,_,_,_,Z,Z,i2 (s1 _ _ qm),at_of (j:=2*i) (by lia) hva,?_⟩;refine⟨_,Z,_,Z,_,_,Z,Z,.inl ⟨by decide,by decide⟩,_,_,Z,Z,ra,_,_,_,Z,Z,i2 (s1 _ _ qm),at_of (j:=2*i+1) (by lia) hvb,?_⟩;refine⟨pa,pb,_,_,Z,i2 (s1 _ _ (hF _ _ Yi)),i2 (s1 _ _ (hF _ _ hpb)),λD hD=>?_⟩;have eC1:upd H' Tt (.tup [V.int (i:Nat),V.int (j:Int)]) C=some (.lst Xw):=by rw[aF (aI eC nT)];exact eC
  refine M7 (J:=Itz K pa pb) (dO (g j) a b) isP (λx v H H' h m=>h.same m) hD (by rw[aE];simp;lia) (λH2 pK=>⟨_,_,i2 (pK _ _ (s1 _ _ (hF _ _ Yi))),i2 (pK _ _ (s1 _ _ (hF _ _ hpb))),.inl (by simp;lia)⟩)
   (λq H2 hq pK=>⟨a.map V.int,b.map V.int,_,_,i2 (pK _ _ (s1 _ _ (hF _ _ Yi))),i2 (pK _ _ (s1 _ _ (hF _ _ hpb))),aD (by simp at hq|-;lia),aD (by simp at hq|-;lia)⟩)
   (λq z v H2 H3 Q2 hz pK ⟨T2,u1,u2,e1,e2,e3,e4,e5⟩ k2=>?_) λH2 ys pK eD pD=>?_
  .subst e1 e3;have e4:=e4 _ (i2 (pK _ _ (s1 _ _ (hF _ _ Yi))));have e5:=e5 _ (i2 (pK _ _ (s1 _ _ (hF _ _ hpb))));rw[aw] at e4 e5;cases qa:a[q]? with
   |none=>rw[qa] at e4;cases e4
   |some a1=>
    cases qb:b[q]? with
    |none=>rw[qb] at e5;cases e5
    |some b1=>
     rw[qa] at e4;rw[qb] at e5;cases e4;cases e5;have ez:z=g j a1 b1:=by
      rw[qV,qa,qb] at hz;exact(bh hz).symm
     subst ez;refine⟨T2,_,Z,i2 aq,Z,_,_,Z,_,_,Z,Z,Z,_,Z,Z,_,Z,_,Z,_,Z,j,a1,b1,Z,j3 j (az hj),λv H4 s4 hv=>?_⟩;exact k2 v H4 ((aC.upd e2).trans s4) (hv.same (o9 (aC.upd e2)))
  .have ot:ys.length=n:=by rw[<-dR pD];simp;lia
   have eC2:=pK _ _ eC1;have nDC:D≠C:=bZ eC1 hD;refine⟨_,Z,D,Z,⟨_,i2 eD⟩,λD2 nD2=>?_⟩;refine nt (ys:=(Jg g j a b).map V.int) nD2 (by rw[aE];simp[Jg];lia) (i2 eD) (by simp[Jg,ot];lia) (λq u y H3 Q3 hu hy AA k3=>?_) λH3 e3 AA=>?_
   .obtain⟨z,hz,p1,rfl,QA⟩:=iR pD hu;have ey:y=V.int z.1:=by
     unfold Jg at hy;rw[aw,aw,hz] at hy;exact(bh hy).symm
    subst ey;exact⟨Z,_,Z,p1,_,_,_,Z,Z,i2 (AA _ _ (iK _ _ QA)),Z,k3 _ (aC.refl _)⟩
   .have eC3:=AA _ _ eC2;refine⟨_,Z,_,Z,_,_,Z,Z,.inl ⟨by decide,by decide⟩,C,Xw,_,2*i,Z,Z,eC3,qo (by lia) (by rw[<-dR pc,gG];lia),?_⟩;have c4:∀b o,H3 b=some o->b≠C->upd H3 C (.lst (Xw.set (2*i) (.ref D2))) b=some o:=λb o e nb=>by rw[aF nb];exact e
    have eD4:=c4 _ _ (AA _ _ eD) nDC;refine⟨_,Z,D,Z,⟨_,i2 eD4⟩,λD3 nD3=>?_⟩;have eC4:upd H3 C (.lst (Xw.set (2*i) (.ref D2))) C=some (.lst (Xw.set (2*i) (.ref D2))):=aq;refine nt (ys:=(Jh g j a b).map V.int) nD3 (by rw[aE];simp[Jh];lia) (i2 eD4) (by simp[Jh,ot];lia) (λq u y H5 Q5 hu hy NC k5=>?_) λH5 e5 NC=>?_
    .obtain⟨z,hz,p1,rfl,QA⟩:=iR pD hu;have ey:y=V.int z.2:=by
      unfold Jh at hy;rw[aw,aw,hz] at hy;exact(bh hy).symm
     subst ey;have np:p1≠C:=bZ eC1 ((aT.mp QA).1);exact⟨Z,_,Z,p1,_,_,_,Z,Z,i2 (NC _ _ (c4 _ _ (AA _ _ (iK _ _ QA)) np)),Z,k5 _ (aC.refl _)⟩
    .have eC5:=NC _ _ eC4;refine⟨_,Z,_,Z,_,_,Z,Z,.inl ⟨by decide,by decide⟩,_,_,Z,Z,C,_,_,2*i+1,Z,Z,eC5,qo (by lia) (by rw[fc,<-dR pc,gG];lia),?_⟩;have afX:D2≠C:=bZ eC2 nD2;have ajQ:D3≠C:=bZ eC4 nD3;have aip:∀x o,H' x=some o->x≠C->upd H5 C (.lst ((Xw.set (2*i) (.ref D2)).set (2*i+1) (.ref D3))) x=some o:=λx o e nx=>by
      rw[aF nx];exact NC _ _ (c4 _ _ (AA _ _ (pK _ _ (by rw[aF (aI e nT)];exact e))) nx)
     have fr2:H D2=none:=by
      have:=pK.free nD2;exact sm.free (bO this).2
     have fr3:H D3=none:=by
      have h0:=(bO nD3).2;have:=pK.free (AA.free h0);exact sm.free (bO this).2
     have n2:upd H C (.lst kT) D2=none:=by rw[aF afX];exact fr2
     have n3:upd H C (.lst kT) D3=none:=by rw[aF ajQ];exact fr3
     refine⟨_,_,_,_,_,_,_,Z,λx o e=>aip x o (sm _ _ e) (aI e nC),aq,?_⟩;rw[Ap g js xs i j a b hj ha BE (by lia)];have hF1:aC F0 (upd H C (.lst kT)):=hF.trans s0;refine Bl ?_ _ (Bl ?_ _ (Paired.lR pc λx v z=>z.same (JD λb o e=>?_)))
     .refine⟨D3,Z,ZZ hF1 _ _ (aT.mpr ⟨n3,?_⟩)⟩;rw[aF ajQ];exact e5
     .refine⟨D2,Z,ZZ hF1 _ _ (aT.mpr ⟨n2,?_⟩)⟩;rw[aF afX];exact NC _ _ (c4 _ _ e3 afX)
     .obtain⟨z1,z2⟩:=aT.mp e;exact aT.mpr ⟨z1,aip _ _ z2 (bO z1).1⟩
 .rintro σ H' ⟨y1,y2,y3,y4,y5,y6,Xw,rfl,sm,eC,pc⟩;rw[aB,aB,gk] at pc;refine⟨_,Z,k H' C Xw sm eC nC (Paired.lR pc λx v z=>z.same (JD (qt λb hb=>(bO hb).2)))⟩
def am4 (t:fP)(b:Bool):lQ:=if b=true then t.yh else t.yj
def air (b:Bool):Nat->Int->Int->Int×Int:=if b=true then sJ else zE
def vh:T.kY.Ok P w mg rZ jf 2 (λvs H Q E=>∃b:Bool,True/\Um K (am4 t b) (air b) vs H Q E):=by
 refine lx.exP λb _=>?_;cases b with
 |true=>exact tY T (Ng T) T.qy.F.kp T.qy.b
 |false=>exact tY T (Nh T) T.qA.F.kp T.qA.b
end
open PySem PySem.Spec PyProof.Rows L2 Mx
def fw (G H H':Hp):Prop:=∀b o,H b=some o->G b=none->H' b=some o
def grow (G H H':Hp):Hp:=λb=>if(G b).isSome=true\/H b=none then H' b else none
def bC {b:lQ}:grow G H H' b=some o↔((G b).isSome=true\/H b=none)/\H' b=some o:=by
 unfold grow;split
 .rename_i h;simp[h]
 .rename_i h;simp[h]
def cj:aC (grow G H H') H':=λb o e=>(bC.mp e).2
def isS {α:Type}{x:Option α}:x.isSome=true↔x≠none:=by cases x<;>simp
def cS {b:lQ}(h:H b=some o)(g:G b=none):grow G H H' b=none:=by
 cases e:grow G H H' b with
 |none=>rfl
 |some u=>
  rcases(bC.mp e).1 with z|z
  .rw[g] at z;cases z
  .rw[h] at z;cases z
def fw.refl:fw G H H:=λ_ _ e _=>e
def fw.same (h:aC H H'):fw G H H':=λb o e _=>h b o e
def fw.trans (a:fw G H H1)(b:fw (grow G H H1) H1 H2):fw G H H2:=λx o e n=>b x o (a x o e n) (cS e n)
def fw.dom (a:fw G H H'){b:lQ}(h:H' b=none):(G b).isSome=true\/H b=none:=by
 cases e:H b with
 |none=>exact .inr rfl
 |some o=>
  refine .inl (isS.mpr λg=>?_);rw[a b o e g] at h;cases h
def og (a:fw G H H1):aC (grow (grow G H H1) H1 H2) (grow G H H2):=λb o e=>by
 obtain⟨z1,z2⟩:=bC.mp e;refine bC.mpr ⟨?_,z2⟩;rcases z1 with z|z
 .obtain⟨u,hu⟩:=cX.mp z;exact(bC.mp hu).1
 .exact a.dom z
def y_ (h:aC G H):aC G (grow G H H):=λb o e=>bC.mpr ⟨.inl (by rw[e];rfl),h _ _ e⟩
def Vo (s:aC H1 H2):aC (grow G H H1) (grow G H H2):=λb o e=>by
 obtain⟨z1,z2⟩:=bC.mp e;exact bC.mpr ⟨z1,s _ _ z2⟩
def fw.other (k:fw G H H')(h:aC F H)(a:Apart F G):aC F H':=λb o e=>k b o (h b o e) ((a b).resolve_left (by rw[e];simp))
def gU (h:aC F H)(a:Apart F G):Apart F (grow G H H'):=λb=>by
 cases e:F b with
 |none=>exact .inl rfl
 |some o=>exact .inr (cS (h b o e) ((a b).resolve_left (by rw[e];simp)))
def Apart.le (a:Apart F G)(h:aC G' G):Apart F G':=λb=>by
 rcases a b with z|z
 .exact .inl z
 .exact .inr (h.free z)
structure GZ (G0 H0 H:Hp)(Gs:Nat->Hp):Prop where
 keep:fw G0 H0 H
 sub:∀i,aC (Gs i) (grow G0 H0 H)
 ap:∀i j,i≠j->Apart (Gs i) (Gs j)
def setG (Gs:Nat->Hp)(i:Nat)(G:Hp):Nat->Hp:=λj=>if j=i then G else Gs j
def gy:setG Gs i G i=G:=by unfold setG;rw[aj rfl]
def f6 {j:Nat}(h:j≠i):setG Gs i G j=Gs j:=by unfold setG;rw[ah h]
def GZ.le (f:GZ G0 H0 H Gs)(i:Nat):aC (Gs i) H:=(f.sub i).trans cj
def GZ.step (f:GZ G0 H0 H Gs)(i:Nat)(k:fw (Gs i) H H'):GZ G0 H0 H' (setG Gs i (grow (Gs i) H H')):=by
 refine⟨λb o e n=>k b o (f.keep b o e n) ((f.sub i).free (cS e n)),λj b o e=>?_,λp q Yl=>?_⟩
 .by_cases h:j=i
  .subst h;rw[gy] at e;obtain⟨z1,z2⟩:=bC.mp e;refine bC.mpr ⟨?_,z2⟩;rcases z1 with z|z
   .obtain⟨u,hu⟩:=cX.mp z;exact(bC.mp (f.sub j _ _ hu)).1
   .exact f.keep.dom z
  .rw[f6 h] at e;obtain⟨z1,z2⟩:=bC.mp (f.sub j _ _ e);exact bC.mpr ⟨z1,k b o z2 ((f.ap j i h b).resolve_left (by rw[e];simp))⟩
 .have one:∀q,q≠i->Apart (Gs q) (grow (Gs i) H H'):=λq hq=>gU (f.le q) (f.ap q i hq);by_cases hp:p=i
  .subst hp;rw[gy,f6 (eP Yl)];exact(one q (eP Yl)).symm
  .rw[f6 hp];by_cases hq:q=i
   .subst hq;rw[gy];exact one p hp
   .rw[f6 hq];exact f.ap p q Yl
def GZ.grown (f:GZ G0 H0 H Gs)(s:aC H H'):GZ G0 H0 H' Gs:=
 ⟨λb o e n=>s _ _ (f.keep b o e n),λi=>(f.sub i).trans (Vo s),f.ap⟩
def GZ.side (f:GZ G0 H0 H Gs)(c:dE S H H')(h0:∀a∈S,(G0 a).isSome=true\/H0 a=none)(hs:∀a∈S,∀i,Gs i a=none):GZ G0 H0 H' Gs:=
 ⟨λb o e n=>c b o (f.keep b o e n) λm=>by rcases h0 b m with z|z;(rw[n] at z;cases z);(rw[e] at z;cases z),λi b o e=>by
  obtain⟨z1,z2⟩:=bC.mp (f.sub i _ _ e);exact bC.mpr ⟨z1,c b o z2 λm=>by rw[hs b m i] at e;cases e⟩,f.ap⟩
def fU {b:lQ}(c:dE [x] H H')(hx:H' x=some o)(h:H' b=none):H b=none:=by
 cases e:H b with
 |none=>rfl
 |some u=>
  by_cases m:b=x
  .subst m;rw[hx] at h;cases h
  .rw[c.one e m] at h;cases h
section
variable{P:bJ}{w:cA}{K:au}{mg:sM}{rZ:Heap}{t:fP}(T:Txt K mg t)
def Xu (xs:b_):qY xs none (some (-1))=xs.dropLast:=by
 unfold qY;rw[HT.Jt,iD,uq,UH];congr 1;show(if(-1:Int)<0 then((-1:Int)+(xs.length:Int)).toNat else min (-1:Int).toNat xs.length)=_;rw[aj (by decide),UC];exact xg xs.length 1
abbrev iL (l:bX):HO:=.lst (l.map V.int)
inductive Of (t:fP)(F G:Hp)(s:eO)(l:pI)(v:V):Prop|i a dx sv wa pa(_:v=.ref a)(_:G a=some (.ins t.bE dx [("stage",sv),("weights",.ref wa),("past",.ref pa)]))(_:StA t s sv F)(_:G wa=some (iL l.w))(_:G pa=some (iL l.h))
def Of.same {l:pI}(h:Of t F G s l v)(f:aC F F')(g:aC G G'):Of t F' G' s l v:=by
 obtain⟨a,dx,sv,wa,pa,e,h1,h2,h3,h4⟩:=h;exact⟨a,dx,sv,wa,pa,e,g _ _ h1,h2.same f,g _ _ h3,g _ _ h4⟩
inductive aej (t:fP)(vs:b_)(H:Hp)(Q:VK)(E:XK):Prop|i x dx sv s(_:vs=[.ref x,sv])(_:H x=some (.ins t.bE dx []))(_:StA t s sv H)(_:s.taps<=16)(_:∀H' wa pa,dE [x] H H'->H' x=some (.ins t.bE dx [("stage",sv),("weights",.ref wa),("past",.ref pa)])->H' wa=some (iL (aM s.taps 0))->H' pa=some (iL (aM s.taps 0))->H wa=none->H pa=none->Q .gQ H')
def Jq (n:Nat):(aM ((n:Int)).toNat [V.int 0]).flatten=(aM n (0:Int)).map V.int:=by
 rw[bF,aap];induction n with
 |zero=>rfl
 |succ n ih=>rw[fN,jX,ih,fN];rfl
def rE:T.kH.Ok P w mg rZ jf 1 (aej t):=by
 refine T.kH.ok λnd H vs Q E hr h=>?_;obtain⟨x,dx,sv,s,rfl,hx,⟨sa,ds,rfl,hs⟩,h16,k⟩:=h;refine .i (ao (kh (pv 0) (pv 1))
   (ao (kh (pv 0) (aX Ef (eE (ak aJ ax)) (cO (pv 1))))
   (aH (kh (pv 0) (aX Ef (eE (ak aJ ax)) (cO (pv 1))))))) ?_
 have nsx:sa≠x:=g_ hs hx (by intro z;injection z with _ _ z;cases z);refine⟨_,Z,_,Z,Z,hx,T.bM,Z,Z,tH [("stage",.ref sa)],?_⟩;have c1:dE [x] H (upd H x (.ins t.bE dx [("stage",.ref sa)])):=dE.refl.d_ (by simp);have x1:upd H x (.ins t.bE dx [("stage",.ref sa)]) x=some (.ins t.bE dx [("stage",.ref sa)]):=aq;generalize upd H x (.ins t.bE dx [("stage",.ref sa)])=H1 at c1 x1|-
 refine⟨by rw[aE];simp,λp1 n1=>?_⟩;have s1:aC H1 (upd H1 p1 (.lst [.int 0])):=aC.upd n1;refine⟨_,Z,Z,s1 _ _ (c1.one hs nsx),T.iq,Z,Z,p1,_,_,Z,Z,aq,by lia,by lia,by rw[aE];simp;lia,λwa n2=>?_⟩;rw[Jq];have s2:aC H1 (upd (upd H1 p1 (.lst [.int 0])) wa (iL (aM s.taps 0))):=s1.trans (aC.upd n2);have w2:upd (upd H1 p1 (.lst [.int 0])) wa (iL (aM s.taps 0)) wa=some (iL (aM s.taps 0)):=aq;have nw2:H wa=none:=fU c1 x1 (s1.free n2);have nwx:wa≠x:=bZ hx nw2;generalize upd (upd H1 p1 (.lst [.int 0])) wa (iL (aM s.taps 0))=H2 at s2 w2|-
 refine⟨_,Z,Z,s2 _ _ x1,T.bM,Z,Z,tH [("stage",.ref sa),("weights",.ref wa)],?_⟩;have c3:dE [x] H (upd H2 x (.ins t.bE dx [("stage",.ref sa),("weights",.ref wa)])):=(c1.trans s2.chg).d_ (by simp);have x3:upd H2 x (.ins t.bE dx [("stage",.ref sa),("weights",.ref wa)]) x=some (.ins t.bE dx [("stage",.ref sa),("weights",.ref wa)]):=aq;have w3:upd H2 x (.ins t.bE dx [("stage",.ref sa),("weights",.ref wa)]) wa=some (iL (aM s.taps 0)):=by rw[aF nwx];exact w2
 generalize upd H2 x (.ins t.bE dx [("stage",.ref sa),("weights",.ref wa)])=H3 at c3 x3 w3|-
 refine⟨by rw[aE];simp,λp3 n3=>?_⟩;have s3:aC H3 (upd H3 p3 (.lst [.int 0])):=aC.upd n3;refine⟨_,Z,Z,s3 _ _ (c3.one hs nsx),T.iq,Z,Z,p3,_,_,Z,Z,aq,by lia,by lia,by rw[aE];simp;lia,λpa n4=>?_⟩;rw[Jq];have s4:aC H3 (upd (upd H3 p3 (.lst [.int 0])) pa (iL (aM s.taps 0))):=s3.trans (aC.upd n4);have np2:H pa=none:=fU c3 x3 (s3.free n4);have npx:pa≠x:=bZ hx np2;refine⟨_,Z,Z,s4 _ _ x3,T.bM,Z,Z,tH [("stage",.ref sa),("weights",.ref wa),("past",.ref pa)],?_⟩;exact k _ wa pa ((c3.trans s4.chg).d_ (by simp)) aq (by rw[aF nwx];exact s4 _ _ w3) (by rw[aF npx,aq]) nw2 np2
def Uj {sv:V}(hF:aC F H)(hs:StA t s sv F)(h16:s.taps<=16)(n1:H x=none)(n2:H dx=none)(k:∀H',aC H H'->Of t F (nw H H') s (uM s) (.ref x)->Q .gQ H'):
  aej t [.ref x,sv] (upd (upd H dx (.own x)) x (.ins t.bE dx [])) Q E:=by
 have s1:aC H (upd (upd H dx (.own x)) x (.ins t.bE dx [])):=gA n1 n2;exact⟨x,dx,sv,s,Z,aq,hs.same (hF.trans s1),h16,λH' wa pa c hx hw hp nw1 np1=>k _ (dE.back s1 c (by intro y hy;rw[show y=x from by simpa using hy];exact n1)) ⟨x,dx,sv,wa,pa,Z,aT.mpr ⟨n1,hx⟩,hs,aT.mpr ⟨s1.free nw1,hw⟩,aT.mpr ⟨s1.free np1,hp⟩⟩⟩
def Xb (s:eO)(l:pI):Prop:=iw s/\xM s l
inductive agp (t:fP)(vs:b_)(H:Hp)(Q:VK)(E:XK):Prop|i v s l(_:vs=[v])(_:Of t H H s l v)(_:Xb s l)(_:∀H',aC H H'->Q (.int (ff s l)) H')
def D6 (s:eO):decide (V.int (Mx.kindOf s)=V.int 1)=s.wide:=by
 rw[n_];cases h:s.wide<;>simp[Mx.kindOf,h]
def ox:T.iM.Ok P w mg rZ jf 1 (agp t):=by
 refine T.iM.ok λnd H vs Q E hr h=>?_;obtain⟨v,s,l,rfl,⟨a,dx,sv,wa,pa,rfl,ha,⟨sa,ds,rfl,hs⟩,hw,hp⟩,⟨sg,so⟩,k⟩:=h;rw[EI so] at k;refine .i (ao (fL 1 nd (gO (Ml rfl) rfl T.TZ aev (ak (GO [("w",2),("h",3)] nd (Bm rfl T.IJ (ak (cO (pv 0)) (ak (cO (pv 0)) ax))) (GL (K:=K) (n:=2) rfl rfl (fj (mv 2 nd) (fj (mv 3 nd) ph)) rfl rfl) (aX fQ (pv 2) (pv 3))) ax)))
   (ao (gj (rb lp (cO (cO (pv 0))) (fF T.Iw)) (aH (bz (aX jJ (aX dz (pv 1) aJ) aJ))) cQ)
   (aH (bz (aX jJ (aX dz (aX uF (pv 1) (cO (cO (pv 0)))) aJ) aJ))))) ?_
 have hl:l.w.length=l.h.length:=by rw[so.wl,so.hl]
 have mw:=u_ s;have mh:=zf s;have t16:=sg.2.1;refine⟨_,Z,Z,ha,T.bM,Z,Z,_,Z,Z,ha,T.bM,Z,Z,wa,pa,_,_,Z,i2 hw,i2 hp,λD hD=>?_⟩;refine M6 (ys:=(dO (λx y=>x*y) l.w l.h).map V.int) hD (by rw[aE];simp;have:=so.wl;lia) (i2 hw) (i2 hp) (by simp;lia) (by simp;lia) (λi x z y Tt H2 Q2 hx hz hy sm nT k2=>?_) λH2 e2 pK=>?_
 .rw[aw] at hx hz;rw[aw,qV] at hy;cases qa:l.w[i]? with
  |none=>rw[qa] at hx;cases hx
  |some x1=>
   cases qb:l.h[i]? with
   |none=>rw[qb] at hz;cases hz
   |some z1=>
    rw[qa] at hx hy;rw[qb] at hz hy;cases hx;cases hz;cases hy;have b1:=so.wb x1 (az qa);exact⟨Tt,_,Z,i2 aq,Z,_,_,Z,_,_,Z,Z,Z,_,Z,_,Z,_,_,Z,Z,.inl ⟨by lia,by lia⟩,k2 _ (aC.refl _)⟩
 .refine⟨D,_,Z,i2 e2,_,Z,Z,pK _ _ ha,T.bM,Z,Z,Z,pK _ _ hs,T.iq,Z,Z,Z,_,Z,?_⟩;rw[D6];have hd:=MC (B:=ow s) (C:=mH s) mw.1 mh.1 so.wb so.hb;unfold sQ at hd k;have k':=k H2 pK;cases hq:s.wide with
  |true=>
   rw[hq,aj rfl] at k';exact eY ⟨_,Z,_,_,Z,Z,_,_,Z,Z,⟨by decide,by decide⟩,k'⟩
  |false=>
   rw[hq,ah (by decide)] at k';have lim:(dO (λ(a b:Int)=>a*b) l.w l.h).sum.natAbs<2^64:=by
    have h1:ow s*mH s<=1048576*1073741824:=BQ mw.2 mh.2 mh.1 (by decide);have h0:0<=ow s*mH s:=kZ mw.1 mh.1;have h2:(l.w.length:Int)*(ow s*mH s)<=16*(1048576*1073741824):=BQ (by have:=so.wl;lia) h1 h0 (by decide);lia
   refine fK ⟨_,Z,_,Z,Z,pK _ _ ha,T.bM,Z,Z,Z,pK _ _ hs,T.iq,Z,Z,_,_,Z,Z,⟨by lia,by have:=sg.2.2.2.2.1;lia,lim⟩,_,_,Z,Z,_,_,Z,Z,⟨by decide,by decide⟩,?_⟩;have e:((s.scale:Int)).toNat=s.scale:=bF _;rw[e];exact k'
inductive acC (t:fP)(vs:b_)(H:Hp)(Q:VK)(E:XK):Prop|i(v:V)(s:eO)(l:pI)(u x:Int)(F G:Hp)(_:vs=[v,.int u,.int x])(_:aC F H)(_:aC G H)(_:Apart F G)(_:Of t F G s l v)(_:Xb s l)(_:∀H',fw G H H'->Of t F (grow G H H') s (mB s l u x) v->Q .gQ H')
def qG:T.jW.Ok P w mg rZ jf 2 (acC t):=by
 refine T.jW.ok λnd H vs Q E hr h=>?_;obtain⟨v,s,l,u,x,F,G,rfl,sF,sG,ap,⟨a,dx,sv,wa,pa,rfl,ha,⟨sa,ds,rfl,hs⟩,hw,hp⟩,⟨sg,so⟩,k⟩:=h;refine .i (ao (fL 3 nd (aX fQ (ko T.SX (YS T) hr bG (ak (pv 2) ax)) (cO (cO (pv 0)))))
   (ao (fL 4 nd (qJ (rb lp (cO (cO (pv 0))) (fF T.Iw)) (fF T.Be) (fF T.Aq)))
   (ao (kh (pv 0) (GO [("w",6),("h",7)] nd (Bm rfl T.IJ (ak (cO (pv 0)) (ak (cO (pv 0)) ax))) (GL (K:=K) (n:=2) rfl rfl (fj (mv 6 nd) (fj (mv 7 nd) ph)) rfl rfl) (ko T.GW (Nf T) hr bG (ak (aX dz (pv 6) (aX fQ (pv 3) (ko T.SX (YS T) hr bG (ak (pv 7) ax)))) (ak (pv 4) ax)))))
   (ao (fL 5 nd (qJ (rb lp (cO (cO (pv 0))) (fF T.Iw)) (fF T.CB) (fF T.Aq)))
   (aH (kh (pv 0) (aX mP (eE (ak (ko T.GW (Nf T) hr bG (ak (aX sY (pv 1) (cO (cO (pv 0)))) (ak (pv 5) ax))) ax)) (psl (cO (pv 0)) GQ (qu (t5 pw aJ)))))))))) ?_
 have hl:l.w.length=l.h.length:=by rw[so.wl,so.hl]
 have mw:=u_ s;have mh:=zf s;have t16:=sg.2.1;have t1:=sg.1;have hsx:=Uk x;have g1:=sg.2.2.1;have g2:=sg.2.2.2.1;have HA:=sG _ _ ha;have HS:=sF _ _ hs;refine⟨_,Z,x,Z,_,Z,Z,HA,T.bM,Z,Z,Z,HS,T.iq,Z,Z,_,_,Z,Z,.inl ⟨by lia,by lia⟩,?_⟩;refine⟨_,Z,Z,HA,T.bM,Z,Z,Z,HS,T.iq,Z,Z,Z,_,Z,?_⟩;rw[D6];refine ajF ?_;have em:(if s.wide=true then V.int 1048576 else V.int 32767)=V.int (ow s):=by unfold ow;cases s.wide<;>rfl
 rw[em];refine⟨_,Z,Z,HA,T.bM,Z,Z,_,Z,Z,HA,T.bM,Z,Z,wa,pa,_,_,Z,i2 (sG _ _ hw),i2 (sG _ _ hp),λD hD=>?_⟩;refine M6 (ys:=(dO (λw h=>jM (w+zC x*(s.gain:Int)*zC h) (ow s)) l.w l.h).map V.int) hD (by rw[aE];simp;have:=so.wl;lia) (i2 (sG _ _ hw)) (i2 (sG _ _ hp)) (by simp;lia) (by simp;lia) (λi x z y Tt H2 Q2 hx hz hy sm nT k2=>?_) λH2 e2 pK=>?_
 .rw[aw] at hx hz;rw[aw,qV] at hy;cases qa:l.w[i]? with
  |none=>rw[qa] at hx;cases hx
  |some x1=>
   cases qb:l.h[i]? with
   |none=>rw[qb] at hz;cases hz
   |some z1=>
    rw[qa] at hx hy;rw[qb] at hz hy;cases hx;cases hz;cases hy;have hz1:=Uk z1;exact⟨Tt,_,Z,i2 aq,Z,_,_,Z,_,_,Z,Z,Z,_,Z,_,Z,_,Z,z1,Z,_,_,Z,Z,.inr ⟨by lia,by lia⟩,_,_,Z,Z,_,Z,_,_,Z,mw.1,k2 _ (aC.refl _)⟩
 .have SY:=pK _ _ HA;refine⟨_,Z,Z,SY,T.bM,Z,Z,tH [("stage",.ref sa),("weights",.ref D),("past",.ref pa)],?_⟩;have c3:dE [a] H (upd H2 a (.ins t.bE dx [("stage",.ref sa),("weights",.ref D),("past",.ref pa)])):=(pK.chg).d_ (by simp);have x3:upd H2 a (.ins t.bE dx [("stage",.ref sa),("weights",.ref D),("past",.ref pa)]) a=some (.ins t.bE dx [("stage",.ref sa),("weights",.ref D),("past",.ref pa)]):=aq;have nDa:D≠a:=bZ HA hD;have d3:upd H2 a (.ins t.bE dx [("stage",.ref sa),("weights",.ref D),("past",.ref pa)]) D=some (iL (dO (λw h=>jM (w+zC x*(s.gain:Int)*zC h) (ow s)) l.w l.h)):=by rw[aF nDa];exact e2
  generalize upd H2 a (.ins t.bE dx [("stage",.ref sa),("weights",.ref D),("past",.ref pa)])=H3 at c3 x3 d3|-
  have nsa:sa≠a:=g_ HS HA (by intro z;injection z with _ _ z;cases z);have npa:pa≠a:=g_ (sG _ _ hp) HA (by intro z;cases z);have WI:=c3.one HS nsa;have hp3:=c3.one (sG _ _ hp) npa;refine⟨_,Z,Z,x3,T.bM,Z,Z,Z,WI,T.iq,Z,Z,Z,_,Z,?_⟩;rw[D6];refine ajF ?_;have em:(if s.wide=true then V.int 1073741824 else V.int 32767)=V.int (mH s):=by unfold mH;cases s.wide<;>rfl
  rw[em];refine⟨_,Z,_,Z,Z,x3,T.bM,Z,Z,Z,WI,T.iq,Z,Z,_,_,Z,Z,(by show(0:Int)<=_;lia),_,Z,_,_,Z,mh.1,by rw[aE];simp,λp1 n1=>?_⟩;have s4:aC H3 (upd H3 p1 (.lst [.int (jM (u / 2^((s.scale:Int)).toNat) (mH s))])):=aC.upd n1;refine⟨_,Z,Z,s4 _ _ x3,T.bM,Z,Z,_,Z,_,Z,pa,_,Z,i2 (s4 _ _ hp3),λp2 n2=>?_⟩;have s5:=aC.upd (o:=.lst (qY (l.h.map V.int) none (some (-1)))) n2;have h1:=s5 _ _ (aq (H:=H3) (a:=p1));refine⟨p1,p2,_,_,Z,Z,h1,aq,by have:=ED (l.h.map V.int) none (some (-1));have:=so.hl;rw[aE];simp at*;lia,λp3 n3=>?_⟩;have s6:=(s4.trans s5).trans (aC.upd (o:=.lst ([V.int (jM (u / 2^((s.scale:Int)).toNat) (mH s))]++qY (l.h.map V.int) none (some (-1)))) n3);have e3:[V.int (jM (u / 2^((s.scale:Int)).toNat) (mH s))]++qY (l.h.map V.int) none (some (-1))=(mB s l u x).h.map V.int:=by
   rw[Lz so t1 (λz=>(sg.2.2.2.2.2 z).1),Xu,bF];simp[List.map_dropLast]
  rw[e3] at s6|-
  have nH3:H p3=none:=fU c3 x3 ((s4.trans s5).free n3);have apk:p3≠a:=bZ HA nH3;refine⟨_,Z,Z,s6 _ _ x3,T.bM,Z,Z,tH [("stage",.ref sa),("weights",.ref D),("past",.ref p3)],?_⟩;have cF:dE [a] H (upd (upd (upd (upd H3 p1 (.lst [.int (jM (u / 2^((s.scale:Int)).toNat) (mH s))])) p2 (.lst (qY (l.h.map V.int) none (some (-1))))) p3 (.lst ((mB s l u x).h.map V.int))) a (.ins t.bE dx [("stage",.ref sa),("weights",.ref D),("past",.ref p3)])):=(c3.trans s6.chg).d_ (by simp);refine k _ (λb o e n=>cF b o e (by intro m;rw[show b=a from by simpa using m,ha] at n;cases n)) ⟨a,dx,.ref sa,D,p3,Z,bC.mpr ⟨.inl (by rw[ha];rfl),aq⟩,⟨sa,ds,Z,hs⟩,bC.mpr ⟨.inr hD,?_⟩,bC.mpr ⟨.inr nH3,?_⟩⟩
  .rw[aF nDa];refine(s6 _ _ d3).trans ?_;rw[Lz so t1 (λz=>(sg.2.2.2.2.2 z).1)]
  .rw[aF apk,aq]
inductive akv (t:fP)(on:Bool)(vs:b_)(H:Hp)(Q:VK)(E:XK):Prop|i(v:V)(s:eO)(l:pI)(u:Int)(F G:Hp)(_:vs=[v,.int u])(_:aC F H)(_:aC G H)(_:Apart F G)(_:Of t F G s l v)(_:Xb s l)(_:∀H',fw G H H'->Of t F (grow G H H') s (if on=true then mB s l u (u-ff s l) else mB s l (u+ff s l) u) v->Q (.int (if on=true then u-ff s l else u+ff s l)) H')
def xq:T.lW.Ok P w mg rZ jf 3 (akv t true):=by
 refine T.lW.ok λnd H vs Q E hr h=>?_;obtain⟨v,s,l,u,F,G,rfl,sF,sG,ap,sf,sgo,k⟩:=h;obtain⟨a,dx,sv,wa,pa,rfl,ha,h2,h3,h4⟩:=id sf;refine .i (ao (fL 2 nd (aX gw (pv 1) (Fe (pv 0) T.bM T.iM (ox T) hr bG)))
   (ao (cP (qN (pv 0) T.bM T.jW (qG T) hr bG (ak (pv 1) (ak (pv 2) ax))))
   (aH (bz (pv 2))))) ?_
 refine⟨_,Z,_,Z,a,_,_,Z,sG _ _ ha,Z,_,s,l,Z,sf.same sF sG,sgo,λH1 s1=>?_⟩;refine⟨_,_,Z,Z,_,Z,a,_,_,Z,s1 _ _ (sG _ _ ha),Z,_,Z,_,Z,_,s,l,u,u-ff s l,F,G,Z,sF.trans s1,sG.trans s1,ap,sf,sgo,λH2 k2 sf2=>?_⟩;refine⟨_,Z,k H2 (λb o e n=>k2 b o (s1 _ _ e) n) (sf2.same (aC.refl _) λb o e=>?_)⟩;obtain⟨z1,z2⟩:=bC.mp e;exact bC.mpr ⟨z1.imp id s1.free,z2⟩
def vc:T.kC.Ok P w mg rZ jf 3 (akv t false):=by
 refine T.kC.ok λnd H vs Q E hr h=>?_;obtain⟨v,s,l,u,F,G,rfl,sF,sG,ap,sf,sgo,k⟩:=h;obtain⟨a,dx,sv,wa,pa,rfl,ha,h2,h3,h4⟩:=id sf;refine .i (ao (fL 2 nd (aX dz (pv 1) (Fe (pv 0) T.bM T.iM (ox T) hr bG)))
   (ao (cP (qN (pv 0) T.bM T.jW (qG T) hr bG (ak (pv 2) (ak (pv 1) ax))))
   (aH (bz (pv 2))))) ?_
 refine⟨_,Z,_,Z,a,_,_,Z,sG _ _ ha,Z,_,s,l,Z,sf.same sF sG,sgo,λH1 s1=>?_⟩;refine⟨_,_,Z,Z,_,Z,a,_,_,Z,s1 _ _ (sG _ _ ha),Z,_,Z,_,Z,_,s,l,u+ff s l,u,F,G,Z,sF.trans s1,sG.trans s1,ap,sf,sgo,λH2 k2 sf2=>?_⟩;refine⟨_,Z,k H2 (λb o e n=>k2 b o (s1 _ _ e) n) (sf2.same (aC.refl _) λb o e=>?_)⟩;obtain⟨z1,z2⟩:=bC.mp e;exact bC.mpr ⟨z1.imp id s1.free,z2⟩
inductive acR (t:fP)(vs:b_)(H:Hp)(Q:VK)(E:XK):Prop|i v s l F G(_:vs=[v])(_:aC F H)(_:aC G H)(_:Of t F G s l v)(_:Xb s l)(_:∀v' H',aC H H'->Of t F (nw H H') s l v'->Q v' H')
def zY:T.nY.Ok P w mg rZ jf 3 (acR t):=by
 refine T.nY.ok λnd H vs Q E hr h=>?_;obtain⟨v,s,l,F,G,rfl,sF,sG,⟨a,dx,sv,wa,pa,rfl,ha,uz,hw,hp⟩,⟨sg,so⟩,k⟩:=h;replace ha:=sG _ _ ha;replace hw:=sG _ _ hw;replace hp:=sG _ _ hp;refine .i (ao (fL 1 nd (JW T.Ac T.yr T.kH (rE T) hr bG (ak (cO (pv 0)) ax)))
   (ao (kh (pv 1) (sk mD rfl T.D8 Gu (ak (cO (pv 0)) ax)))
   (ao (kh (pv 1) (sk mD rfl T.D8 Gu (ak (cO (pv 0)) ax)))
   (aH (bz (pv 1)))))) ?_
 refine⟨_,Z,Z,ha,T.bM,Z,Z,λb db0 m1 m2 m3=>Uj sF uz sg.2.1 m1 m2 λH1 s1 h1=>⟨Z,?_⟩⟩;obtain⟨b',db,sv',wb,pb,eb,hb,aos,hwb,hpb⟩:=h1;cases eb;have nb:=(aT.mp hb).1;have MR:=(aT.mp hb).2;refine⟨_,Z,Z,s1 _ _ ha,T.bM,Z,Z,wa,_,Z,i3 (s1 _ _ hw),λp1 n1=>?_⟩;have s2:aC H1 (upd H1 p1 (iL l.w)):=aC.upd n1;refine⟨_,Z,Z,s2 _ _ MR,T.bM,Z,Z,tH [("stage",sv'),("weights",.ref p1),("past",.ref pb)],?_⟩;have c3:dE [b] H1 (upd (upd H1 p1 (iL l.w)) b (.ins t.bE db [("stage",sv'),("weights",.ref p1),("past",.ref pb)])):=s2.chg.d_ (by simp);have x3:upd (upd H1 p1 (iL l.w)) b (.ins t.bE db [("stage",sv'),("weights",.ref p1),("past",.ref pb)]) b=some (.ins t.bE db [("stage",sv'),("weights",.ref p1),("past",.ref pb)]):=aq;have np1:H p1=none:=s1.free n1;have n1b:p1≠b:=bZ MR n1;have w3:upd (upd H1 p1 (iL l.w)) b (.ins t.bE db [("stage",sv'),("weights",.ref p1),("past",.ref pb)]) p1=some (iL l.w):=by rw[aF n1b,aq]
 generalize upd (upd H1 p1 (iL l.w)) b (.ins t.bE db [("stage",sv'),("weights",.ref p1),("past",.ref pb)])=H3 at c3 x3 w3|-
 have AA:aC H H3:=dE.back s1 c3 (by intro y hy;rw[show y=b from by simpa using hy];exact nb);refine⟨_,Z,Z,AA _ _ ha,T.bM,Z,Z,pa,_,Z,i3 (AA _ _ hp),λp2 n2=>?_⟩;have s4:aC H3 (upd H3 p2 (iL l.h)):=aC.upd n2;refine⟨_,Z,Z,s4 _ _ x3,T.bM,Z,Z,tH [("stage",sv'),("weights",.ref p1),("past",.ref p2)],_,Z,?_⟩;have np2:H p2=none:=AA.free n2;have n2b:p2≠b:=bZ x3 n2;have smF:aC H (upd (upd H3 p2 (iL l.h)) b (.ins t.bE db [("stage",sv'),("weights",.ref p1),("past",.ref p2)])):=λy o e=>by rw[aF (aI e nb)];exact s4 _ _ (AA _ _ e)
 refine k _ _ smF ⟨b,db,sv',p1,p2,Z,aT.mpr ⟨nb,aq⟩,aos,aT.mpr ⟨np1,?_⟩,aT.mpr ⟨np2,?_⟩⟩
 .rw[aF n1b];exact s4 _ _ w3
 .rw[aF n2b,aq]
def CC {α:Type}{te:TE}{σ:L2.St}{Qd:Hp->Prop}{us:b_}(xs:List α)(isG:α->V->Hp->Prop)(hD:H1 D=none)(hz:xs.length<=bu)(hl:nM K H1 a us)(hn:xs.length=us.length)
  (hs:∀(i:Nat) x u H Q,xs[i]? =some x->us[i]? =some u->aC H1 H->(∀y H4,aC H H4->isG x y (nw H H4)->Q y H4)->g u (wipe σ vs) H λmG H2=>wipe mG vs=wipe σ vs/\te mG H2 Q)
  (hd:∀(H':Hp) (ys:b_) (Gs:Nat->Hp),aC H1 H'->H' D=some (.lst ys)->ys.length=xs.length->(∀i,aC (Gs i) (nw (upd H1 D (.lst [])) H'))->(∀i j,i≠j->Apart (Gs i) (Gs j))->(∀i x y,xs[i]? =some x->ys[i]? =some y->isG x y (Gs i))->Qd H'):Wj (Wi K a) g te vs σ H1 D Qd:=by
 refine IA (te:=te) (xs:=us) (λi dM H=>aC H1 H/\∃Gs:Nat->Hp,(∀j,aC (Gs j) (nw (upd H1 D (.lst [])) H))/\(∀p q,p≠q->Apart (Gs p) (Gs q))/\(∀j b,i<=j->Gs j b=none)/\∀j x y,xs[j]? =some x->dM[j]? =some y->isG x y (Gs j)) (by lia) ⟨aC.upd hD,λ_ _=>none,(λj b o e=>by cases e),(λp q _ b=>.inl rfl),(λj b _=>rfl),(λj x y _ e=>by simp at e)⟩ (λi dM H _ ⟨sm,_⟩=>sm.seq hl) (λdM H iP eD ⟨sm,Gs,z1,z2,z3,z4⟩=>hd H dM Gs sm eD (by lia) z1 z2 z4) λi dM H u Q hi iP eD ⟨sm,Gs,z1,z2,z3,z4⟩ hu k=>?_;have hx:xs[i]? =some (xs[i]'(by lia)):=aD (by lia);refine hs i _ u H Q hx hu sm λy H4 s4 hg=>?_;have hS:aC (nw (upd H1 D (.lst [])) H) (nw (upd H1 D (.lst [])) (upd H4 D (.lst (dM++[y])))):=λb o e=>by
  obtain⟨q1,q2⟩:=aT.mp e;exact aT.mpr ⟨q1,by rw[aF (bO q1).1];exact s4 _ _ q2⟩
 have fr:∀b,H b=none->upd H1 D (.lst []) b=none:=λb hb=>by
  by_cases e:b=D
  .subst e;rw[eD] at hb;cases hb
  .rw[aF e];exact sm.free hb
 have hN:aC (nw H H4) (nw (upd H1 D (.lst [])) (upd H4 D (.lst (dM++[y])))):=λb o e=>by
  obtain⟨q1,q2⟩:=aT.mp e;have q3:=fr b q1;exact aT.mpr ⟨q3,by rw[aF (bO q3).1];exact q2⟩
 have one:∀q,Apart (Gs q) (nw H H4):=λq b=>by
  cases e:Gs q b with
  |none=>exact .inl rfl
  |some o=>
   refine .inr ?_;have:=iK _ _ (z1 q _ _ e);cases e2:nw H H4 b with
   |none=>rfl
   |some o2=>rw[(aT.mp e2).1] at this;cases this
 refine k y H4 (s4 _ _ eD) ⟨λb o e=>by rw[aF (aI e hD)];exact s4 _ _ (sm _ _ e),setG Gs i (nw H H4),λj=>?_,λp q Yl=>?_,λj b hj=>?_,λj x z hx' hz'=>?_⟩
 .by_cases e:j=i
  .subst e;rw[gy];exact hN
  .rw[f6 e];exact(z1 j).trans hS
 .by_cases hp:p=i
  .subst hp;rw[gy,f6 (eP Yl)];exact(one q).symm
  .rw[f6 hp];by_cases hq:q=i
   .subst hq;rw[gy];exact one p
   .rw[f6 hq];exact z2 p q Yl
 .rw[f6 (by lia)];exact z3 j b (by lia)
 .by_cases e:j=i
  .subst e;rw[gy];rw[hx] at hx';cases hx';rw[gK (by lia),iP,lP] at hz';cases hz';exact hg
  .rw[f6 e];refine z4 j x z hx' ?_;by_cases hj:j<dM.length
   .rw[jR hj] at hz';exact hz'
   .rw[gK (by lia)] at hz';have:j-dM.length≠0:=by lia
    rw[List.getElem?_singleton] at hz';rw[ah this] at hz';cases hz'
structure RfS (t:fP)(F G:Hp)(r:bL)(l:bT)(a dx:lQ)(rv:V)(bf sf:lQ)(vs:b_)(Gs:Nat->Hp):Prop where
 ob:G a=some (.ins t.bW dx [("row_way",rv),("before",.ref bf),("stage_filters",.ref sf)])
 lS:RwA t r rv F
 hb:G bf=some (iL (gF r.fixed l.last))
 hs:G sf=some (.lst vs)
 WL:sf≠bf
 vl:vs.length=r.stages.length
 sub:∀i,aC (Gs i) G
 na:∀i,Gs i a=none
 nb:∀i,Gs i bf=none
 ns:∀i,Gs i sf=none
 ap:∀i j,i≠j->Apart (Gs i) (Gs j)
 st:∀(i:Nat) s x v,r.stages[i]? =some s->l.stages[i]? =some x->vs[i]? =some v->Of t F (Gs i) s x v
inductive J8 (t:fP)(F G:Hp)(r:bL)(l:bT)(v:V):Prop|i(a dx:lQ)(rv:V)(bf sf:lQ)(vs:b_)(Gs:Nat->Hp)(_:v=.ref a)(_:RfS t F G r l a dx rv bf sf vs Gs)
def J8.same {r:bL}{l:bT}(h:J8 t F G r l v)(f:aC F F')(g:aC G G'):J8 t F' G' r l v:=by
 obtain⟨a,dx,rv,bf,sf,vs,Gs,e,z⟩:=h;exact⟨a,dx,rv,bf,sf,vs,Gs,e,g _ _ z.ob,z.lS.same f,g _ _ z.hb,g _ _ z.hs,z.WL,z.vl,λi=>(z.sub i).trans g,z.na,z.nb,z.ns,z.ap,λi s x v h1 h2 h3=>(z.st i s x v h1 h2 h3).same f (aC.refl _)⟩
inductive aeh (t:fP)(vs:b_)(H:Hp)(Q:VK)(E:XK):Prop|i x dx rv r F(_:vs=[.ref x,rv])(_:H x=some (.ins t.bW dx []))(_:aC F H)(_:F x=none)(_:RwA t r rv F)(_:lJ r)(_:∀(H':Hp) (bf sf:lQ) (NM:b_) (Gs:Nat->Hp),dE [x] H H'->H' x=some (.ins t.bW dx [("row_way",rv),("before",.ref bf),("stage_filters",.ref sf)])->H' bf=some (iL (aM r.fixed 0))->H' sf=some (.lst NM)->H bf=none->H sf=none->sf≠bf->NM.length=r.stages.length->(∀i,aC (Gs i) (nw H H'))->(∀i,Gs i bf=none/\Gs i sf=none)->(∀i j,i≠j->Apart (Gs i) (Gs j))->(∀(i:Nat) s v,r.stages[i]? =some s->NM[i]? =some v->Of t F (Gs i) s (uM s) v)->Q .gQ H')
def tX:T.my.Ok P w mg rZ jf 3 (aeh t):=by
 refine T.my.ok λnd H vs Q E hr h=>?_;obtain⟨x,dx,rv,r,F,rfl,hx,sF,nFx,⟨ra,dr,sa,qO,rfl,qm,hsa,ps⟩,wg,k⟩:=h;refine .i (ao (kh (pv 0) (pv 1))
   (ao (kh (pv 0) (aX Ef (eE (ak aJ ax)) (cO (pv 1))))
   (aH (kh (pv 0) (GO [("stage",2)] nd (fB (cO (pv 1))) (mv 2 nd) (JW T.Ac T.yr T.kH (rE T) hr bG (ak (pv 2) ax))))))) ?_
 have f3:=wg.fx;have s2:=wg.sn;refine⟨_,Z,_,Z,Z,hx,T.dk,Z,Z,tH [("row_way",.ref ra)],?_⟩;have c1:dE [x] H (upd H x (.ins t.bW dx [("row_way",.ref ra)])):=dE.refl.d_ (by simp);have x1:upd H x (.ins t.bW dx [("row_way",.ref ra)]) x=some (.ins t.bW dx [("row_way",.ref ra)]):=aq;generalize upd H x (.ins t.bW dx [("row_way",.ref ra)])=H1 at c1 x1|-
 have FH1:aC F H1:=λb o e=>c1.one (sF _ _ e) (aI e nFx);refine⟨by rw[aE];simp,λp1 n1=>?_⟩;have s1:aC H1 (upd H1 p1 (.lst [.int 0])):=aC.upd n1;refine⟨_,Z,Z,s1 _ _ (FH1 _ _ qm),T.oK,Z,Z,p1,_,_,Z,Z,aq,by lia,by lia,by rw[aE];simp;lia,λbf n2=>?_⟩;rw[Jq];have s2':aC H1 (upd (upd H1 p1 (.lst [.int 0])) bf (iL (aM r.fixed 0))):=s1.trans (aC.upd n2);have w2:upd (upd H1 p1 (.lst [.int 0])) bf (iL (aM r.fixed 0)) bf=some (iL (aM r.fixed 0)):=aq;have nbf:H bf=none:=fU c1 x1 (s1.free n2);have nbx:bf≠x:=bZ hx nbf;generalize upd (upd H1 p1 (.lst [.int 0])) bf (iL (aM r.fixed 0))=H2 at s2' w2|-
 refine⟨_,Z,Z,s2' _ _ x1,T.dk,Z,Z,tH [("row_way",.ref ra),("before",.ref bf)],?_⟩;have c3:dE [x] H (upd H2 x (.ins t.bW dx [("row_way",.ref ra),("before",.ref bf)])):=(c1.trans s2'.chg).d_ (by simp);have x3:upd H2 x (.ins t.bW dx [("row_way",.ref ra),("before",.ref bf)]) x=some (.ins t.bW dx [("row_way",.ref ra),("before",.ref bf)]):=aq;have w3:upd H2 x (.ins t.bW dx [("row_way",.ref ra),("before",.ref bf)]) bf=some (iL (aM r.fixed 0)):=by rw[aF nbx];exact w2
 generalize upd H2 x (.ins t.bW dx [("row_way",.ref ra),("before",.ref bf)])=H3 at c3 x3 w3|-
 have FH3:aC F H3:=λb o e=>c3.one (sF _ _ e) (aI e nFx);refine⟨_,Z,Z,FH3 _ _ qm,T.oK,Z,Z,sa,Z,⟨qO,i2 (FH3 _ _ hsa)⟩,λD hD=>?_⟩;refine CC r.stages (λs v G=>Of t F G s (uM s) v) hD (by rw[aE];lia) (i2 (FH3 _ _ hsa)) (dR ps) (λi s u H4 Q4 hs hu El k4=>?_) λH4 ys Gs El eD yl z1 z2 z3=>?_
 .obtain⟨v,hv,sA⟩:=zh ps hs;rw[hu] at hv;cases hv;exact⟨Z,_,Z,λb db m1 m2 m3=>Uj (FH3.trans El) sA (wg.st s (az hs)).2.1 m1 m2 λH5 s5 h5=>⟨Z,k4 _ _ s5 h5⟩⟩
 .have nD:H D=none:=fU c3 x3 hD;have nDx:D≠x:=bZ hx nD;refine⟨_,Z,Z,El _ _ x3,T.dk,Z,Z,tH [("row_way",.ref ra),("before",.ref bf),("stage_filters",.ref D)],?_⟩;refine k _ bf D ys Gs ((c3.trans El.chg).d_ (by simp)) aq (by rw[aF nbx];exact El _ _ w3) (by rw[aF nDx];exact eD) nbf nD (bZ w3 hD) yl (λi b o e=>?_) (λi=>⟨?_,?_⟩) z2 z3
  .obtain⟨q1,q2⟩:=aT.mp (z1 i _ _ e);have q3:=bO q1;have q4:=fU c3 x3 q3.2;exact aT.mpr ⟨q4,by rw[aF (bZ hx q4)];exact q2⟩
  .cases e:Gs i bf with
   |none=>rfl
   |some o=>have:=bO (aT.mp (z1 i _ _ e)).1;rw[w3] at this;cases this.2
  .cases e:Gs i D with
   |none=>rfl
   |some o=>exact absurd rfl (bO (aT.mp (z1 i _ _ e)).1).1
def Xj (h:p<=3):gF p [0,0,0]=aM p 0:=by
 match p,h with
 |0,_=>rfl
 |1,_=>rfl
 |2,_=>rfl
 |3,_=>rfl
def Uh {rv:V}{r:bL}(hF:aC F H)(hr:RwA t r rv F)(wg:lJ r)(n1:H x=none)(n2:H dx=none)(k:∀H',aC H H'->J8 t F (nw H H') r (mC r) (.ref x)->Q .gQ H'):
  aeh t [.ref x,rv] (upd (upd H dx (.own x)) x (.ins t.bW dx [])) Q E:=by
 have s1:aC H (upd (upd H dx (.own x)) x (.ins t.bW dx [])):=gA n1 n2;refine⟨x,dx,rv,r,F,Z,aq,hF.trans s1,hF.free n1,hr,wg,λH' bf sf NM Gs c hx hb hs nb ns WL vl sub nn ap st=>k _ (dE.back s1 c (by intro y hy;rw[show y=x from by simpa using hy];exact n1)) ⟨x,dx,rv,bf,sf,NM,Gs,Z,aT.mpr ⟨n1,hx⟩,hr,aT.mpr ⟨s1.free nb,?_⟩,aT.mpr ⟨s1.free ns,hs⟩,WL,vl,λi=>(sub i).trans (o9 s1),λi=>?_,λi=>(nn i).1,λi=>(nn i).2,ap,λi s y v h1 h2 h3=>?_⟩⟩
 .rw[hb];show _=some (iL (gF r.fixed [0,0,0]));rw[Xj wg.fx]
 .cases e:Gs i x with
  |none=>rfl
  |some o=>have:=(aT.mp (sub i _ _ e)).1;rw[aq] at this;cases this
 .have e:(mC r).stages=r.stages.map uM:=rfl;rw[e,aw,h1] at h2;cases h2;exact st i s v h1 h3
def Hg (r:bL)(l:bT):Prop:=lJ r/\lH r l
def Hg.sg {r:bL}{l:bT}(h:Hg r l){x:pI}(h1:r.stages[i]? =some s)(h2:l.stages[i]? =some x):Xb s x:=⟨h.1.st s (az h1),h.2.st i s x h1 h2⟩
inductive acQ (t:fP)(vs:b_)(H:Hp)(Q:VK)(E:XK):Prop|i v r l F G(_:vs=[v])(_:aC F H)(_:aC G H)(_:J8 t F G r l v)(_:Hg r l)(_:∀v' H',aC H H'->J8 t F (nw H H') r l v'->Q v' H')
def CK:T.pS.Ok P w mg rZ jf 5 (acQ t):=by
 refine T.pS.ok λnd H vs Q E hr h=>?_;obtain⟨v,r,l,F,G,rfl,sF,sG,⟨a,dx,rv,bf,sf,vs,Gs,rfl,z⟩,rg,k⟩:=h;have HA:=sG _ _ z.ob;refine .i (ao (fL 1 nd (JW T.Eu T.Ct T.my (tX T) hr bG (ak (cO (pv 0)) ax)))
   (ao (kh (pv 1) (sk mD rfl T.D8 Gu (ak (cO (pv 0)) ax)))
   (ao (kh (pv 1) (GO [("stage_filter",2)] nd (fB (cO (pv 0))) (mv 2 nd) (Fe (pv 2) T.bM T.nY (zY T) hr bG)))
   (aH (bz (pv 1)))))) ?_
 refine⟨_,Z,Z,HA,T.dk,Z,Z,λb db0 m1 m2 m3=>Uh sF z.lS rg.1 m1 m2 λH1 s1 h1=>⟨Z,?_⟩⟩;obtain⟨b',db,rv',bf',sf',NM,JK,eb,z'⟩:=h1;cases eb;have nb:=(aT.mp z'.ob).1;have MR:=(aT.mp z'.ob).2;refine⟨_,Z,Z,s1 _ _ HA,T.dk,Z,Z,bf,_,Z,i3 (s1 _ _ (sG _ _ z.hb)),λp1 n1=>?_⟩;have s2:aC H1 (upd H1 p1 (iL (gF r.fixed l.last))):=aC.upd n1;refine⟨_,Z,Z,s2 _ _ MR,T.dk,Z,Z,tH [("row_way",rv'),("before",.ref p1),("stage_filters",.ref sf')],?_⟩;have c3:dE [b] H1 (upd (upd H1 p1 (iL (gF r.fixed l.last))) b (.ins t.bW db [("row_way",rv'),("before",.ref p1),("stage_filters",.ref sf')])):=s2.chg.d_ (by simp);have x3:upd (upd H1 p1 (iL (gF r.fixed l.last))) b (.ins t.bW db [("row_way",rv'),("before",.ref p1),("stage_filters",.ref sf')]) b=some (.ins t.bW db [("row_way",rv'),("before",.ref p1),("stage_filters",.ref sf')]):=aq;have np1:H p1=none:=s1.free n1;have n1b:p1≠b:=bZ MR n1;have w3:upd (upd H1 p1 (iL (gF r.fixed l.last))) b (.ins t.bW db [("row_way",rv'),("before",.ref p1),("stage_filters",.ref sf')]) p1=some (iL (gF r.fixed l.last)):=by rw[aF n1b,aq]
 generalize upd (upd H1 p1 (iL (gF r.fixed l.last))) b (.ins t.bW db [("row_way",rv'),("before",.ref p1),("stage_filters",.ref sf')])=H3 at c3 x3 w3|-
 have AA:aC H H3:=dE.back s1 c3 (by intro y hy;rw[show y=b from by simpa using hy];exact nb);have hl:l.stages.length=r.stages.length:=rg.2.sl;refine⟨_,Z,Z,AA _ _ HA,T.dk,Z,Z,sf,Z,⟨vs,i2 (AA _ _ (sG _ _ z.hs))⟩,λD hD=>?_⟩;refine CC (r.stages.zip l.stages) (λp v G'=>Of t F G' p.1 p.2 v) hD (by rw[aE];simp;have:=rg.1.sn;lia) (i2 (AA _ _ (sG _ _ z.hs))) (by simp[z.vl];lia) (λi p u H4 Q4 hs hu El k4=>?_) λH4 ys Gn El eD yl z1 z2 z3=>?_
 .have hp:=hG.mp hs;have sA:=z.st i p.1 p.2 u hp.1 hp.2 hu;obtain⟨a1,d1,sv1,wa1,pa1,rfl,ha1,_⟩:=id sA;have hG4:aC (Gs i) H4:=((z.sub i).trans sG).trans (AA.trans El);exact⟨Z,_,Z,a1,_,_,Z,hG4 _ _ ha1,Z,_,p.1,p.2,F,Gs i,Z,sF.trans (AA.trans El),hG4,sA,rg.sg hp.1 hp.2,λv' H5 s5 h5=>k4 v' H5 s5 h5⟩
 .have nD:H D=none:=AA.free hD;have nDb:D≠b:=bZ x3 hD;refine⟨_,Z,Z,El _ _ x3,T.dk,Z,Z,tH [("row_way",rv'),("before",.ref p1),("stage_filters",.ref D)],_,Z,?_⟩;have smF:aC H (upd H4 b (.ins t.bW db [("row_way",rv'),("before",.ref p1),("stage_filters",.ref D)])):=λy o e=>by rw[aF (aI e nb)];exact El _ _ (AA _ _ e)
  have qH:∀i y o,Gn i y=some o->H3 y=none/\y≠D/\H4 y=some o:=λi y o e=>by
   obtain⟨q1,q2⟩:=aT.mp (z1 i _ _ e);exact⟨(bO q1).2,(bO q1).1,q2⟩
  have aj2:∀(i:Nat) y o,H3 y=some o->Gn i y=none:=λi y o e=>by
   cases q:Gn i y with
   |none=>rfl
   |some u=>rw[(qH i y u q).1] at e;cases e
  refine k _ _ smF ⟨b,db,rv',p1,D,ys,Gn,Z,aT.mpr ⟨nb,aq⟩,z'.lS,aT.mpr ⟨np1,by rw[aF n1b];exact El _ _ w3⟩,aT.mpr ⟨nD,by rw[aF nDb];exact eD⟩,(bZ w3 hD),by rw[yl];simp;lia,λi y o e=>?_,λi=>aj2 i _ _ x3,λi=>aj2 i _ _ w3,λi=>?_,z2,λi s x v h1 h2 h3=>z3 i (s,x) v (hG.mpr ⟨h1,h2⟩) h3⟩
  .obtain⟨q1,q2,q3⟩:=qH i y o e;refine aT.mpr ⟨AA.free q1,?_⟩;rw[aF (bZ x3 q1)];exact q3
  .cases q:Gn i D with
   |none=>rfl
   |some u=>exact absurd rfl (qH i D u q).2.1
def fR (on:Bool):bL->bT->Int->Int×bT:=if on=true then LwSound.restOf else LwSound.backOf
inductive ND (t:fP)(on:Bool)(vs:b_)(H:Hp)(Q:VK)(E:XK):Prop|i(v:V)(r:bL)(l:bT)(u:Int)(F G:Hp)(_:vs=[v,.int u])(_:aC F H)(_:aC G H)(_:Apart F G)(_:J8 t F G r l v)(_:Hg r l)(_:∀H',fw G H H'->J8 t F (grow G H H') r (fR on r l u).2 v->Q (.int (fR on r l u).1) H')
def Cu {l:bX}{i:Nat}(h:i<l.length):UW (l.map V.int) (0+(i:Int))=some (.int (l.getD i 0)):=by
 have:=Hn (l:=l) (i:=(i:Int)) (by lia) (by simpa using h);rw[zA,this,bF]
def EO (l:bX)(i:Nat)(x:Int):(l.map V.int).set i (.int x)=(l.set i x).map V.int:=by rw[ak3]
def zV:T.nV.Ok P w mg rZ jf 4 (ND t true):=by
 refine T.nV.ok λnd H vs Q E hr h=>?_;obtain⟨v,r,l,u0,F,G,rfl,sF,sG,ap,⟨a,dx,rv,bf,sf,vs,Gs,rfl,z⟩,rg,k⟩:=h;obtain⟨ra,dr,sa,qO,rfl,qm,hsa,ps⟩:=id z.lS;have HA:=sG _ _ z.ob;have HB:=sG _ _ z.hb;have f3:=rg.1.fx;have nab:a≠bf:=g_ HA HB (by intro q;cases q);have WL:sf≠bf:=z.WL;refine .i (ao (fL 2 nd (pv 1))
   (ao (gX PassesOwn.never rfl (jx rfl T.iA (ak (cO (cO (pv 0))) ax)) (mv 3 nd)
    (ao (fL 4 nd (pv 2))
   (ao (fL 2 nd (aX gw (pv 4) (JV (cO (pv 0)) (pv 3))))
   (aH (yJ (pv 4) (yF (cO (pv 0)) (pv 3) set_list))))))
   (ao (gX PassesOwn.never rfl (fB (cO (pv 0))) (mv 5 nd)
    (aH (fL 2 nd (qN (pv 5) T.bM T.lW (xq T) hr bG (ak (pv 2) ax)))))
   (aH (bz (pv 2)))))) ?_
 refine⟨_,Z,_,Z,Z,HA,T.dk,Z,Z,Z,sF _ _ qm,T.oK,Z,Z,_,Z,by lia,by lia,?_⟩;refine r_ (λi σ H'=>X3 λy3 y4 y5=>C3 (σ=[some (.ref a),some (.int u0),some (.int ((aK i).foldl yk (u0,gF r.fixed l.last)).1),y3,y4,y5]) (dE [bf] H H') (H' bf=some (iL ((aK i).foldl yk (u0,gF r.fixed l.last)).2))) ⟨none,none,none,Z,dE.refl,HB⟩ ?_ ?_
 .rintro i σ H' hi ⟨y3,y4,y5,rfl,c,eb⟩;have Ij:i<r.fixed:=by lia
  have iP:i<((aK i).foldl yk (u0,gF r.fixed l.last)).2.length:=by rw[MO,BW f3];exact Ij
  refine⟨_,Z,_,Z,_,Z,Z,c.one HA nab,T.dk,Z,Z,_,Z,bf,_,_,_,Z,Z,i2 eb,Cu iP,_,_,Z,Z,?_⟩;refine⟨_,Z,_,Z,Z,c.one HA nab,T.dk,Z,Z,_,Z,bf,_,_,i,Z,Z,eb,qo (by lia) (by simpa using iP),?_⟩;refine⟨some (.int (0+(i:Int))),some (.int ((aK i).foldl yk (u0,gF r.fixed l.last)).1),y5,?_,?_,?_⟩
  .rw[de,dB];rfl
  .exact c.d_ (by simp)
  .rw[aq,de,dB,EO];rfl
 .rintro σ H' ⟨y3,y4,y5,rfl,c,eb⟩;rw[bF,XM f3 rg.2.la] at eb;have e1:(aK ((r.fixed:Int)).toNat).foldl yk (u0,gF r.fixed l.last)=(u0-lT r.fixed l.last,gF r.fixed (u0::l.last.take 2)):=by rw[bF,XM f3 rg.2.la]
  rw[e1];obtain⟨u1,hu1⟩:∃u1,u1=u0-lT r.fixed l.last:=⟨_,Z⟩;have ef:fR true r l u0=((gL (r.stages.zip l.stages) u1).1,l.next u0 (gL (r.stages.zip l.stages) u1).2):=by rw[hu1];rfl
  rw[ef] at k;have hl:l.stages.length=r.stages.length:=rg.2.sl;have afc:GZ G H H' Gs:=by
   have:GZ G H H Gs:=⟨fw.refl,λi=>(z.sub i).trans (y_ sG),z.ap⟩;refine this.side c (λy hy=>.inl ?_) λy hy i=>?_
   .rw[show y=bf from by simpa using hy,z.hb];rfl
   .rw[show y=bf from by simpa using hy];exact z.nb i
  have HS':=c.one (sG _ _ z.hs) WL;refine⟨_,Z,Z,c.one HA nab,T.dk,Z,Z,sf,Z,⟨vs,i2 HS'⟩,?_⟩;refine qD (xs:=vs) (λi σ H2=>X2 λ(y5:Option V) (Gn:Nat->Hp)=>C7 (σ=[some (.ref a),some (.int u0),some (.int (gL ((r.stages.zip l.stages).take i) u1).1),y3,y4,y5]) (GZ G H H2 Gn) (∀j,Gn j a=none/\Gn j bf=none/\Gn j sf=none) (H2 a=some (.ins t.bW dx [("row_way",.ref ra),("before",.ref bf),("stage_filters",.ref sf)])) (H2 bf=some (iL (gF r.fixed (u0::l.last.take 2)))) (H2 sf=some (.lst vs)) (∀(j:Nat) s v x,r.stages[j]? =some s->vs[j]? =some v->(if j<i then(gL ((r.stages.zip l.stages).take i) u1).2[j]? =some x else l.stages[j]? =some x)->Of t F (Gn j) s x v))
   ⟨y5,Gs,by rw[hu1];rfl,afc,λj=>⟨z.na j,z.nb j,z.ns j⟩,c.one HA nab,eb,HS',λj s v x h1 h2 h3=>z.st j s x v h1 (by simpa using h3) h2⟩ ?_ ?_ ?_
  .rintro i σ H2 _ ⟨_,_,_,_,_,_,_,Kx,_⟩;exact i2 Kx
  .rintro i v σ H2 hv ⟨y5,Gn,rfl,r9,nn,Bc,BE,Kx,st⟩;have hi:i<r.stages.length:=by have:=(aN.mp hv).1;have:=z.vl;lia
   obtain⟨s1,QB⟩:∃s1,r.stages[i]? =some s1:=⟨_,aD hi⟩;obtain⟨x1,JU⟩:∃x1,l.stages[i]? =some x1:=⟨_,aD (by lia)⟩;have hz:(r.stages.zip l.stages)[i]? =some (s1,x1):=hG.mpr ⟨QB,JU⟩;have sA:=st i s1 v x1 QB hv (by rw[ah (b8 i)];exact JU);obtain⟨a1,d1,sv1,wa1,pa1,rfl,ha1,_⟩:=id sA;have FH2:aC F H2:=r9.keep.other sF ap;have Hm:Apart F (Gn i):=Bs.Apart.le (gU (H':=H2) sF ap) (r9.sub i);refine⟨_,Z,a1,_,_,Z,r9.le i _ _ ha1,Z,_,Z,_,s1,x1,_,F,Gn i,Z,FH2,r9.le i,Hm,sA,rg.sg QB JU,λH3 k3 sf3=>?_⟩;have k3a:=k3 a _ Bc (nn i).1;have k3b:=k3 bf _ BE (nn i).2.1;have k3s:=k3 sf _ Kx (nn i).2.2;have et:gL ((r.stages.zip l.stages).take (i+1)) u1=((gL ((r.stages.zip l.stages).take i) u1).1-ff s1 x1,(gL ((r.stages.zip l.stages).take i) u1).2++[mB s1 x1 (gL ((r.stages.zip l.stages).take i) u1).1 ((gL ((r.stages.zip l.stages).take i) u1).1-ff s1 x1)]):=by
    rw[Mx.take_snoc hz,yN];rfl
   have tl:(gL ((r.stages.zip l.stages).take i) u1).2.length=i:=by rw[tu,cN,KZ];lia
   refine⟨some (.ref a1),setG Gn i (grow (Gn i) H2 H3),?_,r9.step i k3,λj=>?_,k3a,k3b,k3s,λj s v x h1 h2 h3=>?_⟩
   .rw[et];rfl
   .by_cases e:j=i
    .subst e;rw[gy];exact⟨cS Bc (nn j).1,cS BE (nn j).2.1,cS Kx (nn j).2.2⟩
    .rw[f6 e];exact nn j
   .rw[et] at h3;by_cases e:j=i
    .subst e;rw[gy];rw[aj (ij j),gK (by lia),tl,lP] at h3;rw[QB] at h1;cases h1;rw[hv] at h2;cases h2;cases h3;exact sf3
    .rw[f6 e];refine st j s v x h1 h2 ?_;by_cases hj:j<i
     .rw[aj (by lia),jR (by lia)] at h3;rw[aj hj];exact h3
     .rw[ah (by lia)] at h3;rw[ah hj];exact h3
  .rintro σ H2 ⟨y5,Gn,rfl,r9,nn,Bc,BE,Kx,st⟩;have e2:(r.stages.zip l.stages).take vs.length=r.stages.zip l.stages:=cq (by rw[KZ,z.vl];lia);rw[e2] at st|-
   refine⟨_,Z,k H2 r9.keep ⟨a,dx,.ref ra,bf,sf,vs,Gn,Z,bC.mpr ⟨.inl (by rw[z.ob];rfl),Bc⟩,z.lS,bC.mpr ⟨.inl (by rw[z.hb];rfl),BE⟩,bC.mpr ⟨.inl (by rw[z.hs];rfl),Kx⟩,WL,z.vl,r9.sub,λi=>(nn i).1,λi=>(nn i).2.1,λi=>(nn i).2.2,r9.ap,λi s x v h1 h2 h3=>?_⟩⟩;refine st i s v x h1 h3 ?_;have hi:i<vs.length:=(aN.mp h3).1;rw[aj hi];exact h2
def drop_cons {α:Type}{l:List α}{x:α}(h:l[i]? =some x):l.drop i=x::l.drop (i+1):=by
 obtain⟨h1,h2⟩:=aN.mp h;rw[<-h2];exact cT h1
def xp:T.lV.Ok P w mg rZ jf 4 (ND t false):=by
 refine T.lV.ok λnd H vs Q E hr h=>?_;obtain⟨v,r,l,u0,F,G,rfl,sF,sG,ap,⟨a,dx,rv,bf,sf,vs,Gs,rfl,z⟩,rg,k⟩:=h;obtain⟨ra,dr,sa,qO,rfl,qm,hsa,ps⟩:=id z.lS;have HA:=sG _ _ z.ob;have HB:=sG _ _ z.hb;have HS':=sG _ _ z.hs;have f3:=rg.1.fx;have nab:a≠bf:=g_ HA HB (by intro q;cases q);have WL:sf≠bf:=z.WL;have hl:l.stages.length=r.stages.length:=rg.2.sl;obtain⟨zs,hzs⟩:∃zs,zs=r.stages.zip l.stages:=⟨_,Z⟩;have zl:zs.length=vs.length:=by rw[hzs,KZ,z.vl,hl,Nat.min_self]
 have ef:fR false r l u0=((dG zs u0).1+lT r.fixed l.last,l.next ((dG zs u0).1+lT r.fixed l.last) (dG zs u0).2):=by rw[hzs];rfl
 rw[ef] at k;have afc:GZ G H H Gs:=⟨fw.refl,λi=>(z.sub i).trans (y_ sG),z.ap⟩;refine .i (ao (fL 2 nd (pv 1))
   (ao (gX PassesOwn.never rfl (Fd rfl T.II (ak (cO (pv 0)) ax)) (mv 3 nd)
    (aH (fL 2 nd (qN (pv 3) T.bM T.kC (vc T) hr bG (ak (pv 2) ax)))))
   (ao (gX PassesOwn.never rfl (zk rfl T.iA (ak (aX gw (cO (cO (pv 0))) aJ) (ak (t5 pw aJ) (ak (t5 pw aJ) ax)))) (mv 4 nd)
    (ao (fL 2 nd (aX dz (pv 2) (JV (cO (pv 0)) (pv 4))))
   (aH (yJ (pv 2) (yF (cO (pv 0)) (pv 4) set_list)))))
   (aH (bz (pv 2)))))) ?_
 refine⟨_,Z,_,Z,Z,HA,T.dk,Z,Z,sf,vs,Z,i2 HS',?_⟩;refine Tu (xs:=vs) (λi σ H2=>X2 λ(y3:Option V) (Gn:Nat->Hp)=>C7 (σ=[some (.ref a),some (.int u0),some (.int (dG (zs.drop (vs.length-i)) u0).1),y3,none]) (GZ G H H2 Gn) (∀j,Gn j a=none/\Gn j bf=none/\Gn j sf=none) (H2 a=some (.ins t.bW dx [("row_way",.ref ra),("before",.ref bf),("stage_filters",.ref sf)])) (H2 bf=some (iL (gF r.fixed l.last))) (H2 sf=some (.lst vs)) (∀(j:Nat) s v x,r.stages[j]? =some s->vs[j]? =some v->(if vs.length-i<=j then(dG (zs.drop (vs.length-i)) u0).2[j-(vs.length-i)]? =some x else l.stages[j]? =some x)->Of t F (Gn j) s x v))
   ⟨none,Gs,by rw[uq,<-zl,rn];rfl,afc,λj=>⟨z.na j,z.nb j,z.ns j⟩,HA,HB,HS',λj s v x h1 h2 h3=>z.st j s x v h1 (by
    have hj:=(aN.mp h2).1;rw[ah (show¬vs.length-0<=j from Oa.mpr hj)] at h3;exact h3) h2⟩ ?_ ?_ ?_
 .rintro i σ H2 _ ⟨_,_,_,_,_,_,_,Kx,_⟩;exact i2 Kx
 .rintro i σ H2 v hi ⟨y3,Gn,rfl,r9,nn,Bc,BE,Kx,st⟩ hv;obtain⟨q,hq⟩:∃q,q=vs.length-1-i:=⟨_,Z⟩;rw[<-hq] at hv;obtain⟨hqi,hq2,Lr⟩:=rvq hi hq;clear hq;rw[z.vl] at Lr;obtain⟨s1,QB⟩:∃s1,r.stages[q]? =some s1:=⟨_,aD Lr⟩;obtain⟨x1,JU⟩:∃x1,l.stages[q]? =some x1:=⟨_,aD (hl ▸ Lr)⟩;have hz:zs[q]? =some (s1,x1):=by rw[hzs];exact hG.mpr ⟨QB,JU⟩
  rw[hqi] at st|-
  have sA:=st q s1 v x1 QB hv (by rw[ah (Nat.not_succ_le_self q)];exact JU);obtain⟨a1,d1,sv1,wa1,pa1,rfl,ha1,_⟩:=id sA;have FH2:aC F H2:=r9.keep.other sF ap;have Hm:Apart F (Gn q):=Bs.Apart.le (gU (H':=H2) sF ap) (r9.sub q);refine⟨_,Z,a1,_,_,Z,r9.le q _ _ ha1,Z,_,Z,_,s1,x1,_,F,Gn q,Z,FH2,r9.le q,Hm,sA,rg.sg QB JU,λH3 k3 sf3=>?_⟩;have k3a:=k3 a _ Bc (nn q).1;have k3b:=k3 bf _ BE (nn q).2.1;have k3s:=k3 sf _ Kx (nn q).2.2;have et:dG (zs.drop q) u0=((dG (zs.drop (q+1)) u0).1+ff s1 x1,mB s1 x1 ((dG (zs.drop (q+1)) u0).1+ff s1 x1) (dG (zs.drop (q+1)) u0).1::(dG (zs.drop (q+1)) u0).2):=by
   rw[drop_cons hz];rfl
  rw[hq2];refine⟨some (.ref a1),setG Gn q (grow (Gn q) H2 H3),?_,r9.step q k3,λj=>?_,k3a,k3b,k3s,λj s v x h1 h2 h3=>?_⟩
  .rw[et];rfl
  .by_cases e:j=q
   .rw[e,gy];exact⟨cS Bc (nn q).1,cS BE (nn q).2.1,cS Kx (nn q).2.2⟩
   .rw[f6 e];exact nn j
  .rw[et] at h3;by_cases e:j=q
   .rw[e] at h1 h2 h3|-
    rw[gy];rw[aj (bq q),lP] at h3;rw[QB] at h1;cases h1;rw[hv] at h2;cases h2;cases h3;exact sf3
   .rw[f6 e];refine st j s v x h1 h2 ?_;by_cases hj:q<=j
    .have hd:=aba hj (eP e);obtain⟨d,ed⟩:=Nat.exists_eq_add_of_lt hd;rw[aj hj,show j-q=d+1 by rw[ed,ak5,k9],QH] at h3;rw[aj (show q+1<=j from hd),show j-(q+1)=d by rw[ed,uU,k9]];exact h3
    .rw[ah hj] at h3;rw[ah λc=>hj (iU c)];exact h3
 .rintro σ H2 ⟨y3,Gn,rfl,r9,nn,Bc,BE,Kx,st⟩;rw[lP,iD] at st|-
  have FH2:aC F H2:=r9.keep.other sF ap;obtain⟨u1,hu1⟩:∃u1,u1=(dG zs u0).1:=⟨_,Z⟩;rw[<-hu1] at k|-
  refine⟨_,Z,Z,Bc,T.dk,Z,Z,Z,FH2 _ _ qm,T.oK,Z,Z,_,_,Z,Z,_,Z,_,Z,(r.fixed:Int)-1,-1,-1,r.fixed,Z,?_,?_⟩
  .have:=RgC.neg (i:=(r.fixed:Int)-1) (j:= -1) (by omega) (by omega) (by decide) (by decide);rw[nd1] at this;exact this
  refine wc (λi σ H'=>X2 λy3 y4=>C3 (σ=[some (.ref a),some (.int u0),some (.int (((aK r.fixed).reverse.take i).foldl nO (u1,gF r.fixed l.last)).1),y3,y4]) (dE [bf] H2 H') (H' bf=some (iL (((aK r.fixed).reverse.take i).foldl nO (u1,gF r.fixed l.last)).2))) ⟨y3,none,Z,dE.refl,BE⟩ ?_ ?_
  .rintro i σ H' hi ⟨y3,y4,rfl,c,eb⟩;have ho:(aK r.fixed).reverse[i]? =some (r.fixed-1-i):=by
    rw[UJ (by simpa using hi),j4,bD (by omega)]
   obtain⟨o,hoe⟩:∃o,o=r.fixed-1-i:=⟨_,Z⟩;rw[<-hoe] at ho;have eo:=ndi hi hoe;have iP:o<(((aK r.fixed).reverse.take i).foldl nO (u1,gF r.fixed l.last)).2.length:=by rw[HY,BW f3];omega
   have eat:UW ((((aK r.fixed).reverse.take i).foldl nO (u1,gF r.fixed l.last)).2.map V.int) ((r.fixed:Int)-1+(i:Nat)*(-1))=some (.int ((((aK r.fixed).reverse.take i).foldl nO (u1,gF r.fixed l.last)).2.getD o 0)):=by
    rw[eo];have:=Cu iP;rw[zA] at this;exact this
   refine⟨_,Z,_,Z,Z,c.one Bc nab,T.dk,Z,Z,_,Z,bf,_,_,_,Z,Z,i2 eb,eat,_,_,Z,Z,?_⟩;refine⟨_,Z,_,Z,Z,c.one Bc nab,T.dk,Z,Z,_,Z,bf,_,_,o,Z,Z,eb,qo eo (by simpa using iP),?_⟩;refine⟨y3,some (.int ((r.fixed:Int)-1+(i:Nat)*(-1))),?_,?_,?_⟩
   .rw[Mx.take_snoc ho,dB];rfl
   .exact c.d_ (by simp)
   .rw[aq,Mx.take_snoc ho,dB,EO];rfl
  .rintro σ H' ⟨y3,y4,rfl,c,eb⟩;have e1:((aK r.fixed).reverse.take r.fixed).foldl nO (u1,gF r.fixed l.last)=(u1+lT r.fixed l.last,gF r.fixed ((u1+lT r.fixed l.last)::l.last.take 2)):=by
    rw[cq (by simp),XJ f3 rg.2.la]
   rw[e1] at eb|-
   have afd:GZ G H H' Gn:=r9.side c (λy hy=>.inl (by rw[show y=bf from by simpa using hy,z.hb];rfl)) λy hy i=>by rw[show y=bf from by simpa using hy];exact(nn i).2.1
   refine⟨_,Z,k H' afd.keep ⟨a,dx,.ref ra,bf,sf,vs,Gn,Z,bC.mpr ⟨.inl (by rw[z.ob];rfl),c.one Bc nab⟩,z.lS,bC.mpr ⟨.inl (by rw[z.hb];rfl),eb⟩,bC.mpr ⟨.inl (by rw[z.hs];rfl),c.one Kx WL⟩,WL,z.vl,afd.sub,λi=>(nn i).1,λi=>(nn i).2.1,λi=>(nn i).2.2,afd.ap,λi s x v h1 h2 h3=>?_⟩⟩;refine st i s v x h1 h3 ?_;rw[aj (eT _),uq];exact h2
def af4 (on:Bool):Str:=if on=true then "onward" else "backward"
def Br (on:Bool)(rw:bL)(l:bT)(xs:bX):bX×bT:=LwSound.alongBy (fR on rw) l xs
def aiC {on:Bool}{rw:bL}{l:bT}(h:Hg rw l)(x:Int):Hg rw (fR on rw l x).2:=by
 cases on with
 |true=>exact⟨h.1,h.2.rest h.1 x⟩
 |false=>exact⟨h.1,h.2.back h.1 x⟩
def Nz {on:Bool}{rw:bL}{l:bT}(h:Hg rw l)(xs:bX):Hg rw (Br on rw l xs).2:=
 ⟨h.1,Hl (f:=fR on) (λl x q=>(aiC (on:=on) ⟨h.1,q⟩ x).2) h.2 xs⟩
structure aa1 (t:fP)(F G0 H:Hp)(Gs:Nat->Hp)(Fg:List bL)(ls:List bT)(jS:b_):Prop where
 r9:GZ G0 H H Gs
 sF:aC F H
 sG:aC G0 H
 ap:Apart F G0
 l1:Fg.length=jS.length
 l2:ls.length=jS.length
 at_:∀(i:Nat) rw l v,Fg[i]? =some rw->ls[i]? =some l->jS[i]? =some v->J8 t F (Gs i) rw l v/\Hg rw l
def r8 {S:Hp}(h:Apart S G)(g:G D=none):Apart (upd S D o) G:=λb=>by
 by_cases e:b=D
 .subst e;exact .inr g
 .rw[aF e];exact h b
def LM {on:Bool}{Fg:List bL}{ls:List bT}{jS WO:b_}{ys:ly}{S:Hp}{fl ya R:lQ}{x1 x2:V}{Dn:Ends}{n:Nat}
  (fs:aa1 t F G0 H Gs Fg ls jS) (s1:aC H H1) (hS:aC S H1) (apS:∀j,Apart S (Gs j)) (FS:aC F S) (hfl:S fl=some (.lst jS)) (hya:H1 ya=some (.lst WO)) (hyR:ya≠R) (hyG:∀j,Gs j ya=none) (py:Paired (λx v=>IsL x v S) ys WO) (hyl:ys.length=jS.length) (hn:∀y∈ys,y.length<=n) (n1:n<=1000) (f1:jS.length<=1000)
  (SR:S R=none) (HR:H1 R=some (.lst [])) (HRn:H R=none)
  (kd:∀H' zt JK y4 y5 y6,GZ G0 H H' JK->aC S H'->H' R=some (.lst zt)->Paired (λx v=>IsL x v (but H' R)) ((aK jS.length).map λi=>(Br on (Fg.getD i ⟨0,[]⟩) (ls.getD i ⟨[],[],[]⟩) (ys.getD i [])).1) zt->
   (∀(i:Nat) rw l y v,Fg[i]? =some rw->ls[i]? =some l->ys[i]? =some y->jS[i]? =some v->J8 t F (JK i) rw (Br on rw l y).2 v)->Dn.nx [some (.ref fl),some x1,some x2,some (.ref R),y4,y5,y6] H'):
  ∃W:Nat->Nat->L2.St->Hp->Prop,(∃m,W 0 m [some (.ref fl),some x1,some x2,some (.ref R),none,none,none] H1)/\∀i m σ H,W i m σ H->((Itz K fl ya).stop i H/\Dn.nx σ H)\/((Itz K fl ya).go i H/\∃N:L2.St->Hp->Prop,(∀gz H',N gz H'->∃m',m'<m/\W (i+1) m' gz H')/\∀x H',(Itz K fl ya).Wc i H x H'->afh K 2 (XT (An 4) (XT (An 5) aiM)) x σ H' λmG H2=>
   Us (tBM K "list" Nu (Em 3) (Jy (tLc (Ys K (Em 5)) (An 6) ZU (Jz t.bW (af4 on) (ND t on) [] E0 (Em 4) (Jy (Em 6) Gp)) [6]) Gp)) {Dn with nx:=N,ct:=N,bk:=Dn.nx} mG H2):=by
 have aoL:WO.length=jS.length:=by rw[<-dR py];exact hyl
 refine Tv (xs:=jS) (ys:=WO) (n:=jS.length) (λi σ Hc=>X6 λy4 y5 y6 zt Gn S2=>C12 (σ=[some (.ref fl),some x1,some x2,some (.ref R),y4,y5,y6]) (GZ G0 H Hc Gn) (aC S S2) (aC S2 Hc) (∀j,Apart S2 (Gn j)) (S2 R=none) (∀j,Gn j R=none) (Hc R=some (.lst zt)) (Hc ya=some (.lst WO)) (∀j,Gn j ya=none) (Paired (λx v=>IsL x v S2) ((aK i).map λi=>(Br on (Fg.getD i ⟨0,[]⟩) (ls.getD i ⟨[],[],[]⟩) (ys.getD i [])).1) zt) (∀(j:Nat) rw l y v,Fg[j]? =some rw->ls[j]? =some l->ys[j]? =some y->jS[j]? =some v->J8 t F (Gn j) rw (if j<i then(Br on rw l y).2 else l) v))
  ⟨none,none,none,[],Gs,S,Z,fs.r9.grown s1,aC.refl S,hS,apS,SR,λj=>(fs.r9.le j).free HRn,HR,hya,hyG,.nil,λj rw l y v h1 h2 h3 h4=>by rw[ah (by lia)];exact(fs.at_ j rw l v h1 h2 h4).1⟩ rfl aoL (λi σ Hc _ ⟨_,_,_,_,_,S2,_,_,sS,sH,_,_,_,_,hy,_,_,_⟩=>⟨i2 (sH _ _ (sS _ _ hfl)),i2 hy⟩) ?_ ?_
 .rintro i σ Hc fv yv Tt hi ⟨y4,y5,y6,zt,Gn,S2,rfl,r9,sS,sH,apn,S2R,nR,hR,hy,ny,pz,st⟩ hfv hyv nT;obtain⟨y,hy1,yp,rfl,hyp⟩:=iR py hyv;obtain⟨lS,WH⟩:∃x,Fg[i]? =some x:=⟨_,aD (by rw[fs.l1];exact hi)⟩;obtain⟨l_,hl_⟩:∃x,ls[i]? =some x:=⟨_,aD (by rw[fs.l2];exact hi)⟩;have rg:=(fs.at_ i lS l_ fv WH hl_ hfv).2;have rf0:=st i lS l_ y fv WH hl_ hy1 hfv;rw[ah (b8 i)] at rf0;have hyn:y.length<=n:=hn y (az hy1);have sT:aC Hc (upd Hc Tt (.tup [fv,.ref yp])):=aC.upd nT;have zl:zt.length=i:=by rw[<-dR pz];simp
  refine⟨Tt,_,Z,i2 aq,Z,_,_,Z,_,_,Z,Z,?_⟩;refine⟨_,Z,LS (sT _ _ hR),_,Z,yp,Z,⟨_,i2 (sT _ _ (sH _ _ (sS _ _ hyp)))⟩,λD hD=>?_⟩;have nD:Hc D=none:=sT.free hD;have S2D:S2 D=none:=sH.free nD;have ani:=r9.grown sT;refine IA (xs:=y.map V.int) (K:=K) (λj dM H'=>∃G,C10 (GZ G0 H H' (setG Gn i G)) (aC S2 H') (Apart S2 G) (G R=none) (G ya=none) (G D=none) (H' R=some (.lst zt)) (H' ya=some (.lst WO)) (J8 t F G lS (Br on lS l_ (y.take j)).2 fv) (dM=((Br on lS l_ (y.take j)).1).map V.int))
   (by rw[aE];simp;lia) ⟨Gn i,?_,λb o e=>?_,apn i,nR i,ny i,(r9.le i).free nD,?_,?_,rf0,Z⟩ (λj dM H' _ ⟨_,_,z,_,_,_,_,_,_,_,_⟩=>i2 (z _ _ (sS _ _ hyp))) ?_ λj dM H' u Q hj iP eD ⟨G,z1,z2,z3,z4,z5,z6,z7,z8,z9,z10⟩ hu k2=>?_
  .have e:setG Gn i (Gn i)=Gn:=by funext q;by_cases h:q=i;(rw[h,gy]);(rw[f6 h])
   rw[e];exact ani.grown (aC.upd hD)
  .rw[aF (aI e S2D)];exact sT _ _ (sH _ _ e)
  .rw[aF (aI hR nD)];exact sT _ _ hR
  .rw[aF (aI hy nD)];exact sT _ _ hy
  .rintro dM H' iP eD ⟨G,z1,z2,z3,z4,z5,z6,z7,z8,z9,z10⟩;rw[aB,gk] at z9 z10;refine⟨R,_,_,Z,Z,z7,by rw[aE];lia,?_⟩;have aii:R≠D:=aI hR nD;have cR:dE [R] H' (upd H' R (.lst (zt++[.ref D]))):=dE.refl.d_ (by simp);refine⟨some fv,some (.ref yp),y6,zt++[.ref D],setG Gn i G,upd S2 D (.lst dM),Z,z1.side cR (λq hq=>.inr (by rw[show q=R from by simpa using hq];exact HRn)) (λq hq j=>?_),λb o e=>?_,λb o e=>?_,λj=>?_,?_,λj=>?_,aq,?_,λj=>?_,?_,λj rw l y' v h1 h2 h3 h4=>?_⟩
   .rw[show q=R from by simpa using hq];by_cases h:j=i
    .rw[h,gy];exact z4
    .rw[f6 h];exact nR j
   .have:=sS _ _ e;rw[aF (aI this S2D)];exact this
   .by_cases h:b=D
    .subst h;rw[aq] at e;cases e;rw[aF aii.symm];exact eD
    .rw[aF h] at e;rw[aF (aI e S2R)];exact z2 _ _ e
   .by_cases h:j=i
    .rw[h,gy];exact r8 z3 z6
    .rw[f6 h];exact r8 (apn j) ((r9.le j).free nD)
   .rw[aF aii];exact S2R
   .by_cases h:j=i
    .rw[h,gy];exact z4
    .rw[f6 h];exact nR j
   .rw[aF hyR];exact z8
   .by_cases h:j=i
    .rw[h,gy];exact z5
    .rw[f6 h];exact ny j
   .rw[de,jU];refine Paired.snoc (Paired.lR pz λx v q=>q.same λb o e=>?_) ⟨D,Z,?_⟩
    .rw[aF (aI e S2D)];exact e
    .have g1:Fg.getD i ⟨0,[]⟩=lS:=by rw[aG,WH];rfl
     have g2:ls.getD i ⟨[],[],[]⟩=l_:=by rw[aG,hl_];rfl
     have g3:ys.getD i []=y:=by rw[aG,hy1];rfl
     rw[aq,z10];simp only[g1,g2,g3]
   .by_cases h:j=i
    .rw[h] at h1 h2 h3 h4|-
     rw[gy,aj (ij i)];rw[WH] at h1;rw[hl_] at h2;rw[hy1] at h3;rw[hfv] at h4;cases h1;cases h2;cases h3;cases h4;exact z9
    .rw[f6 h];have:=st j rw l y' v h1 h2 h3 h4;by_cases hj:j<i
     .rw[aj hj] at this;rw[aj (by lia)];exact this
     .rw[ah hj] at this;rw[ah (by lia)];exact this
  .have hj':j<y.length:=by simpa using hj
   have hyj:y[j]? =some (y[j]'hj'):=aD hj';rw[aw,hyj] at hu;cases hu;obtain⟨a1,d1,rv1,b1,s1',v1,g1,rfl,zz⟩:=id z9;have sG1:aC G H':=by have:=z1.le i;rw[gy] at this;exact this
   have FH:aC F H':=(FS.trans (sS)).trans z2;have Hm:Apart F G:=λb=>by
    cases e:F b with
    |none=>exact .inl rfl
    |some o=>exact .inr ((z3 b).resolve_left (by rw[sS _ _ (FS _ _ e)];simp))
   refine⟨Z,_,Z,a1,_,_,Z,sG1 _ _ zz.ob,by cases on<;>rfl,_,Z,_,lS,_,_,F,G,Z,FH,sG1,Hm,z9,Nz rg _,λH4 k4 rf4=>?_⟩;have et:Br on lS l_ (y.take (j+1))=((Br on lS l_ (y.take j)).1++[(fR on lS (Br on lS l_ (y.take j)).2 (y[j]'hj')).1],(fR on lS (Br on lS l_ (y.take j)).2 (y[j]'hj')).2):=by
    unfold Br;rw[Mx.take_snoc hyj,QN]
   have f4:=z1.step i (H':=H4) (by rw[gy];exact k4);have eS:setG (setG Gn i G) i (grow (setG Gn i G i) H' H4)=setG Gn i (grow G H' H4):=by
    funext q;by_cases h:q=i
    .rw[h,gy,gy,gy]
    .rw[f6 h,f6 h,f6 h]
   rw[eS] at f4;have S24:aC S2 H4:=k4.other z2 z3;have eD4:=k4 D _ eD z6;refine k2 _ H4 eD4 ⟨grow G H' H4,f4.side (S:=[D]) (dE.refl.d_ (by simp)) (λq hq=>by rw[show q=D from by simpa using hq];exact r9.keep.dom nD) (λq hq p=>?_),λb o e=>?_,gU z2 z3,cS z7 z4,cS z8 z5,cS eD z6,?_,?_,?_,?_⟩
   .rw[show q=D from by simpa using hq];by_cases h:p=i
    .rw[h,gy];exact cS eD z6
    .rw[f6 h];exact(r9.le p).free nD
   .rw[aF (aI e S2D)];exact S24 _ _ e
   .rw[aF (aI hR nD)];exact k4 _ _ z7 z4
   .rw[aF (aI hy nD)];exact k4 _ _ z8 z5
   .rw[et];exact rf4
   .rw[et,z10];simp
 .rintro σ Hc ⟨y4,y5,y6,zt,Gn,S2,rfl,r9,sS,sH,apn,S2R,nR,hR,hy,ny,pz,st⟩;refine kd Hc zt Gn y4 y5 y6 r9 (sS.trans sH) hR (Paired.lR pz λx v q=>q.same λb o e=>dQ.mpr ⟨(aI e S2R),sH _ _ e⟩) λi rw l y v h1 h2 h3 h4=>?_;have:=st i rw l y v h1 h2 h3 h4;rw[aj (aN.mp h4).1] at this;exact this
def allR (on:Bool)(Fg:List bL)(ls:List bT)(ys:ly)(n:Nat):ly:=(aK n).map λi=>(Br on (Fg.getD i ⟨0,[]⟩) (ls.getD i ⟨[],[],[]⟩) (ys.getD i [])).1
def ah3 (t:fP)(on:Bool)(F G0 H:Hp)(Fg:List bL)(ls:List bT)(ys:ly)(jS:b_)(H':Hp)(JK:Nat->Hp):Prop:=GZ G0 H H' JK/\∀(i:Nat) rw l y v,Fg[i]? =some rw->ls[i]? =some l->ys[i]? =some y->jS[i]? =some v->J8 t F (JK i) rw (Br on rw l y).2 v
inductive acD (t:fP)(vs:b_)(H:Hp)(Q:VK)(E:XK):Prop|i(fl ja ra:lQ)(F G0:Hp)(Gs:Nat->Hp)(Fg:List bL)(ls:List bT)(jS:b_)(js:ie)(xs:ly)(kT:b_)(n:Nat)(_:vs=[.ref fl,.ref ja,.ref ra])(_:aa1 t F G0 H Gs Fg ls jS)(_:F fl=some (.lst jS))(_:F ja=some (iL (nI js)))(_:F ra=some (.lst kT))(_:Paired (λx v=>IsL x v F) xs kT)(_:∀j∈js,j<=3)(_:xs.length<=4)(_:xs.length=jS.length)(_:js.length=xs.length / 2)(_:∀x∈xs,x.length=n)(_:n<=64)(_:∀H' p zt JK,ah3 t true F G0 H Fg ls (ki sJ js xs) jS H' JK->H p=none->H' p=some (.lst zt)->Paired (λx v=>IsL x v H') (allR true Fg ls (ki sJ js xs) jS.length) zt->Q (.ref p) H')
def PK:T.AL.Ok P w mg rZ jf 5 (acD t):=by
 refine T.AL.ok λnd H vs Q E hr h=>?_;obtain⟨fl,ja,ra,F,G0,Gs,Fg,ls,jS,js,xs,kT,n,rfl,fs,hfl,Qz,qm,px,j3,x4,xl,jl,xn,CD,k⟩:=h;refine .i (ao (fL 3 nd (eE ax))
   (ao (gX PassesOwn.never rfl (Bm rfl T.IJ (ak (pv 0) (ak (ko T.kY (vh T) hr bG (ak (pv 2) (ak (pv 1) (ak (tZ (v:=V.ref t.yh) rfl T.qy.g rfl) ax)))) ax))) (yG rfl (fj (mv 4 nd) (fj (mv 5 nd) ph)))
    (aH (cP (pap (pv 3) (ak (GO [("number",6)] nd (fB (pv 5)) (mv 6 nd) (qN (pv 4) T.dk T.nV (zV T) hr bG (ak (pv 6) ax))) ax)))))
   (aH (bz (pv 3))))) ?_
 refine⟨by rw[aE];simp,λR nR=>?_⟩;have s0:aC H (upd H R (.lst [])):=aC.upd nR;have FH0:aC F (upd H R (.lst [])):=fs.sF.trans s0;refine⟨_,Z,_,Z,_,Z,true,trivial,ra,ja,xs,kT,js,F,n,Z,FH0,FH0 _ _ qm,px,FH0 _ _ Qz,j3,x4,jl,xn,CD,λH1 ya WO s1 hya nya py=>?_⟩;have s01:=s0.trans s1;have FR:F R=none:=fs.sF.free nR;have ao8:ya≠R:=bZ aq nya;have Hya:H ya=none:=(bO nya).2;refine⟨fl,ya,jS,WO,Z,i2 (s1 _ _ (FH0 _ _ hfl)),i2 hya,?_⟩;refine LM (on:=true) (S:=vp F (nw (upd H R (.lst [])) H1)) fs s01 (JC (FH0.trans s1) iK) (λj b=>?_) Fm (Fm _ _ hfl) hya ao8 (λj=>(fs.r9.le j).free Hya) py (by rw[show air true=sJ from rfl,gG];exact xl) (λy hy=>f7 (nj _ js xs xn y hy)) (by lia) (by lia) ?_ (s1 _ _ aq) nR (λH' zt JK y4 y5 y6 r9 sS hR pz st=>?_)
 .cases e:F b with
  |some o=>
   refine .inr ((fs.r9.sub j).free ?_);exact cS (fs.sF _ _ e) ((fs.ap b).resolve_left (by rw[e];simp))
  |none=>
   cases e2:nw (upd H R (.lst [])) H1 b with
   |none=>exact .inl (by unfold vp;rw[e];exact e2)
   |some o=>exact .inr ((fs.r9.le j).free (bO (aT.mp e2).1).2)
 .cases e:vp F (nw (upd H R (.lst [])) H1) R with
  |none=>rfl
  |some o=>
   unfold vp at e;rw[FR] at e;have:=(aT.mp e).1;rw[aq] at this;cases this
 .exact⟨_,Z,k H' R zt JK ⟨r9,st⟩ nR hR (Paired.lR pz λx v q=>q.same AW)⟩
inductive ZC (t:fP)(vs:b_)(H:Hp)(Q:VK)(E:XK):Prop|i(fl ja ra:lQ)(F G0:Hp)(Gs:Nat->Hp)(Fg:List bL)(ls:List bT)(jS:b_)(js:ie)(xs:ly)(kT:b_)(n:Nat)(_:vs=[.ref fl,.ref ja,.ref ra])(_:aa1 t F G0 H Gs Fg ls jS)(_:F fl=some (.lst jS))(_:F ja=some (iL (nI js)))(_:F ra=some (.lst kT))(_:Paired (λx v=>IsL x v F) xs kT)(_:∀j∈js,j<=3)(_:xs.length<=4)(_:xs.length=jS.length)(_:js.length=xs.length / 2)(_:∀x∈xs,x.length=n)(_:n<=64)(_:∀H' p zt JK,ah3 t false F G0 H Fg ls xs jS H' JK->H' p=some (.lst zt)->Paired (λx v=>IsL x v H') (ki zE js (allR false Fg ls xs jS.length)) zt->Q (.ref p) H')
def Zk (on:Bool)(rw:bL)(l:bT)(y:bX):(Br on rw l y).1.length=y.length:=vL _ _ _
def RZ:T.DA.Ok P w mg rZ jf 5 (ZC t):=by
 refine T.DA.ok λnd H vs Q E hr h=>?_;obtain⟨fl,ja,ra,F,G0,Gs,Fg,ls,jS,js,xs,kT,n,rfl,fs,hfl,Qz,qm,px,j3,x4,xl,jl,xn,CD,k⟩:=h;refine .i (ao (fL 3 nd (eE ax))
   (ao (gX PassesOwn.never rfl (Bm rfl T.IJ (ak (pv 0) (ak (pv 2) ax))) (yG rfl (fj (mv 4 nd) (fj (mv 5 nd) ph)))
    (aH (cP (pap (pv 3) (ak (GO [("e",6)] nd (fB (pv 5)) (mv 6 nd) (qN (pv 4) T.dk T.lV (xp T) hr bG (ak (pv 6) ax))) ax)))))
   (aH (bz (ko T.kY (vh T) hr bG (ak (pv 3) (ak (pv 1) (ak (tZ (v:=V.ref t.yj) rfl T.qA.g rfl) ax)))))))) ?_
 refine⟨by rw[aE];simp,λR nR=>?_⟩;have s0:aC H (upd H R (.lst [])):=aC.upd nR;have FH0:aC F (upd H R (.lst [])):=fs.sF.trans s0;have FR:F R=none:=fs.sF.free nR;have apj:∀j,Apart F (Gs j):=λj b=>by
  cases e:F b with
  |some o=>exact .inr ((fs.r9.sub j).free (cS (fs.sF _ _ e) ((fs.ap b).resolve_left (by rw[e];simp))))
  |none=>exact .inl rfl
 refine⟨_,Z,_,Z,fl,ra,jS,kT,Z,i2 (FH0 _ _ hfl),i2 (FH0 _ _ qm),?_⟩;refine LM (on:=false) (S:=F) fs s0 FH0 apj (aC.refl F) hfl (FH0 _ _ qm) (aI qm FR) (λj=>((apj j) ra).resolve_left (by rw[qm];simp)) px xl (λy hy=>f7 (xn y hy)) (by lia) (by lia) FR aq nR (λH' zt JK y4 y5 y6 r9 sS hR pz st=>?_);have iP:(allR false Fg ls xs jS.length).length=jS.length:=by simp[allR]
 refine⟨_,Z,_,Z,false,trivial,R,ja,allR false Fg ls xs jS.length,zt,js,but H' R,n,Z,AW,hR,pz,sS _ _ Qz,j3,by lia,by lia,λx hx=>?_,CD,λH2 p2 v2 s2 e2 n2 pr2=>?_⟩
 .obtain⟨i,hi,rfl⟩:=bj.mp hx;rw[Zk];have Ij:i<xs.length:=by rw[xl];exact cb.mp hi
  rw[aG,aD Ij];exact xn _ (adq Ij)
 .exact k H2 p2 v2 JK ⟨r9.grown s2,st⟩ e2 (Paired.lR pr2 λx v q=>q.same (JC (AW.trans s2) iK))
abbrev MdO (t:fP)(dm ba:lQ)(seen:Nat):HO:=.ins t.qg dm [("begins",.ref ba),("seen",.int seen)]
inductive MdA (t:fP)(G:Hp)(m:b9)(ma:lQ):Prop|i dm ba(_:G ma=some (MdO t dm ba m.seen))(_:G ba=some (iL (nI (AV m))))
def MdA.same {ma:lQ}(h:MdA t G m ma)(s:aC G G'):MdA t G' m ma:=by
 obtain⟨dm,ba,h1,h2⟩:=h;exact⟨dm,ba,s _ _ h1,s _ _ h2⟩
inductive akt (t:fP)(vs:b_)(H:Hp)(Q:VK)(E:XK):Prop|i x dx(_:vs=[.ref x])(_:H x=some (.ins t.qg dx []))(_:∀H' ba,dE [x] H H'->H' x=some (MdO t dx ba 0)->H' ba=some (iL (nI (AV (gi 64 6))))->H ba=none->Q .gQ H')
def U0:nI (AV (gi 64 6))=(aK 64).map (λ(i:Nat)=>512*(i:Int))++[32768]:=by decide
def Kz:T.vw.Ok P w mg rZ jf 1 (akt t):=by
 refine T.vw.ok λnd H vs Q E hr h=>?_;obtain⟨x,dx,rfl,hx,k⟩:=h;refine .i (ao (kh (pv 0) (aX mP (GO [("i",1)] nd (jx rfl T.iA (ak (fF T.D5) ax)) (mv 1 nd) (aX fQ aJ (pv 1))) (eE (ak (fF T.iQ) ax))))
   (aH (kh (pv 0) aJ))) ?_
 refine⟨64,Z,by decide,by decide,λD hD=>?_⟩;refine u7 (ys:=((aK 64).map (λ(i:Nat)=>512*(i:Int))).map V.int) hD (by rw[aE];simp) (by simp) (λi y H2 Q2 hy sm k2=>?_) λH2 e2 s2=>?_
 .have hi:i<64:=by have:=(aN.mp hy).1;simpa using this
  rw[aw,aw,bD hi] at hy;cases hy;refine⟨Z,_,Z,_,_,Z,Z,.inl ⟨by decide,by decide⟩,?_⟩;rw[zA];exact k2 _ (aC.refl _)
 .refine⟨by rw[aE];simp,λp1 n1=>?_⟩;have s3:aC H2 (upd H2 p1 (.lst [.int 32768])):=aC.upd n1;refine⟨D,p1,_,_,Z,Z,s3 _ _ e2,aq,by rw[aE];simp,λba n2=>?_⟩;have s4:=(s2.trans s3).trans (aC.upd (o:=.lst (((aK 64).map (λ(i:Nat)=>512*(i:Int))).map V.int++[V.int 32768])) n2);have nb:H ba=none:=(s2.trans s3).free n2;have nbx:ba≠x:=bZ hx nb;refine⟨_,Z,Z,s4 _ _ hx,T.jA,Z,Z,tH [("begins",.ref ba)],?_⟩;refine⟨_,Z,Z,aq,T.jA,Z,Z,tH [("begins",.ref ba),("seen",.int 0)],?_⟩;rw[eG];refine k _ ba (s4.chg.d_ (by simp)) aq ?_ nb;rw[aF nbx,aq,U0];simp
inductive agB (t:fP)(vs:b_)(H:Hp)(Q:VK)(E:XK):Prop|i ma m(_:vs=[.ref ma])(_:MdA t H m ma)(_:Ab m)(_:Q (.int m.rate) H)
def Ht (h:n≠0):Builtin.Int.intBits (n:Int)=n.log2+1:=by
 unfold Builtin.Int.intBits;simp[h]
def KA:T.vx.Ok P w mg rZ jf 1 (agB t):=by
 refine T.vx.ok λnd H vs Q E hr h=>?_;obtain⟨ma,m,rfl,⟨dm,ba,h1,h2⟩,ok,k⟩:=h;refine .i (aH (bz (gO (oq rfl) rfl T.ET AE (ak (fF T.RO) (ak (Ei (aX dz (cO (pv 0)) aJ)) ax))))) ?_;refine⟨_,Z,Z,h1,T.jA,Z,Z,_,_,Z,Z,Z,_,Z,Z,_,_,Z,?_⟩;have e:(if((Builtin.Int.intBits ((m.seen:Int)+2):Nat):Int)<6 then((Builtin.Int.intBits ((m.seen:Int)+2):Nat):Int) else 6)=((m.rate:Nat):Int):=by
  have h:=Ht (n:=m.seen+2) (by omega);have e0:((m.seen+2:Nat):Int)=(m.seen:Int)+2:=rfl;rw[e0] at h;rw[h];unfold aqy;rw[ok.slow,W5];split<;>split<;>omega
 exact e ▸ k
def AU (ok:Ab m)(h:i<=64):UW ((nI (AV m)).map V.int) (i:Int)=some (.int ((m.begin_ i:Nat):Int)):=by
 refine at_of rfl ?_;rw[aw,aw,Xk ok h];rfl
def Hq (ok:Ab m)(h:i<64):m.begin_ i=m.begins.getD i 0:=by
 unfold aqw aqx;rw[ok.len,aj h]
def Qh (b r x:Nat):((b:Int)*(1*2^((r:Int)).toNat-1)+(x:Int)) / 2^((r:Int)).toNat=(((b*(2^r-1)+x) / 2^r:Nat):Int):=by
 have hp:1<=2^r:=Fy;rw[bF,pL,nZ,fq,gY,L7 hp,z_];rfl
inductive akx (t:fP)(vs:b_)(H:Hp)(Q:VK)(E:XK):Prop|i(ma dm ba:lQ)(m:b9)(s:Nat)(_:vs=[.ref ma,.int s])(_:H ma=some (MdO t dm ba m.seen))(_:H ba=some (iL (nI (AV m))))(_:Ab m)(_:s<64)(_:∀H' Wx,dE [ma] H H'->H' ma=some (MdO t dm Wx (m.saw s).seen)->H' Wx=some (iL (nI (AV (m.saw s))))->H Wx=none->Q .gQ H')
def Nd:T.xF.Ok P w mg rZ jf 2 (akx t):=by
 refine T.xF.ok λnd H vs Q E hr h=>?_;obtain⟨ma,dm,ba,m,s,rfl,h1,h2,ok,hs,k⟩:=h;refine .i (ao (fL 2 nd (Fe (pv 0) T.jA T.vx (KA T) hr bG))
   (ao (fL 3 nd (cO (pv 0)))
   (ao (fL 4 nd (aX gw (aX uF aJ (pv 2)) aJ))
   (ao (psc 5 [("i",7)] nd (zj rfl T.iA (ak aJ (ak (aX dz (pv 1) aJ) ax))) (mv 7 nd) (aX sY (aX dz (aX fQ (wX (r:=P7 K) za (pv 3) (pv 7) (λ_ _=>rfl)) (pv 4)) (pv 7)) (pv 2)))
   (ao (psc 6 [("i",7)] nd (zj rfl T.iA (ak (aX dz (pv 1) aJ) (ak (fF T.D5) ax))) (mv 7 nd) (aX sY (aX gw (aX dz (aX fQ (wX (r:=P7 K) za (pv 3) (pv 7) (λ_ _=>rfl)) (pv 4)) (fF T.iQ)) (aX gw (fF T.D5) (pv 7))) (pv 2)))
   (ao (kh (pv 0) (aX mP (aX mP (aX mP (eE (ak aJ ax)) (pv 5)) (pv 6)) (eE (ak (fF T.iQ) ax))))
   (aH (kh (pv 0) (gO (oq rfl) rfl T.ET AE (ak (fF T.Pf) (ak (aX dz (cO (pv 0)) aJ) ax))))))))))) ?_
 have hr6:=ok.P9;refine⟨_,Z,ma,_,_,Z,h1,Z,ma,m,Z,⟨dm,ba,h1,h2⟩,ok,?_⟩;refine⟨_,Z,Z,h1,T.jA,Z,Z,?_⟩;refine⟨_,Z,_,_,Z,Z,⟨by lia,by lia,by decide⟩,_,_,Z,Z,?_⟩;refine⟨_,Z,_,_,Z,Z,_,_,Z,⟨by decide,by decide,by lia,by lia⟩,λD hD=>?_⟩;refine u7 (ys:=((aK s).map λk=>((jb m s (1+k):Nat):Int)).map V.int) hD (by rw[aE];simp;lia) (by simp) (λi y H2 Q2 hy sm k2=>?_) λH2 e2 s2=>?_
 .have hi:i<s:=by have:=(aN.mp hy).1;simpa using this
  rw[aw,aw,bD hi] at hy;cases hy;have eb:=AU ok (i:=1+i) (by lia);refine⟨Z,_,Z,_,Z,ba,_,_,_,Z,Z,i2 (sm _ _ h2),eb,_,Z,_,_,Z,Z,.inl ?_,_,Z,_,_,Z,Z,_,Z,_,_,Z,Z,(by show(0:Int)<=_;lia),?_⟩
  .have:=Hr ok (s:=1+i) (by lia);exact⟨by lia,by lia⟩
  .have e:=Qh (m.begin_ (1+i)) m.rate (1+i);have e2:((m.begin_ (1+i)*(2^m.rate-1)+(1+i)) / 2^m.rate)=jb m s (1+i):=by
    unfold jb;rw[Hq ok (by lia),aj (by lia)]
   rw[e2] at e;have f:Q2 (V.int ((jb m s (1+i):Nat):Int)) H2:=k2 _ (aC.refl _);rw[<-e] at f;exact f
 .refine⟨_,Z,_,_,Z,Z,_,_,Z,⟨by lia,by lia,by decide,by decide⟩,λD2 hD2=>?_⟩;refine u7 (ys:=((aK (63-s)).map λk=>((jb m s (s+1+k):Nat):Int)).map V.int) hD2 (by rw[aE];simp;lia) (by rw[c63 hs];simp) (λi y H3 Q2 hy sm k2=>?_) λH3 e3 s3=>?_
  .have hi:i<63-s:=by have:=(aN.mp hy).1;simpa using this
   rw[aw,aw,bD hi] at hy;cases hy;have h6:s+1+i<64:=Wo (by rw[ady];exact hi);have eb:=AU ok (i:=s+1+i) (cY h6);refine⟨Z,_,Z,_,Z,ba,_,_,_,Z,Z,i2 (sm _ _ (s2 _ _ h2)),eb,_,Z,_,_,Z,Z,.inl ?_,_,_,Z,Z,_,Z,_,_,Z,Z,_,_,Z,Z,_,Z,_,_,Z,Z,(by show(0:Int)<=_;lia),?_⟩
   .have:=Hr ok (s:=s+1+i) (cY h6);exact⟨by lia,by lia⟩
   .have e:=Qh (m.begin_ (s+1+i)) m.rate (32768-(64-(s+1+i)));have e2:((m.begin_ (s+1+i)*(2^m.rate-1)+(32768-(64-(s+1+i)))) / 2^m.rate)=jb m s (s+1+i):=by
     unfold jb;rw[Hq ok h6,ah (by lia)]
    rw[e2] at e;have f:Q2 (V.int ((jb m s (s+1+i):Nat):Int)) H3:=k2 _ (aC.refl _);rw[<-e] at f;have e4:((m.begin_ (s+1+i):Nat):Int)*(1*2^((m.rate:Int)).toNat-1)+((32768-(64-(s+1+i)):Nat):Int)=((m.begin_ (s+1+i):Nat):Int)*(1*2^((m.rate:Int)).toNat-1)+32768-(64-((s:Int)+1+(i:Int))):=by rw[c64 (cY h6)];exact(Int.add_sub_assoc ..).symm
    rw[e4] at f;exact f
  .have s23:=s2.trans s3;refine⟨by rw[aE];simp,λp1 n1=>?_⟩;have t1:aC H3 (upd H3 p1 (.lst [.int 0])):=aC.upd n1;refine⟨_,Z,p1,D,_,_,Z,Z,aq,t1 _ _ (s3 _ _ e2),by rw[aE];simp;lia,λp2 n2=>?_⟩;have t2:=t1.trans (aC.upd (o:=.lst ([V.int 0]++((aK s).map λk=>((jb m s (1+k):Nat):Int)).map V.int)) n2);refine⟨_,Z,p2,D2,_,_,Z,Z,aq,t2 _ _ e3,by rw[aE];simp;have:=lO 63 s;lia,λp3 n3=>?_⟩;have t3:=t2.trans (aC.upd (o:=.lst ([V.int 0]++((aK s).map λk=>((jb m s (1+k):Nat):Int)).map V.int++((aK (63-s)).map λk=>((jb m s (s+1+k):Nat):Int)).map V.int)) n3);refine⟨by rw[aE];simp,λp4 n4=>?_⟩;have t4:=t3.trans (aC.upd (o:=.lst [.int 32768]) n4);have h34:p3≠p4:=aI aq n4;refine⟨p3,p4,_,_,Z,Z,by rw[aF h34,aq],aq,by rw[aE];simp;lia,λp5 n5=>?_⟩;have nb5:H p5=none:=(s23.trans t4).free n5;have n5a:p5≠ma:=bZ h1 nb5;have s5:=(s23.trans t4).trans (aC.upd (o:=.lst ([V.int 0]++((aK s).map λk=>((jb m s (1+k):Nat):Int)).map V.int++((aK (63-s)).map λk=>((jb m s (s+1+k):Nat):Int)).map V.int++[V.int 32768])) n5);refine⟨_,Z,Z,s5 _ _ h1,T.jA,Z,Z,tH [("begins",.ref p5),("seen",.int m.seen)],?_⟩;refine⟨_,Z,Z,aq,T.jA,Z,Z,_,_,Z,Z,_,_,Z,?_⟩;have em:(if(m.seen:Int)+1<65535 then(m.seen:Int)+1 else 65535)=(((m.saw s).seen:Nat):Int):=by
    show _=((min 65535 (m.seen+1):Nat):Int);rw[W5];split<;>split<;>lia
   refine⟨_,Z,Z,aq,T.jA,Z,Z,(show _=([("begins",.ref p5),("seen",.int ((m.saw s).seen:Int))]:List (Str×V)) by rw[<-em];rfl),?_⟩;rw[eG];refine k _ p5 (s5.chg.d_ (by simp)) aq ?_ nb5;rw[aF n5a,aq];show _=some (iL (nI ((m.saw s).begins++[32768])));rw[So ok hs];simp[nI];rfl
inductive Zx (t:fP)(vs:b_)(H:Hp)(Q:VK)(E:XK):Prop|i ma m s(_:vs=[.ref ma,.int (s:Nat)])(_:MdA t H m ma)(_:Ab m)(_:s<64)(_:Q (.int (m.share s:Nat)) H)
def wU:T.oM.Ok P w mg rZ jf 1 (Zx t):=by
 refine T.oM.ok λnd H vs Q E hr h=>?_;obtain⟨ma,m,s,rfl,⟨dm,ba,h1,h2⟩,ok,hs,k⟩:=h;refine .i (aH (bz (aX gw (JV (cO (pv 0)) (aX dz (pv 1) aJ)) (JV (cO (pv 0)) (pv 1))))) ?_;refine⟨_,Z,Z,h1,T.jA,Z,Z,_,Z,_,_,Z,Z,ba,_,_,_,Z,Z,i2 h2,AU ok (i:=s+1) (by lia),_,Z,Z,h1,T.jA,Z,Z,_,Z,ba,_,_,_,Z,Z,i2 h2,AU ok (i:=s) (by lia),_,_,Z,Z,?_⟩;have e:((m.begin_ (s+1):Nat):Int)-((m.begin_ s:Nat):Int)=((m.share s:Nat):Int):=by
  have:=Hs ok hs;unfold aqz;lia
 rw[<-e] at k;exact k
inductive acI (t:fP)(vs:b_)(H:Hp)(Q:VK)(E:XK):Prop|i ma m k(_:vs=[.ref ma,.int (k:Nat)])(_:MdA t H m ma)(_:Ab m)(_:k<32768)(_:Q (.int (m.at_ k:Nat)) H)
def Bh:T.oN.Ok P w mg rZ jf 1 (acI t):=by
 refine T.oN.ok λnd H vs Q E hr h=>?_;obtain⟨ma,m,kk,rfl,⟨dm,ba,h1,h2⟩,ok,hk,k⟩:=h;refine .i (ao (fL 2 nd aJ)
   (ao (CV PassesOwn.never (rb LD (JV (cO (pv 0)) (aX dz (pv 2) aJ)) (pv 1)) (aH (Jl (i:=2) nd rfl (Ad rfl) aJ MX)))
   (aH (bz (pv 2))))) ?_
 have hin:=Tb ok hk;refine⟨λq σ H'=>H'=H/\∃i:Nat,i<=m.at_ kk/\q=m.at_ kk-i/\σ=[some (.ref ma),some (.int kk),some (.int i)],⟨_,Z,0,eT _,Z,Z⟩,?_⟩;rintro q σ H' ⟨rfl,i,hi,rfl,rfl⟩;refine⟨_,Z,Z,h1,T.jA,Z,Z,_,Z,_,_,Z,Z,ba,_,_,_,Z,Z,i2 h2,AU ok (i:=i+1) (bt (Nat.succ_le_succ hi) hin.1),_,Z,_,_,Z,Z,_,Z,?_⟩;by_cases h:i=m.at_ kk
 .rw[ae (by rw[h];lia)];refine fK ⟨_,Z,?_⟩;rw[h];exact k
 .have hi:=aba hi h;have ei:=i5 hi;have hm:=vO ok (s:=i+1) (d:=m.at_ kk-(i+1)) (by rw[ei];exact cY hin.1);rw[ei] at hm;rw[ag (uk.mpr (bt hm hin.2.1))];refine eY ⟨λgz H2=>H2=H'/\gz=[some (.ref ma),some (.int kk),some (.int (i+1:Nat))],λgz H2 ⟨e1,e2⟩=>⟨m.at_ kk-(i+1),pA hi (bq 1),e1,i+1,hi,Z,e2⟩,_,Z,_,_,Z,Z,Z,Z⟩
abbrev SV (t:fP)(dx da wa:lQ)(ay pd:Nat):HO:=.ins t.i7 dx [("lanes",.int ay),("models",.ref da),("passed",.int pd),("waiting",.ref wa)]
structure SW (t:fP)(G:Hp)(ay:Nat)(ms:List b9)(pd:Nat)(wl:List (Nat×Nat))(a dx da wa:lQ)(cg:List (Key×V))(uP:b_):Prop where
 ob:G a=some (SV t dx da wa ay pd)
 hd:G da=some (.dK cg)
 hw:G wa=some (.lst uP)
 nd:(cg.map (·.1)).Nodup
 ks:∀k∈cg.map (·.1),∃n:Nat,n<ms.length/\k=.inl (n:Int)
 wt:Paired (λ(p:Nat×Nat) v=>isP ((p.1:Int),(p.2:Int)) v G) wl uP
 wo:∀p∈wl,p.1<ms.length/\p.2<64
 GK:oJ ms
 ml:ms.length<=64
 no:∀(n:Nat) m,ms[n]? =some m->mS cg (.inl (n:Int))=none->m=gi 64 6
 ye:∀(n:Nat) m v,ms[n]? =some m->mS cg (.inl (n:Int))=some v->∃ma,v=.ref ma/\MdA t G m ma
 inj:∀(n n':Nat) v,mS cg (.inl (n:Int))=some v->mS cg (.inl (n':Int))=some v->n=n'
theorem M4:∀(n:Nat) (cg:List (Key×V)),(cg.map (·.1)).Nodup->(∀k∈cg.map (·.1),∃i:Nat,i<n/\k=.inl (i:Int))->cg.length<=n
 |0,cg,_,h=>by
  cases cg with
  |nil=>simp
  |cons a r=>obtain⟨i,hi,_⟩:=h a.1 (by simp);lia
 |n+1,cg,nd,h=>by
  by_cases hm:(.inl (n:Int):Key)∈cg.map (·.1)
  .have h1:=Le nd hm;have h2:=M4 n (uY cg (.inl (n:Int))) (IK nd) λk hk=>by
    obtain⟨p,hp,rfl⟩:=bj.mp hk;obtain⟨i,hi,e⟩:=h p.1 (bj.mpr ⟨p,Lg hp,Z⟩);have GI:p.1≠.inl (n:Int):=by simpa[uY] using(oV.mp hp).2
    refine⟨i,?_,e⟩;by_cases q:i=n
    .subst q;exact absurd e GI
    .lia
   lia
  .have h2:=M4 n cg nd λk hk=>by
    obtain⟨i,hi,e⟩:=h k hk;refine⟨i,?_,e⟩;by_cases q:i=n
    .subst q;rw[e] at hk;exact absurd hk hm
    .lia
   lia
def SW.same {ms:List b9}{da wa:lQ}{cg:List (Key×V)}(b:SW t G ay ms pd wl a dx da wa cg uP)(s:aC G G'):SW t G' ay ms pd wl a dx da wa cg uP:=
 ⟨s _ _ b.ob,s _ _ b.hd,s _ _ b.hw,b.nd,b.ks,Paired.lR b.wt λp v z=>z.same s,b.wo,b.GK,b.ml,b.no,λn m v h1 h2=>by
  obtain⟨ma,e,z⟩:=b.ye n m v h1 h2;exact⟨ma,e,z.same s⟩,b.inj⟩
inductive NQ (t:fP)(G:Hp)(ay:Nat)(ms:List b9)(pd:Nat)(wl:List (Nat×Nat))(a:lQ):Prop|i dx da wa cg uP(_:SW t G ay ms pd wl a dx da wa cg uP)
def NQ.same {ms:List b9}(b:NQ t G ay ms pd wl a)(s:aC G G'):NQ t G' ay ms pd wl a:=by
 obtain⟨dx,da,wa,cg,uP,z⟩:=b;exact⟨dx,da,wa,cg,uP,z.same s⟩
inductive akp (t:fP)(vs:b_)(H:Hp)(Q:VK)(E:XK):Prop|i(x dx:lQ)(ay:Nat)(_:vs=[.ref x,.int ay])(_:H x=some (.ins t.i7 dx []))(_:∀H' da wa,dE [x] H H'->H' x=some (SV t dx da wa ay 0)->H' da=some (.dK [])->H' wa=some (.lst [])->H da=none->H wa=none->Q .gQ H')
def CH:T.tO.Ok P w mg rZ jf 1 (akp t):=by
 refine T.tO.ok λnd H vs Q E hr h=>?_;obtain⟨x,dx,ay,rfl,hx,k⟩:=h;refine .i (ao (kh (pv 0) (pv 1))
   (ao (kh (pv 0) Y3)
   (ao (kh (pv 0) aJ)
   (aH (kh (pv 0) (eE ax)))))) ?_
 refine⟨_,Z,_,Z,Z,hx,T.ic,Z,Z,tH [("lanes",.int ay)],?_⟩;have c1:dE [x] H (upd H x (.ins t.i7 dx [("lanes",.int ay)])):=dE.refl.d_ (by simp);have x1:upd H x (.ins t.i7 dx [("lanes",.int ay)]) x=some (.ins t.i7 dx [("lanes",.int ay)]):=aq;generalize upd H x (.ins t.i7 dx [("lanes",.int ay)])=H1 at c1 x1|-
 intro da n1;have s1:aC H1 (upd H1 da (.dK [])):=aC.upd n1;have nda:H da=none:=fU c1 x1 n1;have ndx:da≠x:=bZ hx nda;refine⟨_,Z,Z,s1 _ _ x1,T.ic,Z,Z,tH [("lanes",.int ay),("models",.ref da)],?_⟩;refine⟨_,Z,Z,aq,T.ic,Z,Z,tH [("lanes",.int ay),("models",.ref da),("passed",.int 0)],?_⟩;rw[eG];have c2:dE [x] H (upd (upd H1 da (.dK [])) x (.ins t.i7 dx [("lanes",.int ay),("models",.ref da),("passed",.int 0)])):=(c1.trans s1.chg).d_ (by simp);have x2:upd (upd H1 da (.dK [])) x (.ins t.i7 dx [("lanes",.int ay),("models",.ref da),("passed",.int 0)]) x=some (.ins t.i7 dx [("lanes",.int ay),("models",.ref da),("passed",.int 0)]):=aq;have d2:upd (upd H1 da (.dK [])) x (.ins t.i7 dx [("lanes",.int ay),("models",.ref da),("passed",.int 0)]) da=some (.dK []):=by rw[aF ndx,aq]
 generalize upd (upd H1 da (.dK [])) x (.ins t.i7 dx [("lanes",.int ay),("models",.ref da),("passed",.int 0)])=H2 at c2 x2 d2|-
 refine⟨by rw[aE];simp,λwa n2=>?_⟩;have s2:aC H2 (upd H2 wa (.lst [])):=aC.upd n2;have nwa:H wa=none:=fU c2 x2 n2;have nwx:wa≠x:=bZ hx nwa;refine⟨_,Z,Z,s2 _ _ x2,T.ic,Z,Z,tH [("lanes",.int ay),("models",.ref da),("passed",.int 0),("waiting",.ref wa)],?_⟩;exact k _ da wa ((c2.trans s2.chg).d_ (by simp)) aq (by rw[aF ndx];exact s2 _ _ d2) (by rw[aF nwx,aq]) nda nwa
def AR (n:Nat):oJ (aM n (gi 64 6)):=λm hm=>by
 rw[(fb.mp hm).2];exact Ab.even
def SW.na {ms:List b9}{da wa:lQ}{cg:List (Key×V)}(b:SW t G ay ms pd wl a dx da wa cg uP):a≠da/\a≠wa/\da≠wa:=
 ⟨g_ b.ob b.hd (by intro z;cases z),g_ b.ob b.hw (by intro z;cases z),g_ b.hd b.hw (by intro z;cases z)⟩
def akO (h:Paired (λ(p:Nat×Nat) v=>isP ((p.1:Int),(p.2:Int)) v G) wl uP)(ok:Ab m):HO.lst uP≠iL (nI (AV m)):=by
 intro e;have e:uP=(nI (AV m)).map V.int:=by injection e
 have hl:(AV m).length=65:=Ol ok;cases h with
 |nil=>have:=congrArg lA e;simp at this;lia
 |cons h1 h2=>
  obtain⟨p,rfl,_⟩:=h1;cases hb:AV m with
  |nil=>rw[hb] at hl;simp at hl
  |cons x r=>rw[hb] at e;simp at e
inductive VU (t:fP)(vs:b_)(H:Hp)(Q:VK)(E:XK):Prop|i(a dx da wa:lQ)(cg:List (Key×V))(uP:b_)(ay:Nat)(ms:List b9)(pd:Nat)(wl:List (Nat×Nat))(n:Nat)(G:Hp)(_:vs=[.ref a,.int n])(_:aC G H)(_:SW t G ay ms pd wl a dx da wa cg uP)(_:n<ms.length)(_:∀ma H' Pj,fw G H H'->SW t (grow G H H') ay ms pd wl a dx da wa Pj uP->mS Pj (.inl (n:Int))=some (.ref ma)->Q (.ref ma) H')
def pW:T.kX.Ok P w mg rZ jf 3 (VU t):=by
 refine T.kX.ok λnd H vs Q E hr h=>?_;obtain⟨a,dx,da,wa,cg,uP,ay,ms,pd,wl,n,G,rfl,sG,b,hn,k⟩:=h;have HA:=sG _ _ b.ob;have HD:=sG _ _ b.hd;refine .i (ao (gj (Sa (VH (Yo hr) (pv 1) (Jj (pv 0) rfl))) (aH (acm (Yo hr) (Jj (pv 0) rfl) (pv 1) (PV T.aa7 (Kz T) (hr.mono (by decide)) rfl T.XQ T.vw.b .nil bG) rfl)) cQ)
   (aH (bz (ace (Yo hr) (Jj (pv 0) rfl) (pv 1) (λ_ _=>rfl))))) ?_
 obtain⟨m,hm⟩:∃m,ms[n]? =some m:=⟨_,aD hn⟩;refine⟨_,Z,_,Z,Z,HA,T.ic,Z,Z,da,_,Z,J0.k (k:=.inl (n:Int)) HD,_,Z,?_⟩;cases hv:mS cg (.inl (n:Int)) with
 |some v=>
  obtain⟨ma,rfl,_⟩:=b.ye n m v hm hv;refine fK ⟨_,Z,Z,HA,T.ic,Z,Z,_,Z,da,.ref ma,Z,?_,k ma H cg fw.refl (b.same (y_ sG)) hv⟩;have:=J0.k (k:=.inl (n:Int)) HD;rw[hv] at this;exact this
 |none=>
  have hk:=M4 ms.length cg b.nd b.ks;have Lq:=b.ml;refine eY λx sR n1 n2 n3=>⟨x,sR,Z,aq,λH3 ba c hx hba nba=>⟨Z,?_⟩⟩;have s1:aC H (upd (upd H sR (.own x)) x (.ins t.qg sR [])):=gA n1 n2;have s3:aC H H3:=dE.back s1 c (by intro y hy;rw[show y=x from by simpa using hy];exact n1);have nbH:H ba=none:=s1.free nba;refine⟨_,Z,Z,s3 _ _ HA,T.ic,Z,Z,_,Z,da,_,Z,.inl ⟨cg,.inl (n:Int),s3 _ _ HD,Z,by rw[aE];lia,Z⟩,?_⟩;have nad:=b.na.1;have HA4:upd H3 da (.dK (putK cg (.inl (n:Int)) (.ref x))) a=some (SV t dx da wa ay pd):=by rw[aF nad];exact s3 _ _ HA
  have gt:mS (putK cg (.inl (n:Int)) (V.ref x)) (.inl (n:Int))=some (.ref x):=by rw[Dh,aj rfl]
  refine⟨_,Z,Z,HA4,T.ic,Z,Z,_,Z,da,.ref x,Z,?_,?_⟩
  .have:=J0.k (k:=.inl (n:Int)) (aq (H:=H3) (a:=da) (o:=.dK (putK cg (.inl (n:Int)) (.ref x))));rw[gt] at this;exact this
  have kp:fw G H (upd H3 da (.dK (putK cg (.inl (n:Int)) (.ref x)))):=λy o e g=>by
   rw[aF (bZ b.hd g)];exact s3 _ _ e
  have gs:∀y o,G y=some o->y≠da->grow G H (upd H3 da (.dK (putK cg (.inl (n:Int)) (.ref x)))) y=some o:=λy o e ny=>bC.mpr ⟨.inl (by rw[e];rfl),by rw[aF ny];exact s3 _ _ (sG _ _ e)⟩;have apr:x≠da:=bZ HD n1;have apb:ba≠da:=bZ HD nbH;have hme:m=gi 64 6:=b.no n m hm hv;refine k x _ (putK cg (.inl (n:Int)) (.ref x)) kp ⟨gs _ _ b.ob nad,bC.mpr ⟨.inl (by rw[b.hd];rfl),aq⟩,gs _ _ b.hw b.na.2.2.symm,ab3 _ b.nd hv,λq hq=>?_,Paired.lR b.wt λp v z=>?_,b.wo,b.GK,b.ml,λq m' h1 h2=>?_,λq m' v h1 h2=>?_,λq q' v h1 h2=>?_⟩ gt
  .rw[P6 _ hv,jU] at hq;rcases c_.mp hq with h|h
   .exact b.ks q h
   .exact⟨n,hn,by simpa using h⟩
  .obtain⟨p1,rfl,QA⟩:=z;exact⟨p1,Z,gs _ _ QA (g_ QA b.hd (by intro z;cases z))⟩
  .rw[Dh] at h2;by_cases e:(.inl (q:Int):Key)=.inl (n:Int)
   .rw[aj e] at h2;cases h2
   .rw[ah e] at h2;exact b.no q m' h1 h2
  .rw[Dh] at h2;by_cases e:(.inl (q:Int):Key)=.inl (n:Int)
   .rw[aj e] at h2;cases h2;have hq:q=n:=by
     have:(q:Int)=(n:Int):=by injection e
     lia
    rw[hq,hm] at h1;cases h1;rw[hme];exact⟨x,Z,sR,ba,bC.mpr ⟨.inr n1,by rw[aF apr];exact hx⟩,bC.mpr ⟨.inr nbH,by rw[aF apb];exact hba⟩⟩
   .rw[ah e] at h2;obtain⟨ma,rfl,dm,bb,z1,z2⟩:=b.ye q m' v h1 h2;exact⟨ma,Z,dm,bb,gs _ _ z1 (g_ z1 b.hd (by intro z;cases z)),gs _ _ z2 (g_ z2 b.hd (by intro z;cases z))⟩
  .have old:∀(i:Nat),mS cg (.inl (i:Int))≠some (.ref x):=λi e=>by
    have hi:=b.ks _ (ac6 e);obtain⟨i',Ij,e'⟩:=hi;have:(i:Int)=(i':Int):=by injection e'
    obtain⟨m',hm'⟩:∃m,ms[i]? =some m:=⟨_,aD (by lia)⟩;obtain⟨ma,e2,dm,bb,z1,_⟩:=b.ye i m' _ hm' e;cases e2;rw[sG _ _ z1] at n1;cases n1
   rw[Dh] at h1 h2;by_cases e:(.inl (q:Int):Key)=.inl (n:Int)
   .rw[aj e] at h1;cases h1;by_cases e':(.inl (q':Int):Key)=.inl (n:Int)
    .have a1:(q:Int)=(n:Int):=by injection e
     have a2:(q':Int)=(n:Int):=by injection e'
     lia
    .rw[ah e'] at h2;exact absurd h2 (old q')
   .rw[ah e] at h1;by_cases e':(.inl (q':Int):Key)=.inl (n:Int)
    .rw[aj e'] at h2;cases h2;exact absurd h1 (old q)
    .rw[ah e'] at h2;exact b.inj q q' v h1 h2
inductive agv (t:fP)(vs:b_)(H:Hp)(Q:VK)(E:XK):Prop|i(a dx da wa:lQ)(ay pd:Nat)(_:vs=[.ref a])(_:H a=some (SV t dx da wa ay pd))(_:1<=ay)(_:Q (.int (pd%ay:Nat)) H)
def CJ:T.tP.Ok P w mg rZ jf 1 (agv t):=by
 refine T.tP.ok λnd H vs Q E hr h=>?_;obtain⟨a,dx,da,wa,ay,pd,rfl,h1,hl,k⟩:=h;refine .i (aH (bz (aX pX (cO (pv 0)) (cO (pv 0))))) ?_;exact⟨_,Z,Z,h1,T.ic,Z,Z,_,Z,Z,h1,T.ic,Z,Z,_,_,Z,Z,(by show(0:Int)<_;lia),k⟩
def pZ (ms:List b9)(wl:List (Nat×Nat)):List b9:=wl.foldl (λ(ms:aeI) (p:Nat×Nat)=>ms.modify p.1 λ(x:b9)=>x.saw p.2) ms
def US {ms:List b9}(h:oJ ms)(n:Nat){s:Nat}(hs:s<64):oJ (ms.modify n λx=>x.saw s):=λm hm=>by
 obtain⟨i,hi⟩:=dJ.mp hm;rw[rX] at hi;cases e:ms[i]? with
 |none=>rw[e] at hi;cases hi
 |some x=>
  rw[e] at hi;have hx:=h x (az e);simp at hi;by_cases q:n=i
  .rw[aj q] at hi;rw[<-hi];exact hx.saw hs
  .rw[ah q] at hi;rw[<-hi];exact hx
def SW.see {ms:List b9}{da wa:lQ}{cg:List (Key×V)}(b:SW t G ay ms pd wl a dx da wa cg uP)(sG:aC G H1){s:Nat}{ma dm Wx:lQ}(hm:ms[n]? =some m)(hv:mS cg (.inl (n:Int))=some (.ref ma))(NY:G ma=some (MdO t dm ba m.seen))(hs:s<64)
  (c:dE [ma] H1 H2) (h1:H2 ma=some (MdO t dm Wx (m.saw s).seen)) (h2:H2 Wx=some (iL (nI (AV (m.saw s))))) (nb:H1 Wx=none):fw G H1 H2/\SW t (grow G H1 H2) ay (ms.modify n λx=>x.saw s) pd wl a dx da wa cg uP:=by
 have gs:∀y o,G y=some o->y≠ma->grow G H1 H2 y=some o:=λy o e ny=>bC.mpr ⟨.inl (by rw[e];rfl),c.one (sG _ _ e) ny⟩;have ml:(ms.modify n λx=>x.saw s).length=ms.length:=aao ..;refine⟨λy o e g=>c.one e (bZ NY g),gs _ _ b.ob (g_ b.ob NY (by intro z;injection z with _ _ z;cases z)),gs _ _ b.hd (g_ b.hd NY (by intro z;cases z)),gs _ _ b.hw (g_ b.hw NY (by intro z;cases z)),b.nd,by rw[ml];exact b.ks,Paired.lR b.wt λp v z=>?_,by rw[ml];exact b.wo,US b.GK n hs,by rw[ml];exact b.ml,λq m' z1 z2=>?_,λq m' v z1 z2=>?_,b.inj⟩
 .obtain⟨p1,rfl,QA⟩:=z;exact⟨p1,Z,gs _ _ QA (g_ QA NY (by intro z;cases z))⟩
 .rw[rX] at z1;by_cases e:n=q
  .rw[<-e,hv] at z2;cases z2
  .simp only[ah e] at z1;exact b.no q m' (by simpa using z1) z2
 .rw[rX] at z1;by_cases e:n=q
  .simp only[aj e] at z1;rw[<-e,hm] at z1;rw[<-e,hv] at z2;cases z1;cases z2;exact⟨ma,Z,dm,Wx,bC.mpr ⟨.inl (by rw[NY];rfl),h1⟩,bC.mpr ⟨.inr nb,h2⟩⟩
  .simp only[ah e] at z1;obtain⟨mb,rfl,d1,b1,q1,q2⟩:=b.ye q m' v (by simpa using z1) z2;have nm:mb≠ma:=by
    rintro rfl;exact e (b.inj n q _ hv z2)
   exact⟨mb,Z,d1,b1,gs _ _ q1 nm,gs _ _ q2 (g_ q2 NY (by intro z;cases z))⟩
def Sq (ms:List b9)(wl:List (Nat×Nat)):(pZ ms wl).length=ms.length:=by
 unfold pZ;induction wl generalizing ms with
 |nil=>rfl
 |cons p r ih=>rw[bR,ih,aao]
inductive Uo (t:fP)(vs:b_)(H:Hp)(Q:VK)(E:XK):Prop|i(a:lQ)(ay:Nat)(ms:List b9)(pd:Nat)(wl:List (Nat×Nat))(G:Hp)(_:vs=[.ref a])(_:aC G H)(_:NQ t G ay ms pd wl a)(_:1<=ay)(_:wl.length<=1000000)(_:∀H',fw G H H'->NQ t (grow G H H') ay (if(pd+1)%ay=0 then pZ ms wl else ms) (pd+1) (if(pd+1)%ay=0 then[] else wl) a->Q .gQ H')
def o_:T.j7.Ok P w mg rZ jf 4 (Uo t):=by
 refine T.j7.ok λnd H vs Q E hr h=>?_;obtain⟨a,ay,ms,pd,wl,G,rfl,sG,⟨dx,da,wa,cg,uP,b⟩,hl,hwl,k⟩:=h;refine .i (ao (P4 (pv 0) aJ Yt)
   (aH (gj (rb lp (aX pX (cO (pv 0)) (cO (pv 0))) aJ) (ao (gX PassesOwn.never rfl (fB (cO (pv 0))) (mv 1 nd)
    (aH (cP (qN (qN (pv 0) T.ic T.kX (pW T) hr bG (ak (wX (r:=Sb K) D1 (pv 1) aJ (λ_ _=>rfl)) ax)) T.jA T.xF (Nd T) hr bG (ak (wX (r:=Sb K) D1 (pv 1) aJ (λ_ _=>rfl)) ax)))))
   (aH (kh (pv 0) (eE ax)))) cQ))) ?_
 have HA:=sG _ _ b.ob;refine⟨_,Z,Z,HA,T.ic,Z,Z,_,_,Z,Z,_,_,_,HA,Z,Z,?_⟩;have eo:HO.ins t.i7 dx (vj "passed" (V.int ((pd:Int)+1)) [("lanes",.int ay),("models",.ref da),("passed",.int pd),("waiting",.ref wa)])=SV t dx da wa ay (pd+1):=rfl;rw[eo];have c1:dE [a] H (upd H a (SV t dx da wa ay (pd+1))):=dE.refl.d_ (by simp);have Iy:fw G H (upd H a (SV t dx da wa ay (pd+1))):=λy o e g=>c1.one e (bZ b.ob g);have b1:SW t (grow G H (upd H a (SV t dx da wa ay (pd+1)))) ay ms (pd+1) wl a dx da wa cg uP:=by
  have gs:∀y o,G y=some o->y≠a->grow G H (upd H a (SV t dx da wa ay (pd+1))) y=some o:=λy o e ny=>bC.mpr ⟨.inl (by rw[e];rfl),c1.one (sG _ _ e) ny⟩;refine⟨bC.mpr ⟨.inl (by rw[b.ob];rfl),aq⟩,gs _ _ b.hd b.na.1.symm,gs _ _ b.hw b.na.2.1.symm,b.nd,b.ks,Paired.lR b.wt λp v z=>?_,b.wo,b.GK,b.ml,b.no,λq m' v z1 z2=>?_,b.inj⟩
  .obtain⟨p1,rfl,QA⟩:=z;exact⟨p1,Z,gs _ _ QA (g_ QA b.ob (by intro z;cases z))⟩
  .obtain⟨mb,rfl,d1,bb1,q1,q2⟩:=b.ye q m' v z1 z2;exact⟨mb,Z,d1,bb1,gs _ _ q1 (g_ q1 b.ob (by intro z;injection z with _ _ z;cases z)),gs _ _ q2 (g_ q2 b.ob (by intro z;cases z))⟩
 have Wh:upd H a (SV t dx da wa ay (pd+1)) a=some (SV t dx da wa ay (pd+1)):=aq;generalize upd H a (SV t dx da wa ay (pd+1))=H1 at c1 Iy b1 Wh|-
 refine⟨_,Z,Z,Wh,T.ic,Z,Z,_,Z,Z,Wh,T.ic,Z,Z,_,_,Z,Z,(by show(0:Int)<_;lia),Z,_,Z,?_⟩;rw[n_];have em:(((pd+1:Nat):Int)%(ay:Int))=(((pd+1)%ay:Nat):Int):=rfl;rw[em];by_cases hz:(pd+1)%ay=0
 .rw[ag (by lia)];rw[aj hz,aj hz] at k;refine eY ?_;refine⟨_,Z,Z,Wh,T.ic,Z,Z,wa,Z,⟨uP,i2 (cj _ _ b1.hw)⟩,?_⟩;refine qD (xs:=uP) (λi σ H'=>X2 λy1 Pj=>C3 (σ=[some (.ref a),y1]) (fw G H H') (SW t (grow G H H') ay (pZ ms (wl.take i)) (pd+1) wl a dx da wa Pj uP)) ⟨none,cg,Z,Iy,b1⟩ (λi σ H' _ ⟨_,_,_,_,bb⟩=>i2 (cj _ _ bb.hw)) ?_ ?_
  .rintro i v σ H' hv ⟨y1,Pj,rfl,kp,bb⟩;obtain⟨p,hp,pp,rfl,hpp⟩:=iR bb.wt hv;have hw:=b.wo p (az hp);have gl:=Sq ms (wl.take i);refine⟨_,Z,a,_,_,Z,cj _ _ bb.ob,Z,_,Z,pp,_,_,_,Z,Z,i2 (cj _ _ hpp),Z,a,dx,da,wa,Pj,uP,ay,_,pd+1,wl,p.1,grow G H H',Z,cj,bb,by rw[gl];exact hw.1,λma H2 afT Bf bb2 hv2=>?_⟩;obtain⟨m,hm⟩:∃m,(pZ ms (wl.take i))[p.1]? =some m:=⟨_,aD (by rw[gl];exact hw.1)⟩;obtain⟨ma',e,dm,ba,NY,hba⟩:=bb2.ye p.1 m _ hm hv2;cases e;have YT:=bb2.GK m (az hm);have avs:=bb2.wt;obtain⟨p',hp',pp',e',aol⟩:=iR bb2.wt hv;cases e';rw[hp] at hp';cases hp';refine⟨ma,dm,_,Z,cj _ _ NY,Z,_,Z,pp,_,_,_,Z,Z,i2 (cj _ _ aol),Z,ma,dm,ba,m,p.2,Z,cj _ _ NY,cj _ _ hba,YT,hw.2,λH3 Wx c3 h31 h32 n3=>?_⟩;obtain⟨QC,bb3⟩:=bb2.see cj hm hv2 NY hw.2 c3 h31 h32 n3;refine⟨some (.ref pp),afT,Z,kp.trans ?_,?_⟩
   .exactλy o e g=>QC y o (Bf y o e g) (cS e g)
   .have e1:pZ ms (wl.take (i+1))=(pZ ms (wl.take i)).modify p.1 λx=>x.saw p.2:=by
     unfold pZ;rw[Mx.take_snoc hp,dB];rfl
    rw[e1];exact bb3.same ((og Bf).trans (og kp))
  .rintro σ H' ⟨y1,Pj,rfl,kp,bb⟩;rw[cq (by rw[dR b.wt];exact bq _)] at bb;refine⟨by rw[aE];simp,λp1 n1=>?_⟩;have s1:aC H' (upd H' p1 (.lst [])):=aC.upd n1;have SY:=cj _ _ bb.ob;refine⟨_,Z,Z,s1 _ _ SY,T.ic,Z,Z,tH [("lanes",.int ay),("models",.ref da),("passed",.int ((pd+1:Nat):Int)),("waiting",.ref p1)],?_⟩;have n1a:p1≠a:=bZ SY n1;have c2:dE [a] H' (upd (upd H' p1 (.lst [])) a (SV t dx da p1 ay (pd+1))):=s1.chg.d_ (by simp);have gs:∀y o,grow G H H' y=some o->y≠a->grow G H (upd (upd H' p1 (.lst [])) a (SV t dx da p1 ay (pd+1))) y=some o:=λy o e ny=>by
    obtain⟨z1,z2⟩:=bC.mp e;exact bC.mpr ⟨z1,c2.one z2 ny⟩
   refine k _ (λy o e g=>c2.one (kp y o e g) (bZ b.ob g)) ⟨dx,da,p1,Pj,[],bC.mpr ⟨.inl (by rw[b.ob];rfl),aq⟩,gs _ _ bb.hd bb.na.1.symm,bC.mpr ⟨kp.dom n1,by rw[aF n1a,aq]⟩,bb.nd,bb.ks,.nil,(λp hp=>by simp at hp),bb.GK,bb.ml,bb.no,λq m' v z1 z2=>?_,bb.inj⟩;obtain⟨mb,rfl,d1,bb1,q1,q2⟩:=bb.ye q m' v z1 z2;exact⟨mb,Z,d1,bb1,gs _ _ q1 (g_ q1 bb.ob (by intro z;injection z with _ _ z;cases z)),gs _ _ q2 (g_ q2 bb.ob (by intro z;cases z))⟩
 .rw[ae (by lia)];rw[ah hz,ah hz] at k;exact fK (k H1 Iy ⟨dx,da,wa,cg,uP,b1⟩)
inductive Up (t:fP)(vs:b_)(H:Hp)(Q:VK)(E:XK):Prop|i(a:lQ)(ay:Nat)(ms:List b9)(pd:Nat)(wl:List (Nat×Nat))(n s:Nat)(G:Hp)(_:vs=[.ref a,.int n,.int s])(_:aC G H)(_:NQ t G ay ms pd wl a)(_:1<=ay)(_:wl.length<=100000)(_:n<ms.length)(_:s<64)(_:∀H',fw G H H'->NQ t (grow G H H') ay (if(pd+1)%ay=0 then pZ ms (wl++[(n,s)]) else ms) (pd+1) (if(pd+1)%ay=0 then[] else wl++[(n,s)]) a->Q .gQ H')
def rC:T.kx.Ok P w mg rZ jf 5 (Up t):=by
 refine T.kx.ok λnd H vs Q E hr h=>?_;obtain⟨a,ay,ms,pd,wl,n,s,G,rfl,sG,⟨dx,da,wa,cg,uP,b⟩,hl,hwl,hn,hs,k⟩:=h;refine .i (ao (cP (pap (cO (pv 0)) (ak (sZ (ak (pv 1) (ak (pv 2) ax))) ax)))
   (aH (cP (Fe (pv 0) T.ic T.j7 (o_ T) hr bG)))) ?_
 have HA:=sG _ _ b.ob;have HW:=sG _ _ b.hw;have wl2:uP.length=wl.length:=(dR b.wt).symm;refine⟨_,Z,Z,HA,T.ic,Z,Z,LS HW,_,Z,_,Z,by rw[aE];simp,λtp n1=>?_⟩;have s1:aC H (upd H tp (.tup [.int n,.int s])):=aC.upd n1;refine⟨wa,_,_,Z,Z,s1 _ _ HW,by rw[aE];lia,?_⟩;have nwt:tp≠wa:=bZ HW n1;have c1:dE [wa] H (upd (upd H tp (.tup [.int n,.int s])) wa (.lst (uP++[.ref tp]))):=s1.chg.d_ (by simp);have Iy:fw G H (upd (upd H tp (.tup [.int n,.int s])) wa (.lst (uP++[.ref tp]))):=λy o e g=>c1.one e (bZ b.hw g);have b1:SW t (grow G H (upd (upd H tp (.tup [.int n,.int s])) wa (.lst (uP++[.ref tp])))) ay ms pd (wl++[(n,s)]) a dx da wa cg (uP++[.ref tp]):=by
  have gs:∀y o,G y=some o->y≠wa->grow G H (upd (upd H tp (.tup [.int n,.int s])) wa (.lst (uP++[.ref tp]))) y=some o:=λy o e ny=>bC.mpr ⟨.inl (by rw[e];rfl),c1.one (sG _ _ e) ny⟩;refine⟨gs _ _ b.ob b.na.2.1,gs _ _ b.hd b.na.2.2,bC.mpr ⟨.inl (by rw[b.hw];rfl),aq⟩,b.nd,b.ks,(Paired.lR b.wt λp v z=>?_).snoc ⟨tp,Z,bC.mpr ⟨.inr n1,?_⟩⟩,λp hp=>?_,b.GK,b.ml,b.no,λq m' v z1 z2=>?_,b.inj⟩
  .obtain⟨p1,rfl,QA⟩:=z;exact⟨p1,Z,gs _ _ QA (g_ QA b.hw (by intro z;cases z))⟩
  .rw[aF nwt,aq]
  .rcases c_.mp hp with h|h
   .exact b.wo p h
   .rw[show p=(n,s) from by simpa using h];exact⟨hn,hs⟩
  .obtain⟨mb,rfl,d1,bb1,q1,q2⟩:=b.ye q m' v z1 z2;refine⟨mb,Z,d1,bb1,gs _ _ q1 (g_ q1 b.hw (by intro z;cases z)),gs _ _ q2 (g_ q2 b.hw λz=>?_)⟩;exact akO b.wt (b.GK m' (az z1)) z.symm
 have Wh:=cj _ _ b1.ob;refine⟨_,Z,a,_,_,Z,Wh,Z,a,ay,ms,pd,wl++[(n,s)],_,Z,cj,⟨dx,da,wa,cg,_,b1⟩,hl,by simp;lia,λH2 Bf bb2=>?_⟩;exact k H2 (Iy.trans Bf) (bb2.same (og Iy))
abbrev PkO (t:fP)(dx ba sa:lQ)(ay:Nat):HO:=.ins t.fT dx [("lanes",.int ay),("bank",.ref ba),("shares",.ref sa)]
abbrev nP (p:Nat×Nat):Int×Int:=((p.1:Int),(p.2:Int))
structure PkS (t:fP)(Sh Gb:Hp)(ay:Nat)(ms:List b9)(pd:Nat)(wl:List (Nat×Nat))(qH:List (Nat×Nat))(a dx ba sa:lQ)(qO:b_):Prop where
 ap:Apart Sh Gb
 ob:Sh a=some (PkO t dx ba sa ay)
 hs:Sh sa=some (.lst qO)
 st:Paired (λp v=>isP (nP p) v Sh) qH qO
 bk:NQ t Gb ay ms pd wl ba
 so:∀p∈qH,0<p.2/\p.2<=32768
 ol:qH.length=pd
inductive PkA (t:fP)(G:Hp)(ay:Nat)(ms:List b9)(pd:Nat)(wl:List (Nat×Nat))(qH:List (Nat×Nat))(a:lQ):Prop|i(Sh Gb:Hp)(dx ba sa:lQ)(qO:b_)(_:aC Sh G)(_:aC Gb G)(_:PkS t Sh Gb ay ms pd wl qH a dx ba sa qO)
def PkA.same {ms:List b9}{qH:List (Nat×Nat)}(h:PkA t G ay ms pd wl qH a)(s:aC G G'):PkA t G' ay ms pd wl qH a:=by
 obtain⟨Sh,Gb,dx,ba,sa,qO,z1,z2,z3⟩:=h;exact⟨Sh,Gb,dx,ba,sa,qO,z1.trans s,z2.trans s,z3⟩
inductive aeg (t:fP)(vs:b_)(H:Hp)(Q:VK)(E:XK):Prop|i(x dx:lQ)(ay:Nat)(_:vs=[.ref x,.int ay])(_:H x=some (.ins t.fT dx []))(_:∀H' ba sa Gb,dE [x] H H'->H' x=some (PkO t dx ba sa ay)->H' sa=some (.lst [])->H sa=none->aC Gb (nw H H')->Gb sa=none->(∀r,r<=64->NQ t Gb ay (aM r (gi 64 6)) 0 [] ba)->Q .gQ H')
def IT:T.ue.Ok P w mg rZ jf 3 (aeg t):=by
 refine T.ue.ok λnd H vs Q E hr h=>?_;obtain⟨x,dx,ay,rfl,hx,k⟩:=h;refine .i (ao (kh (pv 0) (pv 1))
   (ao (kh (pv 0) (JW T.WY T.Tw T.tO (CH T) hr bG (ak (pv 1) ax)))
   (aH (kh (pv 0) (eE ax))))) ?_
 refine⟨_,Z,_,Z,Z,hx,T.gn,Z,Z,tH [("lanes",.int ay)],?_⟩;have c1:dE [x] H (upd H x (.ins t.fT dx [("lanes",.int ay)])):=dE.refl.d_ (by simp);have x1:upd H x (.ins t.fT dx [("lanes",.int ay)]) x=some (.ins t.fT dx [("lanes",.int ay)]):=aq;generalize upd H x (.ins t.fT dx [("lanes",.int ay)])=H1 at c1 x1|-
 refine⟨_,Z,λba db n1 n2 n3=>?_⟩;have sm:aC H1 (upd (upd H1 db (.own ba)) ba (.ins t.i7 db [])):=gA n1 n2;refine⟨ba,db,ay,Z,aq,λH2 da wa c2 hb hd hw nd nw1=>⟨Z,?_⟩⟩;have s12:aC H1 H2:=dE.back sm c2 (by intro y hy;rw[show y=ba from by simpa using hy];exact n1);have bk:∀r,r<=64->NQ t (nw H1 H2) ay (aM r (gi 64 6)) 0 [] ba:=λr hr=>⟨db,da,wa,[],[],aT.mpr ⟨n1,hb⟩,aT.mpr ⟨sm.free nd,hd⟩,aT.mpr ⟨sm.free nw1,hw⟩,Bz,(λk hk=>by simp at hk),.nil,(λp hp=>by simp at hp),AR r,by simpa using hr,(λn m h _=>(fb.mp (az h)).2),(λn m v _ h=>by cases h),(λn n' v h=>by cases h)⟩;refine⟨_,Z,Z,s12 _ _ x1,T.gn,Z,Z,tH [("lanes",.int ay),("bank",.ref ba)],?_⟩;have c3:dE [x] H (upd H2 x (.ins t.fT dx [("lanes",.int ay),("bank",.ref ba)])):=(c1.trans s12.chg).d_ (by simp);have x3:upd H2 x (.ins t.fT dx [("lanes",.int ay),("bank",.ref ba)]) x=some (.ins t.fT dx [("lanes",.int ay),("bank",.ref ba)]):=aq;have nS:aC (nw H1 H2) (nw H (upd H2 x (.ins t.fT dx [("lanes",.int ay),("bank",.ref ba)]))):=λy o e=>by
  obtain⟨z1,z2⟩:=aT.mp e;exact aT.mpr ⟨fU c1 x1 z1,by rw[aF (bZ x1 z1)];exact z2⟩
 generalize upd H2 x (.ins t.fT dx [("lanes",.int ay),("bank",.ref ba)])=H3 at c3 x3 nS|-
 refine⟨by rw[aE];simp,λsa n4=>?_⟩;have s4:aC H3 (upd H3 sa (.lst [])):=aC.upd n4;have nsa:H sa=none:=fU c3 x3 n4;have nsx:sa≠x:=bZ hx nsa;refine⟨_,Z,Z,s4 _ _ x3,T.gn,Z,Z,tH [("lanes",.int ay),("bank",.ref ba),("shares",.ref sa)],?_⟩;refine k _ ba sa (nw H1 H2) ((c3.trans s4.chg).d_ (by simp)) aq (by rw[aF nsx,aq]) nsa (λy o e=>?_) ?_ bk
 .obtain⟨z1,z2⟩:=aT.mp (nS _ _ e);exact aT.mpr ⟨z1,by rw[aF (bZ hx z1)];exact s4 _ _ z2⟩
 .cases e:nw H1 H2 sa with
  |none=>rfl
  |some o=>rw[(aT.mp (nS _ _ e)).2] at n4;cases n4
def acj (hr:r<=64)(n1:H x=none)(n2:H dx=none)(k:∀H',aC H H'->PkA t (nw H H') ay (aM r (gi 64 6)) 0 [] [] x->Q .gQ H'):
  aeg t [.ref x,.int ay] (upd (upd H dx (.own x)) x (.ins t.fT dx [])) Q E:=by
 have s1:aC H (upd (upd H dx (.own x)) x (.ins t.fT dx [])):=gA n1 n2;refine⟨x,dx,ay,Z,aq,λH' ba sa Gb c hx hs ns sb nb bk=>k _ (dE.back s1 c (by intro y hy;rw[show y=x from by simpa using hy];exact n1)) ⟨λb=>if b=x\/b=sa then H' b else none,Gb,dx,ba,sa,[],λb o e=>?_,sb.trans (o9 s1),λb=>?_,?_,?_,.nil,bk r hr,(λp hp=>by simp at hp),Z⟩⟩
 .simp only at e;split at e
  .rename_i h;refine aT.mpr ⟨?_,e⟩;rcases h with rfl|rfl
   .exact n1
   .exact s1.free ns
  .cases e
 .by_cases h:b=x\/b=sa
  .refine .inr ?_;rcases h with rfl|rfl
   .cases e:Gb b with
    |none=>rfl
    |some o=>have:=(aT.mp (sb _ _ e)).1;rw[aq] at this;cases this
   .exact nb
  .exact .inl (ah h)
 .exact(aj (.inl rfl)).trans hx
 .exact(aj (.inr rfl)).trans hs
def Od (t:fP)(G:Hp)(ay:Nat)(st:xh)(a:lQ):Prop:=PkA t G ay st.ms st.out.length (Mx.waitOf st.gr) st.out a/\st.out.length%ay=st.gr.length/\st.gr.length<ay/\st.ms.length<=64/\ay<=16
def Od.same {st:xh}(h:Od t G ay st a)(s:aC G G'):Od t G' ay st a:=⟨h.1.same s,h.2⟩
def Di (l:List oW):(Mx.waitOf l).length<=l.length:=List.length_filterMap_le ..
def Qt (l:List oW)(n s:Nat):Mx.waitOf (l++[.sym n s])=Mx.waitOf l++[(n,s)]:=by simp[Mx.waitOf]
def JE (l:List oW)(n s:Nat):Mx.waitOf (l++[.plain n s])=Mx.waitOf l:=by simp[Mx.waitOf]
def Pq {g:Nat}(h:pd%n=g)(hg:g<n):((pd+1)%n=0↔g+1=n)/\(g+1≠n->(pd+1)%n=g+1):=by
 have hd:=aha pd n;rw[h] at hd;by_cases e:g+1=n
 .have:pd+1=n*(pd / n+1):=by rw[lG];lia
  refine⟨⟨λ_=>e,λ_=>by rw[this];exact Nat.mul_mod_right ..⟩,λq=>absurd e q⟩
 .have e2:(pd+1)%n=g+1:=by
   have:pd+1=n*(pd / n)+(g+1):=by lia
   rw[this,L_,n9 (by lia)]
  refine⟨⟨λq=>?_,λq=>absurd q e⟩,λ_=>e2⟩;rw[e2] at q;lia
def Ub {st:xh}{sa:lQ}{Sh Gb:Hp}{qO:b_}(sG:aC G H)(sS:aC Sh G)(sB:aC Gb G)(pk:PkS t Sh Gb ay st.ms st.out.length (Mx.waitOf st.gr) st.out a dx ba sa qO)
  (hm:st.out.length%ay=st.gr.length) (hg:st.gr.length<ay) (hl:ay<=16) (Lq:st.ms.length<=64) {tp:lQ} (Iy:fw Gb H H1) (YO:H1 tp=none) (hsh:0<(it.share st.ms).2/\(it.share st.ms).2<=32768)
  (e2:H2=upd (upd H1 tp (.tup [.int (it.share st.ms).1,.int (it.share st.ms).2])) sa (.lst (qO++[.ref tp]))) {H3:Hp}
  (QC:fw (grow Gb H H1) H2 H3) (bk:NQ t (grow (grow Gb H H1) H2 H3) ay (if(st.out.length+1)%ay=0 then pZ st.ms (Mx.waitOf (st.gr++[it])) else st.ms) (st.out.length+1) (if(st.out.length+1)%ay=0 then[] else Mx.waitOf (st.gr++[it])) ba):
  fw G H H3/\Od t (grow G H H3) ay (kq ay st it) a:=by
 have J9:aC Sh H1:=Iy.other (sS.trans sG) pk.ap;have nsg:grow Gb H H1 sa=none:=cS (sG _ _ (sS _ _ pk.hs)) ((pk.ap sa).resolve_left (by rw[pk.hs];simp));have ntg:grow Gb H H1 tp=none:=cj.free YO;have apo:tp≠sa:=bZ (J9 _ _ pk.hs) YO;have Sht:Sh tp=none:=J9.free YO;have Gsa:(G sa).isSome=true:=by rw[sS _ _ pk.hs];rfl
 have nGt:(G tp).isSome=true\/H tp=none:=by
  rcases Iy.dom YO with z|z
  .obtain⟨u,hu⟩:=cX.mp z;exact .inl (by rw[sB _ _ hu];rfl)
  .exact .inr z
 have kG1:fw G H H1:=λb o e g=>Iy b o e (sB.free g);have kG2:fw G H H2:=λb o e g=>by
  rw[e2];have h1:=kG1 b o e g;rw[aF (by rintro rfl;rw[g] at Gsa;cases Gsa),aF (aI h1 YO)];exact h1
 have gg:aC (grow Gb H H1) (grow G H H1):=λb o e=>by
  obtain⟨z1,z2⟩:=bC.mp e;refine bC.mpr ⟨z1.imp (λz=>?_) id,z2⟩;obtain⟨u,hu⟩:=cX.mp z;rw[sB _ _ hu];rfl
 have kG3:fw G H H3:=λb o e g=>QC b o (kG2 b o e g) (gg.free (cS e g));refine⟨kG3,?_⟩;have S2:aC (upd (upd Sh tp (.tup [.int (it.share st.ms).1,.int (it.share st.ms).2])) sa (.lst (qO++[.ref tp]))) H2:=λb o e=>by
  rw[e2];by_cases h1:b=sa
  .rw[h1] at e|-;rw[aq] at e|-;exact e
  .rw[aF h1] at e|-
   by_cases h2:b=tp
   .rw[h2] at e|-;rw[aq] at e|-;exact e
   .rw[aF h2] at e|-;exact J9 _ _ e
 have apS:Apart (upd (upd Sh tp (.tup [.int (it.share st.ms).1,.int (it.share st.ms).2])) sa (.lst (qO++[.ref tp]))) (grow Gb H H1):=r8 (r8 (gU (sS.trans sG) pk.ap) ntg) nsg;have S3:=QC.other S2 apS;have hn:=Pq hm hg;have hz:(st.out.length+1)%ay=0↔(st.gr++[it]).length=ay:=by rw[aO];exact hn.1
 have pkA:PkA t (grow G H H3) ay (kq ay st it).ms (kq ay st it).out.length (Mx.waitOf (kq ay st it).gr) (kq ay st it).out a:=by
  refine⟨upd (upd Sh tp (.tup [.int (it.share st.ms).1,.int (it.share st.ms).2])) sa (.lst (qO++[.ref tp])),grow (grow Gb H H1) H2 H3,dx,ba,sa,qO++[.ref tp],λb o e=>?_,λb o e=>?_,gU S2 apS,?_,aq,?_,?_,λp hp=>?_,Z⟩
  .refine bC.mpr ⟨?_,S3 _ _ e⟩;by_cases h1:b=sa
   .rw[h1];exact .inl Gsa
   .rw[aF h1] at e;by_cases h2:b=tp
    .rw[h2];exact nGt
    .rw[aF h2] at e;exact .inl (by rw[sS _ _ e];rfl)
  .obtain⟨z1,z2⟩:=bC.mp e;refine bC.mpr ⟨?_,z2⟩;rcases z1 with z|z
   .obtain⟨u,hu⟩:=cX.mp z;exact(bC.mp (gg _ _ hu)).1
   .exact kG2.dom z
  .rw[aF (g_ pk.ob pk.hs (by intro z;cases z)),aF (aI pk.ob Sht)];exact pk.ob
  .have eo:(kq ay st it).out=st.out++[it.share st.ms]:=by unfold kq;split<;>rfl
   rw[eo];refine Paired.snoc (Paired.lR pk.st λp v z=>?_) ⟨tp,Z,by rw[aF apo,aq]⟩;obtain⟨q,rfl,hq⟩:=z;exact⟨q,Z,by rw[aF (g_ hq pk.hs (by intro z;cases z)),aF (aI hq Sht)];exact hq⟩
  .unfold kq;by_cases h:(st.gr++[it]).length=ay
   .rw[aj h];rw[aj (hz.mpr h),aj (hz.mpr h)] at bk;have es:qX st.ms (st.gr++[it])=pZ st.ms (Mx.waitOf (st.gr++[it])):=Fi _ _;show NQ t _ ay (qX st.ms (st.gr++[it])) (st.out++[it.share st.ms]).length [] ba;rw[es,aO];exact bk
   .rw[ah h];rw[ah (λq=>h (hz.mp q)),ah (λq=>h (hz.mp q))] at bk;show NQ t _ ay st.ms (st.out++[it.share st.ms]).length (Mx.waitOf (st.gr++[it])) ba;rw[aO];exact bk
  .have eo:(kq ay st it).out=st.out++[it.share st.ms]:=by unfold kq;split<;>rfl
   rw[eo] at hp;rcases c_.mp hp with h|h
   .exact pk.so p h
   .rw[show p=it.share st.ms from by simpa using h];exact hsh
 refine⟨pkA,?_,?_,?_,hl⟩
 .unfold kq;by_cases h:(st.gr++[it]).length=ay
  .rw[aj h];show(st.out++[it.share st.ms]).length%ay=0;rw[aO];exact hz.mpr h
  .rw[ah h];show(st.out++[it.share st.ms]).length%ay=(st.gr++[it]).length;rw[aO,aO];exact hn.2 (by simpa using h)
 .unfold kq;by_cases h:(st.gr++[it]).length=ay
  .rw[aj h];show 0<ay;lia
  .rw[ah h];show(st.gr++[it]).length<ay;rw[aO] at h|-
   simp at h|-
   lia
 .unfold kq;split
  .show(qX st.ms (st.gr++[it])).length<=64;rw[qw];exact Lq
  .exact Lq
inductive agA (t:fP)(vs:b_)(H:Hp)(Q:VK)(E:XK):Prop|i(a:lQ)(ay:Nat)(st:xh)(n s:Nat)(G:Hp)(_:vs=[.ref a,.int n,.int s])(_:aC G H)(_:Od t G ay st a)(_:n<st.ms.length)(_:s<64)(_:st.out.length<100000)(_:∀H',fw G H H'->Od t (grow G H H') ay (kq ay st (.sym n s)) a->Q .gQ H')
def yC:T.mL.Ok P w mg rZ jf 6 (agA t):=by
 refine T.mL.ok λnd H vs Q E hr h=>?_;obtain⟨a,ay,st,n,s,G,rfl,sG,⟨⟨Sh,Gb,dx,ba,sa,qO,sS,sB,pk⟩,hm,hg,Lq,hl⟩,hn,hs,ho,k⟩:=h;obtain⟨db,da,wa,cg,uP,bk⟩:=pk.bk;refine .i (ao (fL 3 nd (qN (cO (pv 0)) T.ic T.kX (pW T) hr bG (ak (pv 1) ax)))
   (ao (cP (pap (cO (pv 0)) (ak (sZ (ak (JV (cO (pv 3)) (pv 2)) (ak (qN (pv 3) T.jA T.oM (wU T) hr bG (ak (pv 2) ax)) ax))) ax)))
   (aH (cP (qN (cO (pv 0)) T.ic T.kx (rC T) hr bG (ak (pv 1) (ak (pv 2) ax))))))) ?_
 have HA:=sG _ _ (sS _ _ pk.ob);have GbH:aC Gb H:=sB.trans sG;refine⟨_,Z,Z,HA,T.gn,Z,Z,ba,_,_,Z,GbH _ _ bk.ob,Z,_,Z,ba,db,da,wa,cg,uP,ay,st.ms,_,_,n,Gb,Z,GbH,bk,hn,λma H1 aoZ Iy bk1 hv1=>?_⟩;obtain⟨m,Yh⟩:∃m,st.ms[n]? =some m:=⟨_,aD hn⟩;obtain⟨ma',e,md⟩:=bk1.ye n m _ Yh hv1;cases e;have YT:=bk1.GK m (az Yh);obtain⟨dm,bb,NY,hbb⟩:=id md;have J9:aC Sh H1:=Iy.other (sS.trans sG) pk.ap;have Wh:=J9 _ _ pk.ob;have hsv:qO.length=st.out.length:=(dR pk.st).symm;refine⟨_,Z,Z,Wh,T.gn,Z,Z,LS (J9 _ _ pk.hs),_,Z,Z,cj _ _ NY,T.jA,Z,Z,_,Z,bb,_,_,_,Z,Z,i2 (cj _ _ hbb),AU YT (i:=s) (by lia),_,Z,ma,_,_,Z,cj _ _ NY,Z,_,Z,ma,m,s,Z,md.same cj,YT,hs,by rw[aE];simp,λtp YO=>?_⟩;have sT:aC H1 (upd H1 tp (.tup [.int (m.begin_ s:Nat),.int (m.share s:Nat)])):=aC.upd YO;have esh:lr st.ms (.sym n s)=(m.begin_ s,m.share s):=by
  show(match st.ms[n]? with|some x=>(x.begin_ s,x.share s)|none=>(0,Wm))=_;rw[Yh]
 refine⟨sa,_,_,Z,Z,sT _ _ (J9 _ _ pk.hs),by rw[aE];lia,?_⟩;have nsg:grow Gb H H1 sa=none:=cS (sG _ _ (sS _ _ pk.hs)) ((pk.ap sa).resolve_left (by rw[pk.hs];simp));have GH2:aC (grow Gb H H1) (upd (upd H1 tp (.tup [.int (m.begin_ s:Nat),.int (m.share s:Nat)])) sa (.lst (qO++[.ref tp]))):=λb o e=>by
  rw[aF (aI e nsg)];exact sT _ _ (cj _ _ e)
 have SY:upd (upd H1 tp (.tup [.int (m.begin_ s:Nat),.int (m.share s:Nat)])) sa (.lst (qO++[.ref tp])) a=some (PkO t dx ba sa ay):=by rw[aF (g_ pk.ob pk.hs (by intro z;cases z))];exact sT _ _ Wh
 refine⟨_,Z,Z,SY,T.gn,Z,Z,ba,_,_,Z,GH2 _ _ bk1.ob,Z,_,Z,_,Z,ba,ay,st.ms,_,Mx.waitOf st.gr,n,s,grow Gb H H1,Z,GH2,⟨_,_,_,_,_,bk1⟩,by lia,by have:=Di st.gr;lia,hn,hs,λH3 QC Xl=>?_⟩;rw[<-Qt] at Xl;have hsh:=LO YT hs;obtain⟨r1,r2⟩:=Ub (it:=.sym n s) sG sS sB pk hm hg hl Lq Iy YO (by rw[esh];exact hsh) (by rw[esh]) QC Xl;exact k H3 r1 r2
inductive agy (t:fP)(vs:b_)(H:Hp)(Q:VK)(E:XK):Prop|i(a:lQ)(ay:Nat)(st:xh)(v b:Nat)(G:Hp)(_:vs=[.ref a,.int v,.int b])(_:aC G H)(_:Od t G ay st a)(_:b<=15)(_:v<2^64)(_:st.out.length<100000)(_:∀H',fw G H H'->Od t (grow G H H') ay (kq ay st (.plain b v)) a->Q .gQ H')
def Bi:T.oO.Ok P w mg rZ jf 5 (agy t):=by
 refine T.oO.ok λnd H vs Q E hr h=>?_;obtain⟨a,ay,st,v,b,G,rfl,sG,⟨⟨Sh,Gb,dx,ba,sa,qO,sS,sB,pk⟩,hm,hg,Lq,hl⟩,hb,hv,ho,k⟩:=h;obtain⟨db,da,wa,cg,uP,bk⟩:=id pk.bk;refine .i (ao (fL 3 nd (aX sY (fF T.iQ) (pv 2)))
   (ao (cP (pap (cO (pv 0)) (ak (sZ (ak (aX fQ (pv 1) (pv 3)) (ak (pv 3) ax))) ax)))
   (aH (cP (Fe (cO (pv 0)) T.ic T.j7 (o_ T) hr bG))))) ?_
 have HA:=sG _ _ (sS _ _ pk.ob);have GbH:aC Gb H:=sB.trans sG;have esz:(32768:Int) / 2^((b:Int)).toNat=((2^(15-b):Nat):Int):=by
  rw[bF];have h1:(32768:Nat)=2^(15-b)*2^b:=by rw[<-wL,jH hb]
  have h2:(32768:Int)=((2^(15-b):Nat):Int)*2^b:=by
   have:=congrArg (λ(x:Nat)=>(x:Int)) h1;simp only[gY,z_] at this
   exact_mod_cast this
  rw[h2];exact DB _ (UE (Mx.two_pos b))
 have hsv:qO.length=st.out.length:=(dR pk.st).symm;refine⟨_,Z,_,_,Z,Z,(by show(0:Int)<=_;lia),?_⟩;have e0:V.int (32768 / 2^(b:Int).toNat)=V.int ((2^(15-b):Nat):Int):=congrArg V.int esz;rw[e0];refine⟨_,Z,Z,HA,T.gn,Z,Z,LS (sG _ _ (sS _ _ pk.hs)),_,Z,_,Z,_,_,Z,Z,.inl ⟨by lia,by lia⟩,_,Z,by rw[aE];simp,λtp YO=>?_⟩;have sT:aC H (upd H tp (.tup [.int ((v:Int)*((2^(15-b):Nat):Int)),.int ((2^(15-b):Nat):Int)])):=aC.upd YO;refine⟨sa,_,_,Z,Z,sT _ _ (sG _ _ (sS _ _ pk.hs)),by rw[aE];lia,?_⟩;have nsg:Gb sa=none:=(pk.ap sa).resolve_left (by rw[pk.hs];simp);have GH2:aC Gb (upd (upd H tp (.tup [.int ((v:Int)*((2^(15-b):Nat):Int)),.int ((2^(15-b):Nat):Int)])) sa (.lst (qO++[.ref tp]))):=λy o e=>by
  rw[aF (aI e nsg)];exact sT _ _ (GbH _ _ e)
 have SY:upd (upd H tp (.tup [.int ((v:Int)*((2^(15-b):Nat):Int)),.int ((2^(15-b):Nat):Int)])) sa (.lst (qO++[.ref tp])) a=some (PkO t dx ba sa ay):=by rw[aF (g_ pk.ob pk.hs (by intro z;cases z))];exact sT _ _ HA
 refine⟨_,Z,Z,SY,T.gn,Z,Z,ba,_,_,Z,GH2 _ _ bk.ob,Z,ba,ay,st.ms,_,Mx.waitOf st.gr,Gb,Z,GH2,pk.bk,by lia,by have:=Di st.gr;lia,λH3 QC Xl=>?_⟩;rw[<-JE st.gr b v] at Xl;have hsh:0<(lr st.ms (.plain b v)).2/\(lr st.ms (.plain b v)).2<=32768:=by
  show 0<2^(15-b)/\2^(15-b)<=32768;exact⟨pE _,j9 (n:=2) (by decide) (lO 15 b)⟩
 have eg:aC Gb (grow Gb H H):=y_ GbH;have eg2:grow Gb H H=λy=>if(Gb y).isSome=true\/H y=none then H y else none:=rfl
 have gEq:∀y,grow Gb H H y=Gb y:=λy=>by
  cases e:Gb y with
  |some o=>exact eg _ _ e
  |none=>
   cases e2:H y with
   |none=>exact cj.free e2
   |some o=>exact cS e2 e
 have gE:grow Gb H H=Gb:=funext gEq;have hsx:HO.tup [V.int ((v:Int)*((2^(15-b):Nat):Int)),V.int ((2^(15-b):Nat):Int)]=HO.tup [V.int (((lr st.ms (.plain b v)).1:Nat):Int),V.int (((lr st.ms (.plain b v)).2:Nat):Int)]:=by
  show _=HO.tup [V.int ((v*2^(15-b):Nat):Int),V.int ((2^(15-b):Nat):Int)];rw[gY]
 obtain⟨r1,r2⟩:=Ub (H1:=H) (H2:=upd (upd H tp (.tup [.int ((v:Int)*((2^(15-b):Nat):Int)),.int ((2^(15-b):Nat):Int)])) sa (.lst (qO++[.ref tp]))) (it:=.plain b v) sG sS sB pk hm hg hl Lq fw.refl YO hsh (by rw[hsx]) (by rw[gE];exact QC) (by rw[gE];exact Xl);exact k H3 r1 r2
def Nt (ay:Nat)(st:xh)(it:oW):(kq ay st it).out.length=st.out.length+1/\(kq ay st it).ms.length=st.ms.length:=by
 unfold kq;split
 .exact⟨by simp,qw _ _⟩
 .exact⟨by simp,Z⟩
inductive agz (t:fP)(vs:b_)(H:Hp)(Q:VK)(E:XK):Prop|i(a:lQ)(ay:Nat)(st:xh)(n v:Nat)(G:Hp)(_:vs=[.ref a,.int n,.int v])(_:aC G H)(_:Od t G ay st a)(_:n<st.ms.length)(_:v+1<2^64)(_:st.out.length<90000)(_:∀H',fw G H H'->Od t (grow G H H') ay ((fY n v).foldl (kq ay) st) a->Q .gQ H')
def yB:T.mK.Ok P w mg rZ jf 7 (agz t):=by
 refine T.mK.ok λnd H vs Q E hr h=>?_;obtain⟨a,ay,st,n,v,G,rfl,sG,pk,hn,hv,ho,k⟩:=h;refine .i (ao (fL 3 nd (aX gw (Ei (aX dz (pv 2) aJ)) aJ))
   (ao (cP (qN (pv 0) T.gn T.mL (yC T) hr bG (ak (pv 1) (ak (pv 3) ax))))
   (ao (fL 4 nd (aX gw (aX dz (pv 2) aJ) (aX uF aJ (pv 3))))
   (aH (CV PassesOwn.never (rb Jb (pv 3) aJ) (ao (fL 5 nd (gO (oq rfl) rfl T.ET AE (ak (fF T.TR) (ak (pv 3) ax))))
   (ao (cP (qN (pv 0) T.gn T.oO (Bi T) hr bG (ak (aX pX (pv 4) (aX uF aJ (pv 5))) (ak (pv 5) ax))))
   (ao (fL 4 nd (aX sY (pv 4) (pv 5)))
   (aH (Jl (i:=3) nd rfl (Ad rfl) (pv 5) afK)))))))))) ?_
 have aft:(v+1).log2<64:=(W4 (by lia)).mpr hv;obtain⟨L,hL⟩:∃L,L=(v+1).log2:=⟨_,Z⟩;have hb:=Ht (n:=v+1) (by lia);rw[<-hL] at aft hb;have aok:2^L<=v+1:=by rw[hL];exact aeN (by lia)
 have eb:((Builtin.Int.intBits ((v:Int)+1):Nat):Int)-1=(L:Int):=by
  have e0:((v+1:Nat):Int)=(v:Int)+1:=rfl;rw[e0] at hb;rw[hb];lia
 refine⟨_,Z,_,_,Z,Z,Z,_,Z,Z,_,_,Z,Z,?_⟩;have e0:V.int (((Builtin.Int.intBits ((v:Int)+1):Nat):Int)-1)=V.int (L:Int):=congrArg V.int eb;rw[e0];obtain⟨⟨Sh,Gb,dx,ba,sa,qO,sS,sB,pk0⟩,_⟩:=id pk;refine⟨_,Z,a,_,_,Z,sG _ _ (sS _ _ pk0.ob),Z,_,Z,_,Z,a,ay,st,n,L,G,Z,sG,pk,hn,aft,by lia,λH1 Iy pk1=>?_⟩;refine⟨_,Z,_,_,Z,Z,_,Z,_,_,Z,Z,⟨by lia,by lia,by decide⟩,_,_,Z,Z,?_⟩;have el:(v:Int)+1-1*2^((L:Int)).toNat=((v+1-2^L:Nat):Int):=by
  have h1:((2^L:Nat):Int)=(2:Int)^L:=by simp
  have h2:((v+1-2^L:Nat):Int)=(v:Int)+1-((2^L:Nat):Int):=mr aok;rw[bF,pL,h2,h1]
 have e1:V.int (((v:Int)+1)-(1*2^((L:Int)).toNat))=V.int ((v+1-2^L:Nat):Int):=congrArg V.int el;rw[e1];have emod:(v+1)%2^(v+1).log2=v+1-2^L:=by rw[YH (by lia),hL]
 have ewh:(fY n v).foldl (kq ay) st=(lZ 8 L (v+1-2^L)).foldl (kq ay) (kq ay st (.sym n L)):=by
  unfold fY;rw[bR,emod,<-hL]
 rw[ewh] at k;have po:=Nt ay st (.sym n L);refine⟨λq σ H'=>∃(f b l:Nat) (uO:xh) (y:Option V),σ=[some (.ref a),some (.int n),some (.int v),some (.int b),some (.int l),y]/\b<=15*f/\q=b/\f<=8/\b<64/\l<2^64/\uO.out.length+f<=95000/\fw G H H'/\Od t (grow G H H') ay uO a/\(lZ 8 L (v+1-2^L)).foldl (kq ay) (kq ay st (.sym n L))=(lZ f b l).foldl (kq ay) uO,⟨L,8,L,v+1-2^L,_,none,Z,by lia,Z,by lia,aft,jG (lO _ _) hv,by lia,Iy,pk1,Z⟩,?_⟩;rintro b σ H' ⟨f,b1,l,uO,y,rfl,hbf,rfl,hf,anI,hl,hol,kp,pk',ef⟩;refine⟨_,Z,_,_,Z,Z,_,Z,?_⟩;by_cases hb0:b=0
 .rw[ae (by lia)];refine fK ?_;rw[hb0,Gi] at ef;rw[ef] at k;exact k H' kp pk'
 .rw[ag (by lia)];obtain⟨f',rfl⟩:∃f',f=f'+1:=⟨f-1,(jH (lN λe=>hb0 (Nat.eq_zero_of_le_zero (by rw[e] at hbf;exact hbf)))).symm⟩;rw[KN f' b l hb0,bR] at ef;obtain⟨pc,hpc⟩:∃pc,pc=min 15 b:=⟨_,Z⟩;rw[<-hpc] at ef;have Kw:pc<=15/\pc<=b/\0<pc:=hpc ▸ ⟨fu ..,aeO ..,Nat.lt_min.mpr ⟨by decide,lN hb0⟩⟩;have WE:2^pc<=32768:=j9 (n:=2) (by decide) (show pc<=15 from Kw.1);refine eY ⟨λgz H2=>∃y',gz=[some (.ref a),some (.int n),some (.int v),some (.int ((b-pc:Nat):Int)),some (.int ((l / 2^pc:Nat):Int)),y']/\fw G H H2/\Od t (grow G H H2) ay (kq ay uO (.plain pc (l%2^pc))) a,λgz H2 ⟨y',e1,e2,e3⟩=>⟨b-pc,Nat.sub_lt (lN hb0) Kw.2.2,f',b-pc,l / 2^pc,_,y',e1,hpc ▸ Mx.pD hbf,Z,iU hf,jG (lO ..) anI,jG (ahb _ _) hl,by have:=(Nt ay uO (.plain pc (l%2^pc))).1;lia,e2,e3,ef⟩,?_⟩;refine⟨_,Z,_,_,Z,?_⟩;have epc:(if(b:Int)<15 then(b:Int) else 15)=((pc:Nat):Int):=by rw[hpc];exact ajO b
  rw[epc];obtain⟨⟨Sh',Gb',sR,Wx,sa',akD,sS',sB',Y9⟩,_⟩:=id pk';have emd:(l:Int)%(1*2^((pc:Int)).toNat)=((l%2^pc:Nat):Int):=by
   rw[bF,pL,rP];simp
  have rS:(0:Int)<1*2^((pc:Int)).toNat:=by rw[pL];exact Mx.two_pos _
  refine⟨_,Z,a,_,_,Z,cj _ _ (sS' _ _ Y9.ob),Z,_,Z,_,Z,_,_,Z,Z,⟨by lia,by lia,by decide⟩,_,_,Z,Z,rS,_,Z,?_⟩;have e5:V.int ((l:Int)%(1*2^((pc:Int)).toNat))=V.int ((l%2^pc:Nat):Int):=congrArg V.int emd;have hlm:l%2^pc<2^pc:=nh _ (pE _);refine⟨a,ay,uO,l%2^pc,pc,grow G H H',?_,cj,pk',Kw.1,by lia,by lia,λH2 Bf pk2=>?_⟩
  .rw[<-e5];rfl
  refine⟨_,Z,_,Z,_,_,Z,Z,(by show(0:Int)<=_;lia),?_⟩;refine⟨_,Z,_,Z,_,_,Z,Z,some (.int pc),?_,kp.trans Bf,pk2.same (og kp)⟩;have e6:(l:Int) / 2^((pc:Int)).toNat=((l / 2^pc:Nat):Int):=by rw[bF,nZ];simp
  have e7:(b:Int)-(pc:Int)=((b-pc:Nat):Int):=(mr Kw.2.1).symm;rw[<-e6,<-e7];rfl
def PQ (ay:Nat)(qH:List (Nat×Nat)):bX:=(dP ay 0 qH).1.flatMap (λ(x:Nat)=>zc (x:Int) 4)++(dP ay 0 qH).2.flatMap λ(x:Nat)=>zc (x:Int) 2
inductive Zw (t:fP)(vs:b_)(H:Hp)(Q:VK)(E:XK):Prop|i(a:lQ)(ay:Nat)(st:xh)(G:Hp)(_:vs=[.ref a])(_:aC G H)(_:Od t G ay st a)(_:st.out.length<100000)(_:NL H Q (PQ ay st.out))
def Nv (n:Nat)(x:Int):(aM ((n:Int)).toNat [V.int x]).flatten=(aM n x).map V.int:=by
 rw[bF,aap];induction n with
 |zero=>rfl
 |succ n ih=>rw[fN,jX,ih,fN];rfl
def Pt {l:ie}(h:i<l.length){z:Int}(hz:z=(i:Int)):UW ((nI l).map V.int) z=some (.int ((l.getD i 0:Nat):Int)):=by
 refine at_of hz ?_;rw[aw,aw,aD h,aG,aD h];rfl
def D7 (l:ie)(i x:Nat):((nI l).map V.int).set i (.int (x:Int))=(nI (l.set i x)).map V.int:=by simp[nI,ak3]
theorem s_ {n:Nat}:∀(l:List (Nat×Nat)) (i:Nat),(dP n i l).2.length<=l.length
 |[],i=>by simp[dP]
 |(b,s)::r,i=>by
  have:=s_ (n:=n) r (i+1);unfold dP;simp only[aO,aZ];have h2:∀o:Option Nat,o.toList.length<=1:=λo=>by cases o<;>simp
  have:=h2 (i4 ((dP n (i+1) r).1.getD (i%n) 0) b s).1;lia
def Ea:T.qQ.Ok P w mg rZ jf 2 (Zw t):=by
 refine T.qQ.ok λnd H vs Q E hr h=>?_;obtain⟨a,ay,st,G,rfl,sG,⟨⟨Sh,Gb,dx,ba,sa,qO,sS,sB,pk⟩,hm,hg,Lq,Yd⟩,ho,k⟩:=h;refine .i (ao (fL 1 nd (aX Ef (eE (ak (fF T.qr) ax)) (cO (pv 0))))
   (ao (fL 2 nd (eE ax))
   (ao (gX PassesOwn.never rfl (zk rfl T.iA (ak (aX gw (Bn T.i_ (ak (cO (pv 0)) ax)) aJ) (ak (t5 pw aJ) (ak (t5 pw aJ) ax)))) (mv 3 nd)
    (ao (fL 4 nd (wX (r:=Sb K) D1 (wX (r:=P7 K) za (Jj (pv 0) rfl) (pv 3) (λ_ _=>rfl)) aJ (λ_ _=>rfl)))
   (ao (fL 5 nd (wX (r:=Sb K) D1 (wX (r:=P7 K) za (Jj (pv 0) rfl) (pv 3) (λ_ _=>rfl)) aJ (λ_ _=>rfl)))
   (ao (fL 6 nd (JV (pv 1) (aX pX (pv 3) (cO (pv 0)))))
   (ao (gj (rb YW (pv 6) (aX fQ (pv 5) aJ)) (ao (cP (pap (pv 2) (ak (aX pX (pv 6) (fF T.RQ)) ax)))
   (aH (fL 6 nd (aX jJ (pv 6) (fF T.RQ))))) cQ)
   (aH (yJ (aX dz (aX dz (aX fQ (aX jJ (pv 6) (pv 5)) (fF T.iQ)) (aX pX (pv 6) (pv 5))) (pv 4)) (yF (pv 1) (aX pX (pv 3) (cO (pv 0))) set_list))))))))
   (ao (fL 7 nd (eE ax))
   (ao (gX PassesOwn.never rfl (fB (pv 1)) (mv 6 nd)
    (aH (cP (Ax df dC dD mE (pv 7) (ak (ko T.jD (kO T) hr bG (ak (pv 6) (ak aJ ax))) ax)))))
   (ao (gX PassesOwn.never rfl (Fd rfl T.II (ak (pv 2) ax)) (mv 8 nd)
    (aH (cP (Ax df dC dD mE (pv 7) (ak (ko T.jD (kO T) hr bG (ak (pv 8) (ak aJ ax))) ax)))))
   (aH (bz (pv 7))))))))) ?_
 have SH:aC Sh H:=sS.trans sG;have HA:=SH _ _ pk.ob;have hsv:qO.length=st.out.length:=(dR pk.st).symm;obtain⟨qH,MU⟩:∃qH,qH=st.out:=⟨_,Z⟩;have fL:=pk.st;have pso:=pk.so;rw[<-MU] at hsv ho k hm fL pso;refine⟨by rw[aE];simp,λp1 n1=>?_⟩;have s1:aC H (upd H p1 (.lst [.int 65536])):=aC.upd n1;refine⟨_,Z,Z,s1 _ _ HA,T.gn,Z,Z,p1,_,_,Z,Z,aq,by lia,by lia,by rw[aE];simp;lia,λSA n2=>?_⟩;rw[Nv];have s2:=s1.trans (aC.upd (o:=.lst ((aM ay (65536:Int)).map V.int)) n2);refine⟨by rw[aE];simp,λWA n3=>?_⟩;have s3:=s2.trans (aC.upd (o:=.lst []) n3);have nSA:H SA=none:=s1.free n2;have nWA:H WA=none:=s2.free n3;have nWS:WA≠SA:=(bO n3).1;refine⟨_,Z,Z,s3 _ _ HA,T.gn,Z,Z,sa,_,Z,i3 (s3 _ _ (SH _ _ pk.hs)),_,_,Z,Z,_,Z,_,Z,(qO.length:Int)-1,-1,-1,qO.length,Z,?_,?_⟩
 .have:=RgC.neg (i:=(qO.length:Int)-1) (j:= -1) (by lia) (by lia) (by decide) (by decide);rw[nd1] at this;exact this
 refine wc (λi σ H'=>X4 λy3 y4 y5 y6=>C4 (σ=[some (.ref a),some (.ref SA),some (.ref WA),y3,y4,y5,y6,none,none]) (aC H H') (H' SA=some (iL (nI (dP ay (qO.length-i) (qH.drop (qO.length-i))).1))) (H' WA=some (iL (nI (dP ay (qO.length-i) (qH.drop (qO.length-i))).2.reverse)))) ⟨none,none,none,none,Z,s3,?_,?_⟩ ?_ ?_
 .rw[aF nWS.symm,aq,uq,hsv,Ff];simp[nI,ak4]
 .rw[aq,uq,hsv,Ff];rfl
 .rintro i σ H' hi ⟨y3,y4,y5,y6,rfl,sm,hS,hW⟩;obtain⟨q,hq⟩:∃q,q=qO.length-1-i:=⟨_,Z⟩;obtain⟨e1,e2,hql⟩:=rvq hi hq;have ej:=ndi hi hq;clear hq;rw[hsv] at hql;rw[e1] at hS hW;rw[e2];obtain⟨⟨b,sz⟩,hbs⟩:∃p,qH[q]? =some p:=⟨_,aD hql⟩;obtain⟨v,hv,tp,rfl,htp⟩:=zh fL hbs;have hsz:=pso (b,sz) (az hbs);simp only at hsz;rw[Nr hbs];obtain⟨PA,hPA⟩:∃PA,PA=dP ay (q+1) (qH.drop (q+1)):=⟨_,Z⟩;rw[<-hPA] at hS hW|-
  have ot:PA.1.length=ay:=by rw[hPA];exact t6 _ _
  have hpw:PA.2.length<=100000:=by
   have:=s_ (n:=ay) (qH.drop (q+1)) (q+1);rw[<-hPA,dY] at this;exact bt this (bt (lO ..) (cY ho))
  have avk:q%ay<ay:=nh _ (by lia);obtain⟨x,hx⟩:∃x,x=PA.1.getD (q%ay) 0:=⟨_,Z⟩;rw[<-hx];have hat:UW (qO) ((qO.length:Int)-1+(i:Nat)*(-1))=some (.ref tp):=at_of ej hv;have HA':=sm _ _ HA;replace htp:Sh tp=some (.tup [.int (b:Int),.int (sz:Int)]):=htp;have hT:=sm _ _ (SH _ _ htp);have hSA:=sm _ _ (SH _ _ pk.hs);refine⟨_,Z,Z,HA',T.gn,Z,Z,_,Z,sa,_,_,_,Z,Z,i2 hSA,hat,tp,_,_,_,Z,Z,i2 hT,Z,?_⟩;refine⟨_,Z,Z,HA',T.gn,Z,Z,_,Z,sa,_,_,_,Z,Z,i2 hSA,hat,tp,_,_,_,Z,Z,i2 hT,Z,?_⟩;have emod:((qO.length:Int)-1+(i:Nat)*(-1))%(ay:Int)=((q%ay:Nat):Int):=by rw[ej];rfl
  refine⟨_,Z,_,Z,_,Z,Z,HA',T.gn,Z,Z,_,_,Z,Z,(by show(0:Int)<_;lia),SA,_,_,_,Z,Z,i2 hS,Pt (by lia) emod,?_⟩;rw[<-hx];refine⟨_,Z,_,Z,_,_,Z,Z,.inl ⟨by lia,by lia⟩,_,_,Z,Z,_,Z,?_⟩;have awr:∀(c:Prop) [Decidable c] (u v:Nat),(if c then u else v:Nat)=if c then u else v:=λ_ _ _ _=>rfl
  by_cases hc:sz*131072<=x
  .rw[ag (by lia)];have hwl:((nI PA.2.reverse).map V.int).length<bu:=by rw[aE];simp;lia
   refine eY ⟨_,Z,LS hW,_,Z,_,_,Z,Z,(by show(0:Int)<65536;decide),WA,_,_,Z,Z,hW,hwl,?_⟩;have hS2:upd H' WA (.lst ((nI PA.2.reverse).map V.int++[V.int ((x:Int)%65536)])) SA=some (iL (nI PA.1)):=by rw[aF nWS.symm];exact hS
   have pK:aC H (upd H' WA (.lst ((nI PA.2.reverse).map V.int++[V.int ((x:Int)%65536)]))):=λy o e=>by rw[aF (aI e nWA)];exact sm _ _ e
   refine⟨_,Z,_,_,Z,Z,⟨by decide,by decide⟩,?_⟩;refine⟨_,Z,_,Z,_,_,Z,Z,⟨by lia,by lia⟩,_,_,Z,Z,.inr ⟨by decide,by decide⟩,_,Z,_,Z,_,_,Z,Z,(by show(0:Int)<_;lia),_,_,Z,Z,_,Z,_,_,Z,Z,?_⟩;refine⟨_,Z,_,Z,_,Z,Z,pK _ _ HA,T.gn,Z,Z,_,_,Z,Z,(by show(0:Int)<_;lia),SA,_,_,q%ay,Z,Z,hS2,qo emod (by simp;lia),?_⟩;refine⟨_,_,_,_,Z,λy o e=>by rw[aF (aI e nSA)];exact pK _ _ e,?_,?_⟩
   .rw[aq];have ep:(i4 x b sz).2=x / 65536 / sz*32768+(x / 65536%sz+b):=by unfold i4;simp only[aj hc];rfl
    rw[ep];have ev:(x:Int) / 65536 / (sz:Int)*32768+(x:Int) / 65536%(sz:Int)+(b:Int)=((x / 65536 / sz*32768+(x / 65536%sz+b):Nat):Int):=by
     simp only[fq,gY,nZ,rP];rw[show((65536:Nat):Int)=65536 from rfl];lia
    refine congrArg (λz=>some (HO.lst z)) ?_;show((nI PA.1).map V.int).set (q%ay) (V.int ((x:Int) / 65536 / (sz:Int)*32768+(x:Int) / 65536%(sz:Int)+(b:Int)))=_;rw[ev,D7]
   .rw[aF nWS,aq];have ep:(i4 x b sz).1=some (x%65536):=by unfold i4;simp only[aj hc]
    rw[ep];simp[nI]
  .rw[ae (by lia)];refine fK ?_;refine⟨_,Z,_,Z,_,_,Z,Z,⟨by lia,by lia⟩,_,_,Z,Z,.inr ⟨by decide,by decide⟩,_,Z,_,Z,_,_,Z,Z,(by show(0:Int)<_;lia),_,_,Z,Z,_,Z,_,_,Z,Z,?_⟩;refine⟨_,Z,_,Z,_,Z,Z,sm _ _ HA,T.gn,Z,Z,_,_,Z,Z,(by show(0:Int)<_;lia),SA,_,_,q%ay,Z,Z,hS,qo emod (by simp;lia),?_⟩;refine⟨_,_,_,_,Z,λy o e=>by rw[aF (aI e nSA)];exact sm _ _ e,?_,?_⟩
   .rw[aq];have ep:(i4 x b sz).2=x / sz*32768+(x%sz+b):=by unfold i4;simp only[ah hc];rfl
    rw[ep];have ev:(x:Int) / (sz:Int)*32768+(x:Int)%(sz:Int)+(b:Int)=((x / sz*32768+(x%sz+b):Nat):Int):=by
     simp only[fq,gY,nZ,rP];lia
    refine congrArg (λz=>some (HO.lst z)) ?_;show((nI PA.1).map V.int).set (q%ay) (V.int ((x:Int) / (sz:Int)*32768+(x:Int)%(sz:Int)+(b:Int)))=_;rw[ev,D7]
   .rw[aF nWS];have ep:(i4 x b sz).1=none:=by unfold i4;simp only[ah hc]
    rw[ep];exact hW
 .rintro σ H' ⟨y3,y4,y5,y6,rfl,sm,hS,hW⟩;rw[lP,iD] at hS hW;unfold PQ at k;obtain⟨PA,hPA⟩:∃PA,PA=dP ay 0 qH:=⟨_,Z⟩;rw[<-hPA] at hS hW k;have ot:PA.1.length=ay:=by rw[hPA];exact t6 _ _
  have hpw:PA.2.length<=100000:=by
   have:=s_ (n:=ay) qH 0;rw[<-hPA] at this;lia
  refine⟨by rw[aE];simp,λR nR=>?_⟩;have nRS:R≠SA:=bZ hS nR;have nRW:R≠WA:=bZ hW nR;have nRH:H R=none:=sm.free nR;refine⟨_,Z,SA,Z,⟨_,i2 (by rw[aF nRS.symm];exact hS)⟩,?_⟩;refine qD (xs:=(nI PA.1).map V.int) (λi σ H2=>∃y6,C3 (σ=[some (.ref a),some (.ref SA),some (.ref WA),y3,y4,y5,y6,some (.ref R),none]) (aC H' H2) (∃l:bX,l=(PA.1.take i).flatMap (λ(x:Nat)=>zc (x:Int) 4)/\l.length<=4*i/\H2 R=some (iL l))) ⟨y6,Z,aC.upd nR,[],Z,by simp,aq⟩ (λi σ H2 _ ⟨_,_,s2,_⟩=>i2 (s2 _ _ hS)) ?_ ?_
  .rintro i v σ H2 hv ⟨y6',rfl,sH,l,el,hl,eR⟩;rw[aw,aw] at hv;cases hx:PA.1[i]? with
   |none=>rw[hx] at hv;cases hv
   |some x=>
    rw[hx] at hv;cases hv;have hi:i<ay:=by have:=(aN.mp hx).1;lia
    refine⟨_,Z,LS eR,_,Z,(x:Int),4,Z,by lia,by decide,λH3 p3 s3' e3 n3'=>?_⟩;have nRp:R≠p3:=aI eR n3';refine⟨R,p3,_,_,Z,Z,s3' _ _ eR,e3,by rw[aE];simp[ji];lia,?_⟩;refine⟨some (.int (x:Int)),Z,λy o e=>by rw[aF (aI e nR)];exact s3' _ _ (sH _ _ e),l++zc (x:Int) 4,?_,by simp[ji];lia,?_⟩
    .rw[el,yY hx]
    .rw[aq];simp
  .rintro σ H2 ⟨y6',rfl,sH,l,el,hl,eR⟩;rw[show((nI PA.1).map V.int).length=PA.1.length by simp,gk] at el;have hl':l.length<=4*ay:=by simpa[ot] using hl
   refine⟨_,Z,WA,_,Z,i2 (sH _ _ hW),?_⟩;refine Tu (xs:=(nI PA.2.reverse).map V.int) (λi σ H3=>∃y8,C3 (σ=[some (.ref a),some (.ref SA),some (.ref WA),y3,y4,y5,y6',some (.ref R),y8]) (aC H' H3) (∃l2:bX,l2=l++(PA.2.take i).flatMap (λ(x:Nat)=>zc (x:Int) 2)/\l2.length<=4*ay+2*i/\H3 R=some (iL l2))) ⟨none,Z,sH,l,by simp,by lia,eR⟩ (λi σ H3 _ ⟨_,_,s3',_⟩=>i2 (s3' _ _ hW)) ?_ ?_
   .rintro i σ H3 v hi ⟨y8,rfl,sH3,l2,el2,RH,eR3⟩ hv;have iP:((nI PA.2.reverse).map V.int).length=PA.2.length:=by simp
    rw[iP] at hi hv;have ex:v=V.int ((PA.2[i]'hi:Nat):Int):=by
     rw[aw,aw,UJ (by lia),pC hi,aD hi] at hv;exact(bh hv).symm
    subst ex;have hx:PA.2[i]? =some (PA.2[i]'hi):=aD hi;refine⟨_,Z,LS eR3,_,Z,((PA.2[i]'hi:Nat):Int),2,Z,by lia,by decide,λH4 p4 s4' e4 n4'=>?_⟩;refine⟨R,p4,_,_,Z,Z,s4' _ _ eR3,e4,by rw[aE];simp[ji];lia,?_⟩;refine⟨some (.int ((PA.2[i]'hi:Nat):Int)),Z,λy o e=>by rw[aF (aI e nR)];exact s4' _ _ (sH3 _ _ e),l2++zc ((PA.2[i]'hi:Nat):Int) 2,?_,by simp[ji];lia,?_⟩
    .rw[el2,yY hx,cD]
    .rw[aq];simp
   .rintro σ H3 ⟨y8,rfl,sH3,l2,el2,RH,eR3⟩;have iP:((nI PA.2.reverse).map V.int).length=PA.2.length:=by simp
    rw[iP,gk] at el2;refine⟨_,Z,k H3 R (sm.trans sH3) ?_ nRH⟩;rw[eR3,el2,el]
inductive VW (vs:b_)(H:Hp)(Q:VK)(E:XK):Prop|i(e:Int)(_:vs=[.int e])(_:Q (.int (j6 e:Nat)) H)
def PM:T.AN.Ok P w mg rZ jf 1 VW:=by
 refine T.AN.ok λnd H vs Q E hr h=>?_;obtain⟨e,rfl,k⟩:=h;rw[<-agZ] at k;refine .i (aH (bz (qJ (rb YW (pv 0) aJ) (aX fQ aJ (pv 0)) (aX gw (aX fQ (t5 pw aJ) (pv 0)) aJ)))) ?_;refine⟨_,Z,_,_,Z,Z,_,Z,?_⟩;by_cases h:0<=e
 .rw[ag h];rw[aj h] at k;exact eY ⟨_,Z,_,_,Z,Z,.inl ⟨by decide,by decide⟩,k⟩
 .rw[ae h];rw[ah h] at k;exact fK ⟨_,Z,_,Z,_,_,Z,Z,.inl ⟨by decide,by decide⟩,_,_,Z,Z,k⟩
inductive Zy (vs:b_)(H:Hp)(Q:VK)(E:XK):Prop|i(n:Nat)(_:vs=[.int n])(_:Q (.int (fZ n)) H)
def RY:T.Dz.Ok P w mg rZ jf 1 Zy:=by
 refine T.Dz.ok λnd H vs Q E hr h=>?_;obtain⟨n,rfl,k⟩:=h;rw[<-agY] at k;refine .i (aH (bz (qJ (rb lp (aX pX (pv 0) aJ) aJ) (aX jJ (pv 0) aJ) (aX jJ (t5 pw (aX dz (pv 0) aJ)) aJ)))) ?_;refine⟨_,Z,_,_,Z,Z,(by show(0:Int)<2;decide),Z,_,Z,?_⟩;rw[n_];by_cases h:(n:Int)%2=0
 .rw[ag h];rw[aj h] at k;exact eY ⟨_,Z,_,_,Z,Z,⟨by decide,by decide⟩,k⟩
 .rw[ae h];rw[ah h] at k;exact fK ⟨_,Z,_,_,Z,Z,_,Z,_,_,Z,Z,⟨by decide,by decide⟩,k⟩
inductive Zt (vs:b_)(H:Hp)(Q:VK)(E:XK):Prop|i(r:Nat)(l:ie)(_:vs=[.int r,.int (l.sum:Nat)])(_:r<=4)(_:Q (.int (jK r l:Nat)) H)
def wV:T.oR.Ok P w mg rZ jf 1 Zt:=by
 refine T.oR.ok λnd H vs Q E hr h=>?_;obtain⟨r,l,rfl,hr4,k⟩:=h;refine .i (aH (bz (aX dz (aX fQ (fF T.wQ) (pv 0)) (gO (oq rfl) rfl T.ET AE (ak (aX gw (fF T.wQ) aJ) (ak (Ei (aX jJ (pv 1) aJ)) ax)))))) ?_;refine⟨_,Z,_,_,Z,Z,.inl ⟨by decide,by decide⟩,_,_,Z,Z,_,Z,_,_,Z,Z,⟨by decide,by decide⟩,Z,_,Z,Z,_,_,Z,_,_,Z,Z,?_⟩;have e:(16:Int)*(r:Int)+(if((Builtin.Int.intBits (((l.sum:Nat):Int) / 16):Nat):Int)<16-1 then((Builtin.Int.intBits (((l.sum:Nat):Int) / 16):Nat):Int) else 16-1)=((jK r l:Nat):Int):=by
  have hb:Builtin.Int.intBits (((l.sum:Nat):Int) / 16)=aa4 (l.sum / 16):=by
   have e0:((l.sum:Nat):Int) / 16=((l.sum / 16:Nat):Int):=rfl;rw[e0];unfold aa4;by_cases h:l.sum / 16=0
   .rw[aj h,h];rfl
   .rw[ah h,Ht h]
  rw[hb];unfold jK;rw[RC,UP,W5];split<;>split<;>lia
 rw[<-e] at k;exact k
def ake (h:n<=64):RgC 0 (n:Int) 16 ((n+15) / 16):=by
 have hd:∀n:Fin 65,Builtin.Range.small 0 ((n:Nat):Int) 16=true/\Builtin.Range.rangeSize 0 ((n:Nat):Int) 16=((((n:Nat)+15) / 16:Nat):Int):=by decide
 have:=hd ⟨n,by lia⟩;exact⟨by decide,by decide,this.1,this.2⟩
def OA (xs:b_)(k j:Nat)(hk:k<=xs.length):qY xs (some (k:Int)) (some (j:Int))=(xs.drop k).take (j-k):=by
 unfold qY;rw[HT.zp,HT.zp,f9 hk];by_cases h:j<=xs.length
 .rw[f9 h]
 .rw[k_ (by lia),cq (by simp),cq (by simp;lia)]
def sj (w n:Nat):zc (n:Int) w=br (gH w n):=by
 rw[ab1];unfold zc;congr 1
theorem LH:∀(f b n:Nat),(lZ f b n).length<=f
 |0,_,_=>by simp[lZ]
 |f+1,b,n=>by
  have:=LH f (b-15) (n / 32768);unfold lZ;split
  .simp
  .split
   .simp
   .simp;lia
def Vr (n v:Nat):(fY n v).length<=9:=by
 unfold fY;have:=LH 8 (v+1).log2 ((v+1)%2^(v+1).log2);simp;lia
def Gj (ay:Nat)(Ge:List (Nat×Nat))(st:xh):xh:=(Ge.flatMap λ(x:Nat×Nat)=>fY x.1 x.2).foldl (kq ay) st
theorem yo (ay:Nat):∀(l:List oW) (st:xh),(l.foldl (kq ay) st).out.length=st.out.length+l.length/\(l.foldl (kq ay) st).ms.length=st.ms.length
 |[],st=>⟨Z,Z⟩
 |a::r,st=>by
  have h1:=yo ay r (kq ay st a);have h2:=Nt ay st a;rw[bR];refine⟨?_,by rw[h1.2,h2.2]⟩;rw[h1.1,h2.1];simp;lia
def Jn (ay:Nat)(Ge:List (Nat×Nat))(st:xh):(Gj ay Ge st).out.length<=st.out.length+9*Ge.length/\(Gj ay Ge st).ms.length=st.ms.length:=by
 have h:=yo ay (Ge.flatMap λ(x:Nat×Nat)=>fY x.1 x.2) st;have h2:(Ge.flatMap λ(x:Nat×Nat)=>fY x.1 x.2).length<=9*Ge.length:=by
  induction Ge with
  |nil=>simp
  |cons a r ih=>
   have:=Vr a.1 a.2;have ih:=ih (yo ay _ st);rw[cn,aO,aZ];lia
 unfold Gj;exact⟨by lia,h.2⟩
def VL (ay:Nat)(Ge:List (Nat×Nat))(p:Nat×Nat)(st:xh):Gj ay (Ge++[p]) st=(fY p.1 p.2).foldl (kq ay) (Gj ay Ge st):=by
 unfold Gj;rw[kK,dB];simp
def YQ (zs:List (ie))(k r:Nat):List (Nat×Nat):=(bS zs k r).map λz=>(jK r (if k=0 then[] else bS zs (k-1) r),z)
def l8 (zs:List (ie))(k R:Nat):List (Nat×Nat):=(aK R).flatMap λr=>YQ zs k r
def Jc (zs:List (ie))(n:Nat):om zs n=(aK ((n+15) / 16)).flatMap λk=>l8 zs k zs.length:=rfl
def chunk_len (zs:List (ie))(k r:Nat):(bS zs k r).length<=16:=by unfold bS;simp;lia
theorem D9 (zs:List (ie))(k:Nat):∀R,(l8 zs k R).length<=16*R
 |0=>by simp[l8]
 |R+1=>by
  have:=D9 zs k R;have h2:=chunk_len zs k R;unfold l8 at this|-
  rw[de,kK,aO];simp[YQ] at this|-
  lia
theorem zg (zs:List (ie))(R:Nat):∀k,((aK k).flatMap λk=>l8 zs k R).length<=16*R*k
 |0=>by simp
 |k+1=>by
  have:=zg zs R k;have h2:=D9 zs k R;rw[de,kK,aO,amz];simp only[cn,List.flatMap_nil,fX];lia
def Pr (h:r<R)(l:ie):jK r l<16*R:=by unfold jK;lia
def iz (zs:List (ie))(k r:Nat):Nat:=(if k=0 then[] else bS zs (k-1) r).sum
def Oy (ay:Nat)(es:ly)(n:Nat):bX:=br (G1 ay (fO es.length) (xx es n))
def LF (hl:1<=ay)(es:ly)(n:Nat):PQ ay (Gj ay (om (es.map λ(l:bX)=>l.map j6) n) ⟨fO es.length,[],[]⟩).out=Oy ay es n:=by
 unfold PQ Oy G1;have e:LwBits.shares ay (fO es.length) (xx es n)=(Gj ay (om (es.map λ(l:bX)=>l.map j6) n) ⟨fO es.length,[],[]⟩).out:=by
  rw[VQ hl];rfl
 simp only;rw[e,bP];have f:∀(w:Nat) (l:ie),l.flatMap (λ(x:Nat)=>zc (x:Int) w)=br (l.flatMap (gH w)):=by
  intro w l;induction l with
  |nil=>rfl
  |cons a r ih=>rw[cn,cn,bP,ih,sj]
 rw[f,f]
inductive Zz (t:fP)(vs:b_)(H:Hp)(Q:VK)(E:XK):Prop|i(ra:lQ)(kT:b_)(es:ly)(n ay:Nat)(_:vs=[.ref ra,.int ay])(_:H ra=some (.lst kT))(_:Paired (λx v=>IsL x v H) es kT)(_:∀e∈es,e.length=n)(_:1<=n)(_:n<=64)(_:1<=es.length)(_:es.length<=4)(_:1<=ay)(_:ay<=16)(_:∀e∈es,∀x∈e,j6 x+1<2^64)(_:NL H Q (Oy ay es n))
def Gf:T.su.Ok P w mg rZ jf 8 (Zz t):=by
 refine T.su.ok λnd H vs Q E hr h=>?_;obtain⟨ra,kT,es,n,ay,rfl,qm,pr,en,n1,CD,e1,e4,l1,TV,ez,k⟩:=h;refine .i (ao (fL 2 nd (JW T.W0 T.Vk T.ue (IT T) hr bG (ak (pv 1) ax)))
   (ao (fL 3 nd (aX Ef (eE (ak aJ ax)) (Bn T.i_ (ak (pv 0) ax))))
   (ao (gX PassesOwn.never rfl (zk rfl T.iA (ak aJ (ak (Bn T.i_ (ak (JV (pv 0) aJ) ax)) (ak (fF T.GJ) ax)))) (mv 4 nd)
    (aH (gX PassesOwn.never rfl (GN rfl T.tW (ak (pv 0) ax)) (yG rfl (fj (mv 5 nd) (fj (mv 6 nd) ph)))
    (ao (fL 7 nd (ko T.oR (wV T) hr bG (ak (pv 5) (ak (JV (pv 3) (pv 5)) ax))))
   (ao (psc 8 [("rest",10)] nd (fB (psl (pv 6) (qu (pv 4)) (qu (aX dz (pv 4) (fF T.GJ))))) (mv 10 nd) (ko T.AN (PM T) hr bG (ak (pv 10) ax)))
   (ao (gX PassesOwn.never rfl (fB (pv 8)) (mv 9 nd)
    (aH (cP (qN (pv 2) T.gn T.mK (yB T) hr bG (ak (pv 7) (ak (pv 9) ax))))))
   (aH (yJ (gO (Ml rfl) rfl T.TZ aev (ak (pv 8) ax)) (yF (pv 3) (pv 5) set_list)))))))))
   (aH (bz (Fe (pv 2) T.gn T.qQ (Ea T) hr bG)))))) ?_
 have rl:kT.length=es.length:=(dR pr).symm;obtain⟨zs,hzs⟩:∃zs,zs=es.map λ(l:bX)=>l.map j6:=⟨_,Z⟩;have zl:zs.length=es.length:=by rw[hzs];simp
 obtain⟨ZK,Ym⟩:∃ZK:xh,ZK=⟨fO es.length,[],[]⟩:=⟨_,Z⟩;rw[<-LF l1,<-Ym,<-hzs] at k;refine⟨_,Z,λa da m1 m2 m3=>acj (r:=16*es.length) (by lia) m1 m2 λH1 s1 pk1=>⟨Z,?_⟩⟩;have pk0:Od t (nw H H1) ay ZK a:=by
  rw[Ym];exact⟨pk1,Nat.zero_mod _,by show 0<ay;lia,by show(aM (16*es.length) (gi 64 6)).length<=64;simp;lia,TV⟩
 refine⟨by rw[aE];simp,λp1 n1'=>?_⟩;have s2:aC H1 (upd H1 p1 (.lst [.int 0])):=aC.upd n1';refine⟨_,Z,ra,_,Z,i3 (s2 _ _ (s1 _ _ qm)),p1,_,_,Z,Z,aq,by lia,by lia,by rw[aE];simp;lia,λTA nTA=>?_⟩;rw[Nv];have s3:=s2.trans (aC.upd (o:=.lst ((aM kT.length (0:Int)).map V.int)) nTA);obtain⟨v0,hv0⟩:∃v0,kT[0]? =some v0:=⟨_,aD (by lia)⟩;obtain⟨e0,he0,pe0,rfl,aoi⟩:=iR pr hv0;have s13:=s1.trans s3;have ad1:H1 TA=none:=s2.free nTA;refine⟨_,Z,ra,_,_,_,Z,Z,i2 (s13 _ _ qm),at_of (j:=0) rfl hv0,pe0,_,Z,i3 (s13 _ _ aoi),0,(n:Int),16,(n+15) / 16,?_,ake CD,?_⟩
 .rw[aB,en e0 (az he0)]
 refine wc (λkk σ Hc=>X7 λy4 y5 y6 y7 y8 y9 G=>C7 (σ=[some (.ref ra),some (.int ay),some (.ref a),some (.ref TA),y4,y5,y6,y7,y8,y9,none]) (aC H Hc) (aC G Hc) (Apart H G) (G TA=none) (Hc TA=some (iL (nI ((aK es.length).map λr=>iz zs kk r)))) (Od t G ay (Gj ay ((aK kk).flatMap λk=>l8 zs k es.length) ZK) a))
  ⟨none,none,none,none,none,none,nw H H1,Z,s13,iK.trans s3,λb=>?_,iK.free ad1,?_,pk0⟩ ?_ ?_
 .cases e:H b with
  |none=>exact .inl rfl
  |some o=>exact .inr (by unfold nw;rw[e];rfl)
 .rw[aq,rl];have e5:((aK es.length).map λr=>iz zs 0 r)=aM es.length 0:=by
   rw[UI];refine⟨by simp,λb hb=>?_⟩;obtain⟨r,_,rfl⟩:=bj.mp hb;rfl
  rw[e5];simp[nI]
 .rintro kk σ Hc hkk ⟨y4,y5,y6,y7,y8,y9,G,rfl,sm,sG,ap,gT,hT,pk⟩;have hk6:=k16 hkk;have hk4:kk<4:=by clear hkk;lia
  have aoo:=sm _ _ qm;refine⟨_,Z,ra,kT,Z,i2 aoo,?_⟩;refine Cr (xs:=kT) (λr σ Hd=>X6 λy5 y6 y7 y8 y9 G2=>C7 (σ=[some (.ref ra),some (.int ay),some (.ref a),some (.ref TA),some (.int (0+(kk:Nat)*16)),y5,y6,y7,y8,y9,none]) (aC H Hd) (aC G2 Hd) (Apart H G2) (G2 TA=none) (Hd TA=some (iL (nI ((aK es.length).map λq=>if q<r then iz zs (kk+1) q else iz zs kk q)))) (Od t G2 ay (Gj ay (((aK kk).flatMap λk=>l8 zs k es.length)++l8 zs kk r) ZK) a))
   ⟨y5,y6,y7,y8,y9,G,Z,sm,sG,ap,gT,by simpa using hT,by simpa[l8] using pk⟩ (λr σ Hd _ ⟨_,_,_,_,_,_,_,sm,_,_,_,_,_⟩=>i2 (sm _ _ qm)) ?_ ?_
  .rintro r σ Hd x Tt WG ⟨y5,y6,y7,y8,y9,G2,rfl,pK,sG2,ap2,gT2,hT2,pk2⟩ hx nT;obtain⟨e,he,pe,rfl,hpe⟩:=iR pr hx;have hrE:r<es.length:=by lia
   have sT:aC Hd (upd Hd Tt (.tup [.int (r:Nat),.ref pe])):=aC.upd nT;have X1:r<((aK es.length).map λq=>if q<r then iz zs (kk+1) q else iz zs kk q).length:=by simpa using hrE
   have afl:((aK es.length).map λq=>if q<r then iz zs (kk+1) q else iz zs kk q).getD r 0=iz zs kk r:=by
    rw[aG,aw,bD hrE];simp
   refine⟨Tt,_,Z,i2 aq,Z,_,_,Z,_,_,Z,Z,?_⟩;refine⟨_,Z,_,Z,_,Z,TA,_,_,_,Z,Z,i2 (sT _ _ hT2),Pt X1 rfl,r,_,by rw[afl];rfl,by lia,?_⟩;obtain⟨md,hmd⟩:∃md,md=jK r (if kk=0 then[] else bS zs (kk-1) r):=⟨_,Z⟩;rw[<-hmd];have hzr:zs.getD r []=e.map j6:=by rw[hzs,aG,aw,he];rfl
   have am8:e.length=n:=en e (az he);refine⟨_,Z,_,Z,_,Z,_,Z,_,_,Z,Z,_,Z,pe,_,Z,i2 (sT _ _ (pK _ _ hpe)),λcp ncp=>?_⟩;have ae4:qY (e.map V.int) (some (0+(kk:Nat)*16)) (some (0+(kk:Nat)*16+16))=((e.drop (16*kk)).take 16).map V.int:=by
    have:=OA (e.map V.int) (16*kk) (16*kk+16) (by rw[aB,am8];exact cY hk6);rw[show(0:Int)+(kk:Nat)*16=((16*kk:Nat):Int) by lia,show((16*kk:Nat):Int)+16=((16*kk+16:Nat):Int) by lia,this,k9,kg,lY]
   have ech:(((e.drop (16*kk)).take 16).map j6)=bS zs kk r:=by
    unfold bS;rw[hzr,kg,lY]
   have s4:aC Hd (upd (upd Hd Tt (.tup [.int (r:Nat),.ref pe])) cp (.lst (qY (e.map V.int) (some (0+(kk:Nat)*16)) (some (0+(kk:Nat)*16+16))))):=sT.trans (aC.upd ncp);have ecp:upd (upd Hd Tt (.tup [.int (r:Nat),.ref pe])) cp (.lst (qY (e.map V.int) (some (0+(kk:Nat)*16)) (some (0+(kk:Nat)*16+16)))) cp=some (iL ((e.drop (16*kk)).take 16)):=by rw[aq,ae4]
   generalize upd (upd Hd Tt (.tup [.int (r:Nat),.ref pe])) cp (.lst (qY (e.map V.int) (some (0+(kk:Nat)*16)) (some (0+(kk:Nat)*16+16))))=H4 at s4 ecp|-
   have auo:((e.drop (16*kk)).take 16).length<=16:=List.length_take_le ..;refine⟨cp,Z,⟨_,i2 ecp⟩,λD hD=>?_⟩;refine nt (ys:=(nI (bS zs kk r)).map V.int) hD (by rw[aE,<-ech];simp;exact bt (fu 16 _) (by decide)) (i2 ecp) (by rw[<-ech];simp) (λi x y H5 Q5 hx hy NC k5=>?_) λH5 e5 s5=>?_
   .rw[aw] at hx;rw[aw,aw,<-ech,aw] at hy;cases hq:((e.drop (16*kk)).take 16)[i]? with
    |none=>rw[hq] at hx;cases hx
    |some z=>
     rw[hq] at hx hy;cases hx;cases hy;exact⟨Z,_,Z,z,Z,k5 _ (aC.refl _)⟩
   .have s45:=s4.trans s5;have nD:Hd D=none:=s4.free hD;have DT:D≠TA:=bZ hT2 nD;have cl:=chunk_len zs kk r;have ajf:=zg zs es.length kk;have hnk:=D9 zs kk r;have aoa:16*es.length*kk<=16*4*4:=uV (oE 16 e4) (cY hk4);refine⟨_,Z,D,Z,⟨_,i2 e5⟩,?_⟩;refine qD (xs:=(nI (bS zs kk r)).map V.int) (λi σ Hf=>X2 λy9 G3=>C9 (σ=[some (.ref ra),some (.int ay),some (.ref a),some (.ref TA),some (.int (0+(kk:Nat)*16)),some (.int (r:Nat)),some (.ref pe),some (.int (md:Nat)),some (.ref D),y9,none]) (aC H Hf) (aC G3 Hf) (Apart H G3) (G3 TA=none) (G3 D=none) (Hf D=some (iL (nI (bS zs kk r)))) (Hf TA=some (iL (nI ((aK es.length).map λq=>if q<r then iz zs (kk+1) q else iz zs kk q)))) (Od t G3 ay (Gj ay (((aK kk).flatMap λk=>l8 zs k es.length)++l8 zs kk r++((bS zs kk r).take i).map λz=>(md,z)) ZK) a))
     ⟨y9,G2,Z,pK.trans s45,sG2.trans s45,ap2,gT2,sG2.free nD,e5,s45 _ _ hT2,by simpa using pk2⟩ (λi σ Hf _ ⟨_,_,_,_,_,_,_,_,hDf,_,_⟩=>i2 hDf) ?_ ?_
    .rintro i v σ Hf hv ⟨y9',G3,rfl,AA,sG3,ap3,gT3,gD3,hD3,hT3,pk3⟩;rw[aw,aw] at hv;cases hq:(bS zs kk r)[i]? with
     |none=>rw[hq] at hv;cases hv
     |some z=>
      rw[hq] at hv;cases hv;have hi:i<16:=by have:=(aN.mp hq).1;lia
      have pl:=Jn ay (((aK kk).flatMap λk=>l8 zs k es.length)++l8 zs kk r++((bS zs kk r).take i).map λz=>(md,z)) ZK;have m0:ZK.ms.length=16*es.length:=by rw[Ym];show(aM (16*es.length) _).length=_;simp
      have o0:ZK.out.length=0:=by rw[Ym];rfl
      have hzb:z+1<2^64:=by
       have hz:z∈bS zs kk r:=az hq;rw[<-ech] at hz;obtain⟨x,hx,rfl⟩:=bj.mp hz;exact ez e (az he) x (j5 (e_ hx))
      obtain⟨⟨Sh',Gb',sR,Wx,sa',akD,sS',sB',Y9⟩,_⟩:=id pk3;have an6:md<16*es.length:=by rw[hmd];exact Pr hrE _
      refine⟨_,Z,a,_,_,Z,sG3 _ _ (sS' _ _ Y9.ob),Z,_,Z,_,Z,a,ay,_,md,z,G3,Z,sG3,pk3,by rw[pl.2,m0];exact an6,hzb,?_,λH6 kp6 pk6=>?_⟩
      .have:=pl.1;rw[o0] at this;simp only[aO,aB,cN] at this;lia
      .refine⟨some (.int (z:Int)),grow G3 Hf H6,Z,kp6.other AA ap3,cj,gU AA ap3,cS hT3 gT3,cS hD3 gD3,kp6 _ _ hD3 gD3,kp6 _ _ hT3 gT3,?_⟩;have e7:(((aK kk).flatMap λk=>l8 zs k es.length)++l8 zs kk r++((bS zs kk r).take (i+1)).map λz=>(md,z))=(((aK kk).flatMap λk=>l8 zs k es.length)++l8 zs kk r++((bS zs kk r).take i).map λz=>(md,z))++[(md,z)]:=by
        rw[Mx.take_snoc hq,jU,<-cD];rfl
       rw[e7,VL];exact pk6
    .rintro σ Hf ⟨y9',G3,rfl,AA,sG3,ap3,gT3,gD3,hD3,hT3,pk3⟩;have e8:((nI (bS zs kk r)).map V.int).length=(bS zs kk r).length:=by simp
     rw[e8,gk] at pk3;have ane:(nI (bS zs kk r)).sum=(((bS zs kk r).sum:Nat):Int):=by
      induction bS zs kk r with
      |nil=>rfl
      |cons a r ih=>simp only[nI,cz,DC] at ih|-;rw[ih];simp
     refine⟨_,Z,D,_,Z,i2 hD3,_,Z,_,Z,TA,_,_,r,Z,Z,hT3,qo rfl (by simpa using hrE),?_⟩;rw[ane,D7];refine⟨_,_,_,_,_,G3,Z,λy o e=>?_,λy o e=>?_,ap3,gT3,?_,?_⟩
     .have hTH:H TA=none:=s1.free ad1;rw[aF (aI e hTH)];exact AA _ _ e
     .rw[aF (aI e gT3)];exact sG3 _ _ e
     .rw[aq];refine congrArg (λz=>some (iL (nI z))) (qd λq=>?_);rw[aa3,aw,aw];by_cases Lr:r=q
      .rw[aj Lr,aj (by simpa using hrE),<-Lr,bD hrE];simp[iz]
      .rw[ah Lr];by_cases hqe:q<es.length
       .rw[bD hqe];simp only[eX];by_cases h3:q<r
        .rw[aj h3,aj (by lia)]
        .rw[ah h3,ah (by lia)]
       .rw[ia (by simpa using hqe)];rfl
     .have e9:((aK kk).flatMap λk=>l8 zs k es.length)++l8 zs kk (r+1)=((aK kk).flatMap λk=>l8 zs k es.length)++l8 zs kk r++((bS zs kk r)).map λz=>(md,z):=by
       rw[cD];congr 1;unfold l8;rw[de,kK];simp[YQ,hmd]
      rw[e9];exact pk3
  .rintro σ Hd ⟨y5,y6,y7,y8,y9,G2,rfl,pK,sG2,ap2,gT2,hT2,pk2⟩;rw[rl] at pk2 hT2;refine⟨_,_,_,_,_,_,G2,Z,pK,sG2,ap2,gT2,?_,?_⟩
   .rw[hT2];refine congrArg (λz=>some (iL (nI z))) (fM λq hq=>?_);rw[aj (cb.mp hq)]
   .rw[de,kK];simpa using pk2
 .rintro σ Hc ⟨y4,y5,y6,y7,y8,y9,G,rfl,sm,sG,ap,gT,hT,pk⟩;rw[Jc,zl] at k;have pl:=Jn ay ((aK ((n+15) / 16)).flatMap λk=>l8 zs k es.length) ZK;have ajf:=zg zs es.length ((n+15) / 16);have aoa:16*es.length*((n+15) / 16)<=16*4*4:=uV (oE 16 e4) (by lia);have o0:ZK.out.length=0:=by rw[Ym];rfl
  obtain⟨⟨Sh',Gb',sR,Wx,sa',akD,sS',sB',Y9⟩,_⟩:=id pk;refine⟨_,Z,a,_,_,Z,sG _ _ (sS' _ _ Y9.ob),Z,a,ay,_,G,Z,sG,pk,by lia,λH' p sH e n'=>k H' p (sm.trans sH) e (sm.free n')⟩
abbrev UpO (t:fP)(dx gW ba sa:lQ)(pl:Nat):HO:=.ins t.cy dx [("block",.ref gW),("bank",.ref ba),("states",.ref sa),("place",.int pl)]
structure UpS (t:fP)(F Sh Gb:Hp)(b:cf)(ay:Nat)(states:ie)(pl:Nat)(ms:List b9)(pd:Nat)(wl:List (Nat×Nat))(a dx gW ba sa:lQ):Prop where
 ap:Apart Sh Gb
 ob:Sh a=some (UpO t dx gW ba sa pl)
 hs:Sh sa=some (iL (nI states))
 bk:NQ t Gb ay ms pd wl ba
 hb:F gW=some (iL (br b))
 hl:states.length=ay
 l1:1<=ay
inductive S9 (t:fP)(F G:Hp)(b:cf)(ay:Nat)(states:ie)(pl:Nat)(ms:List b9)(pd:Nat)(wl:List (Nat×Nat))(a:lQ):Prop|i(Sh Gb:Hp)(dx gW ba sa:lQ)(_:aC Sh G)(_:aC Gb G)(_:UpS t F Sh Gb b ay states pl ms pd wl a dx gW ba sa)
def S9.same {states:ie}{ms:List b9}(h:S9 t F G b ay states pl ms pd wl a)(f:aC F F')(s:aC G G'):S9 t F' G' b ay states pl ms pd wl a:=by
 obtain⟨Sh,Gb,dx,gW,ba,sa,z1,z2,z⟩:=h;exact⟨Sh,Gb,dx,gW,ba,sa,z1.trans s,z2.trans s,z.ap,z.ob,z.hs,z.bk,f _ _ z.hb,z.hl,z.l1⟩
def L4 (t:fP)(E:XK)(G H:Hp)(k p:Int):Prop:=∀H' dd fs,H' dd=some (.ext (GB dd fs))->fs.lookup ("kind":Str)=some (V.int k)->fs.lookup ("place":Str)=some (V.int p)->fw G H H'->E (.ref t.cH) (some dd) H'
def L4.mono {k p:Int}(h:L4 t E G H k p)(c:fw G H H1):L4 t E (grow G H H1) H1 k p:=λH' dd fs a b d x=>h H' dd fs a b d (c.trans x)
def L4.sub {k p:Int}(h:L4 t E G H k p)(s:aC G' G):L4 t E G' H k p:=λH' dd fs a b d x=>h H' dd fs a b d λy o e g=>x y o e (s.free g)
def L4.raise {k:Int}(h:L4 t E G H k e):[V.int k,V.int e].length=(["kind","place"]:mX).length/\∀dd fs H2,H2 dd=some (.ext (GB dd fs))->Given ["kind","place"] [V.int k,V.int e] fs->aC H H2->E (.ref t.cH) (some dd) H2:=
 ⟨Z,λdd fs H2 a g s=>h H2 dd fs a (g 0 _ _ rfl rfl) (g 1 _ _ rfl rfl) (fw.same s)⟩
def L4.of {k p:Int}(h:Gx t E [] H0 k p)(s:aC H0 H)(ap:Apart H0 G):L4 t E G H k p:=λH' dd fs a b d x=>h H' dd fs a b d (x.other s ap).chg
inductive agD (t:fP)(vs:b_)(H:Hp)(Q:VK)(E:XK):Prop|i(a:lQ)(F G:Hp)(b:cf)(ay:Nat)(states:ie)(pl:Nat)(ms:List b9)(pd:Nat)(wl:List (Nat×Nat))(_:vs=[.ref a])(_:aC G H)(_:S9 t F G b ay states pl ms pd wl a)(_:Q (.int ((states.getD (pd%ay) 0%32768:Nat):Int)) H)
def ve:T.nH.Ok P w mg rZ jf 2 (agD t):=by
 refine T.nH.ok λnd H vs Q E hr h=>?_;obtain⟨a,F,G,b,ay,states,pl,ms,pd,wl,rfl,sG,⟨Sh,Gb,dx,gW,ba,sa,sS,sB,z⟩,k⟩:=h;obtain⟨db,da,wa,cg,uP,bk⟩:=id z.bk;have HA:=sG _ _ (sS _ _ z.ob);have hm:pd%ay<states.length:=by rw[z.hl];exact nh _ z.l1
 have l1:=z.l1;refine .i (aH (bz (aX pX (JV (cO (pv 0)) (Fe (cO (pv 0)) T.ic T.tP (CJ T) hr bG)) (fF T.iQ)))) ?_;refine⟨_,Z,Z,HA,T.bY,Z,Z,_,Z,Z,HA,T.bY,Z,Z,ba,_,_,Z,sG _ _ (sB _ _ bk.ob),Z,ba,db,da,wa,ay,pd,Z,sG _ _ (sB _ _ bk.ob),l1,sa,_,_,_,Z,Z,i2 (sG _ _ (sS _ _ z.hs)),Pt hm rfl,_,_,Z,Z,(by show(0:Int)<32768;decide),k⟩
def NK {states GU:ie}{NZ:Nat}{ms:List b9}{gW sa:lQ}{Sh Gb:Hp}(sG:aC G H)(sS:aC Sh G)(sB:aC Gb G)(z:UpS t F Sh Gb b ay states pl ms pd wl a dx gW ba sa)
  (c:dE [a,sa] H H') (ha:H' a=some (UpO t dx gW ba sa NZ)) (hs:H' sa=some (iL (nI GU))) (hl:GU.length=ay):fw G H H'/\S9 t F (grow G H H') b ay GU NZ ms pd wl a:=by
 have Ga:(G a).isSome=true:=by rw[sS _ _ z.ob];rfl
 have Gsa:(G sa).isSome=true:=by rw[sS _ _ z.hs];rfl
 have ga:Gb a=none:=(z.ap a).resolve_left (by rw[z.ob];simp);have gs:Gb sa=none:=(z.ap sa).resolve_left (by rw[z.hs];simp);have nas:a≠sa:=g_ z.ob z.hs (by intro q;cases q);refine⟨λy o e g=>c y o e λm=>?_,upd (upd Sh a (UpO t dx gW ba sa NZ)) sa (iL (nI GU)),Gb,dx,gW,ba,sa,λy o e=>?_,λy o e=>?_,r8 (r8 z.ap ga) gs,by rw[aF nas,aq],aq,z.bk,z.hb,hl,z.l1⟩
 .simp at m;rcases m with rfl|rfl
  .rw[g] at Ga;cases Ga
  .rw[g] at Gsa;cases Gsa
 .by_cases h1:y=sa
  .rw[h1] at e|-;rw[aq] at e;rw[<-e];exact bC.mpr ⟨.inl Gsa,hs⟩
  .rw[aF h1] at e;by_cases h2:y=a
   .rw[h2] at e|-;rw[aq] at e;rw[<-e];exact bC.mpr ⟨.inl Ga,ha⟩
   .rw[aF h2] at e;exact bC.mpr ⟨.inl (by rw[sS _ _ e];rfl),c y o (sG _ _ (sS _ _ e)) (by simp[h1,h2])⟩
 .exact bC.mpr ⟨.inl (by rw[sB _ _ e];rfl),c y o (sG _ _ (sB _ _ e)) (by
   intro m;simp at m;rcases m with rfl|rfl
   .rw[ga] at e;cases e
   .rw[gs] at e;cases e)⟩
inductive agF (t:fP)(vs:b_)(H:Hp)(Q:VK)(E:XK):Prop|i(a:lQ)(F G:Hp)(b:cf)(ay:Nat)(states:ie)(pl:Nat)(ms:List b9)(pd:Nat)(wl:List (Nat×Nat))(_:vs=[.ref a])(_:aC F H)(_:aC G H)(_:Apart F G)(_:S9 t F G b ay states pl ms pd wl a)(_:pl<=b.length)(_:(b.length-pl)%2=0)(_:pl=b.length->L4 t E G H 3 b.length)(_:pl<b.length->∀H',fw G H H'->S9 t F (grow G H H') b ay states (pl+2) ms pd wl a->Q (.int (kP b pl:Nat)) H')
def Ec:T.qS.Ok P w mg rZ (tN P w t.bI) 4 (agF t):=by
 refine T.qS.xA λnd H vs Q E hr h=>?_;obtain⟨a,F,G,b,ay,states,pl,ms,pd,wl,rfl,sF,sG,Hm,⟨Sh,Gb,dx,gW,ba,sa,sS,sB,z⟩,ot,Lo,kE,kQ⟩:=h;have HA:=sG _ _ (sS _ _ z.ob);have HB:=sF _ _ z.hb;have bl:(br b).length=b.length:=eA b;refine .i (ao (gj (rb YW (cO (pv 0)) (Bn T.i_ (ak (cO (pv 0)) ax))) (aH (jy (ns:=["kind","place"]) aY rfl T.hU (h_ T) (hr.mono (by decide)).h T.dq.b rfl rfl T.gm (ak aJ (ak (Bn T.i_ (ak (cO (pv 0)) ax)) ax)) (by decide))) cQ)
   (ao (P4 (pv 0) aJ Yt)
   (aH (bz (ko T.qz (wy T) hr bG (ak (cO (pv 0)) (ak (aX gw (cO (pv 0)) aJ) (ak aJ ax)))))))) ?_
 refine⟨_,Z,Z,HA,T.bY,Z,Z,_,Z,Z,HA,T.bY,Z,Z,gW,_,Z,i3 HB,_,_,Z,Z,_,Z,?_⟩;rw[aB,bl];by_cases hp:pl=b.length
 .rw[ag (by lia)];refine eY ⟨_,Z,Z,HA,T.bY,Z,Z,gW,_,Z,i3 HB,?_⟩;rw[aB,bl];exact(kE hp).raise
 .rw[ae (by lia)];refine fK ⟨_,Z,Z,HA,T.bY,Z,Z,_,_,Z,Z,_,_,_,HA,Z,Z,?_⟩;have nas:a≠sa:=g_ z.ob z.hs (by intro q;cases q);have nba:gW≠a:=g_ HB HA (by intro q;cases q);have c1:dE [a,sa] H (upd H a (UpO t dx gW ba sa (pl+2))):=dE.refl.d_ (by simp);obtain⟨kp,up⟩:=NK (NZ:=pl+2) sG sS sB z c1 aq (by rw[aF nas.symm];exact sG _ _ (sS _ _ z.hs)) z.hl;have SY:upd H a (UpO t dx gW ba sa (pl+2)) a=some (UpO t dx gW ba sa (pl+2)):=aq;refine⟨_,Z,Z,SY,T.bY,Z,Z,_,Z,Z,SY,T.bY,Z,Z,_,_,Z,Z,gW,br b,pl,2,?_,i2 (by rw[aF nba];exact HB),by decide,by decide,by lia,λ_ x hx=>xQ b x hx,?_⟩
  .show[V.ref gW,V.int (((pl+2:Nat):Int)-2),V.int 2]=[V.ref gW,V.int (pl:Int),V.int ((2:Nat):Int)];rw[show((pl+2:Nat):Int)-2=(pl:Int) by lia];rfl
  .rw[qF b pl 1 (by lia)];exact kQ (by lia) _ kp up
inductive agx (t:fP)(vs:b_)(H:Hp)(Q:VK)(E:XK):Prop|i(a:lQ)(F G:Hp)(b:cf)(ay:Nat)(states:ie)(pl:Nat)(ms:List b9)(pd:Nat)(wl:List (Nat×Nat))(bg sz:Nat)(_:vs=[.ref a,.int bg,.int sz])(_:aC F H)(_:aC G H)(_:Apart F G)(_:S9 t F G b ay states pl ms pd wl a)(_:pl<=b.length)(_:(b.length-pl)%2=0)(_:sz<=32768)(_:bg<=states.getD (pd%ay) 0%32768)(_:65536<=qM (states.getD (pd%ay) 0) bg sz->∀H',fw G H H'->S9 t F (grow G H H') b ay (states.set (pd%ay) (qM (states.getD (pd%ay) 0) bg sz)) pl ms pd wl a->Q .gQ H')(_:qM (states.getD (pd%ay) 0) bg sz<65536->(pl=b.length->L4 t E G H 3 b.length)/\(pl<b.length->∀H',fw G H H'->S9 t F (grow G H H') b ay (states.set (pd%ay) (qM (states.getD (pd%ay) 0) bg sz*65536+kP b pl)) (pl+2) ms pd wl a->Q .gQ H'))
def vd:T.nF.Ok P w mg rZ (tN P w t.bI) 5 (agx t):=by
 refine T.nF.xA λnd H vs Q E hr h=>?_;obtain⟨a,F,G,b,ay,states,pl,ms,pd,wl,bg,sz,rfl,sF,sG,Hm,up,ot,Lo,hsz,hbg,k1,k2⟩:=h;obtain⟨Sh,Gb,dx,gW,ba,sa,sS,sB,z⟩:=id up;obtain⟨db,da,wa,cg,uP,bk⟩:=id z.bk;have HA:=sG _ _ (sS _ _ z.ob);have hm:pd%ay<states.length:=by rw[z.hl];exact nh _ z.l1
 obtain⟨ln,hln⟩:∃ln,ln=pd%ay:=⟨_,Z⟩;rw[<-hln] at hm hbg k1 k2;obtain⟨x,hx⟩:∃x,x=states.getD ln 0:=⟨_,Z⟩;rw[<-hx] at hbg k1 k2;refine .i (ao (fL 3 nd (Fe (cO (pv 0)) T.ic T.tP (CJ T) hr bG))
   (ao (fL 4 nd (JV (cO (pv 0)) (pv 3)))
   (ao (fL 4 nd (aX gw (aX dz (aX fQ (pv 2) (aX jJ (pv 4) (fF T.iQ))) (aX pX (pv 4) (fF T.iQ))) (pv 1)))
   (ao (gj (rb Fc (pv 4) (fF T.qr)) (aH (fL 4 nd (aX dz (aX fQ (pv 4) (fF T.RQ)) (Fe (pv 0) T.bY T.qS (Ec T) hr aY.passes)))) cQ)
   (aH (yJ (pv 4) (yF (cO (pv 0)) (pv 3) set_list))))))) ?_
 refine⟨_,Z,Z,HA,T.bY,Z,Z,ba,_,_,Z,sG _ _ (sB _ _ bk.ob),Z,ba,db,da,wa,ay,pd,Z,sG _ _ (sB _ _ bk.ob),z.l1,?_⟩;rw[<-hln];refine⟨_,Z,Z,HA,T.bY,Z,Z,_,Z,sa,_,_,_,Z,Z,i2 (sG _ _ (sS _ _ z.hs)),Pt hm rfl,?_⟩;rw[<-hx];refine⟨_,Z,_,Z,_,_,Z,Z,⟨by decide,by decide⟩,_,_,Z,Z,.inl ⟨by lia,by lia⟩,_,Z,_,_,Z,Z,(by show(0:Int)<32768;decide),_,_,Z,Z,_,Z,_,_,Z,Z,?_⟩;obtain⟨y,hy⟩:∃y,y=qM x bg sz:=⟨_,Z⟩;rw[<-hy] at k1 k2;have ev:(sz:Int)*((x:Int) / 32768)+(x:Int)%32768-(bg:Int)=((y:Nat):Int):=by
  rw[hy];unfold qM Wm;rw[fq,gY,L7 hbg,nZ,rP];rw[show((32768:Nat):Int)=32768 from rfl];lia
 have e0:V.int (((sz:Int)*((x:Int) / 32768)+(x:Int)%32768)-(bg:Int))=V.int ((y:Nat):Int):=congrArg V.int ev;rw[e0];refine⟨_,Z,_,_,Z,Z,_,Z,?_⟩;have k1':=λ(q:65536<=y)=>k1 q;have k2':=λ(q:y<65536)=>k2 q;clear k1 k2;have X8:=uo y 65536;cases X8 with
 |inl lu=>
  rw[ag (by lia)];obtain⟨kE,kQ⟩:=k2' lu;refine eY ⟨_,Z,_,_,Z,Z,.inr ⟨by decide,by decide⟩,_,Z,a,_,_,Z,HA,Z,a,F,G,b,ay,states,pl,ms,pd,wl,Z,sF,sG,Hm,up,ot,Lo,kE,λBF H2 Bf Qr=>?_⟩;obtain⟨Sh2,Gb2,dx2,Xm,ba2,sa2,Sn,WN,z2⟩:=id Qr;have SY:=cj _ _ (Sn _ _ z2.ob);have hS2:=cj _ _ (Sn _ _ z2.hs);have e1:(y:Int)*65536+((kP b pl:Nat):Int)=((y*65536+kP b pl:Nat):Int):=by lia
  refine⟨_,_,Z,Z,_,Z,_,Z,Z,SY,T.bY,Z,Z,_,Z,sa2,_,_,ln,Z,Z,hS2,qo rfl (by simpa using hm),?_⟩;have e2:V.int (((y:Int)*65536)+((kP b pl:Nat):Int))=V.int ((y*65536+kP b pl:Nat):Int):=congrArg V.int e1;rw[e2,D7];have nas:a≠sa2:=g_ z2.ob z2.hs (by intro q;cases q);obtain⟨QC,up3⟩:=NK (H':=upd H2 sa2 (iL (nI (states.set ln (y*65536+kP b pl))))) (NZ:=pl+2) cj Sn WN z2 (dE.refl.d_ (by simp)) (by rw[aF nas];exact SY) aq (by rw[fc];exact z2.hl);exact kQ BF _ (Bf.trans QC) (up3.same (aC.refl _) (og Bf))
 |inr lu=>
  rw[ae (by lia)];refine fK ⟨_,Z,_,Z,Z,HA,T.bY,Z,Z,_,Z,sa,_,_,ln,Z,Z,sG _ _ (sS _ _ z.hs),qo rfl (by simpa using hm),?_⟩;rw[D7];have nas:a≠sa:=g_ z.ob z.hs (by intro q;cases q);obtain⟨QC,up3⟩:=NK (H':=upd H sa (iL (nI (states.set ln y)))) (NZ:=pl) sG sS sB z (dE.refl.d_ (by simp)) (by rw[aF nas];exact HA) aq (by rw[fc];exact z.hl);exact k1' lu _ QC up3
structure JP (t:fP)(F G:Hp)(b:cf)(ay:Nat)(rd:cE)(a:lQ):Prop where
 ex:∃pl pd,S9 t F G b ay rd.states pl rd.models pd (Mx.waitOf rd.group) a/\pd%ay=rd.group.length/\rd.words=ft (b.drop pl)/\pl<=b.length/\(b.length-pl)%2=0
 ok:Mx.ROk ay rd
 TV:ay<=16
 ml:rd.models.length<=64
def JP.same (h:JP t F G b ay rd a)(f:aC F F')(s:aC G G'):JP t F' G' b ay rd a:=by
 obtain⟨pl,pd,z,r⟩:=h.ex;exact⟨⟨pl,pd,z.same f s,r⟩,h.ok,h.TV,h.ml⟩
def LG (h:pl=b.length):ft (b.drop pl)=[]:=by rw[h,rn];rfl
def Ji (h:pl<b.length)(h2:(b.length-pl)%2=0):ft (b.drop pl)=kP b pl::ft (b.drop (pl+2)):=by
 have h1:pl+1<b.length:=by lia
 rw[cT h,cT h1];show(b[pl].toNat+256*b[pl+1].toNat)::ft (b.drop (pl+1+1))=_;congr 1;unfold kP rq;rw[cT h,cT h1];rfl
def Ut {y:Nat}{words:ie}{gW sa:lQ}{Sh Gb:Hp}(Hm:Apart F G)(sF:aC F H)(ok:Mx.ROk ay rd)(TV:ay<=16)(ml:rd.models.length<=64)(hi:N7 rd.models.length it)
  (Iy:fw G H H1) (sS:aC Sh (grow G H H1)) (sB:aC Gb (grow G H H1)) (z:UpS t F Sh Gb b ay (rd.states.set rd.group.length y) pl rd.models pd (Mx.waitOf rd.group) a dx gW ba sa) (TJ:pd%ay=rd.group.length) (hw:words=ft (b.drop pl)) (ot:pl<=b.length) (Lo:(b.length-pl)%2=0)
  (Bf:fw Gb H1 H2) (bk:NQ t (grow Gb H1 H2) ay (if(pd+1)%ay=0 then pZ rd.models (Mx.waitOf (rd.group++[it])) else rd.models) (pd+1) (if(pd+1)%ay=0 then[] else Mx.waitOf (rd.group++[it])) ba):
  fw G H H2/\JP t F (grow G H H2) b ay (Mx.pass rd it y words) a:=by
 have kG:fw (grow G H H1) H1 H2:=λx o e g=>Bf x o e (sB.free g);have hn:=Pq TJ ok.gr;have hz:(pd+1)%ay=0↔(rd.group++[it]).length=ay:=by rw[aO];exact hn.1
 have pk:=acb ok hi y words;refine⟨Iy.trans kG,⟨pl,pd+1,⟨Sh,grow Gb H1 H2,dx,gW,ba,sa,λx o e=>?_,λx o e=>?_,gU (sS.trans cj) z.ap,z.ob,z.hs,?_,z.hb,z.hl,z.l1⟩,?_,hw,ot,Lo⟩,pk.1,TV,by rw[pk.2];exact ml⟩
 .have h1:=sS _ _ e;exact bC.mpr ⟨(bC.mp h1).1,Bf x o (cj _ _ h1) ((z.ap x).resolve_left (by rw[e];simp))⟩
 .obtain⟨z1,z2⟩:=bC.mp e;refine bC.mpr ⟨?_,z2⟩;rcases z1 with q|q
  .obtain⟨u,hu⟩:=cX.mp q;exact(bC.mp (sB _ _ hu)).1
  .exact Iy.dom q
 .show NQ t _ ay (if(rd.group++[it]).length=rd.lanes then qX rd.models (rd.group++[it]) else rd.models) (pd+1) (Mx.waitOf (if(rd.group++[it]).length=rd.lanes then[] else rd.group++[it])) ba;rw[ok.ln];by_cases h:(rd.group++[it]).length=ay
  .rw[aj h,aj h];rw[aj (hz.mpr h),aj (hz.mpr h)] at bk;have es:qX rd.models (rd.group++[it])=pZ rd.models (Mx.waitOf (rd.group++[it])):=Fi _ _;rw[es];exact bk
  .rw[ah h,ah h];rw[ah (λq=>h (hz.mp q)),ah (λq=>h (hz.mp q))] at bk;exact bk
 .show(pd+1)%ay=(if(rd.group++[it]).length=rd.lanes then[] else rd.group++[it]).length;rw[ok.ln];by_cases h:(rd.group++[it]).length=ay
  .rw[aj h];exact hz.mpr h
  .rw[ah h,hn.2 (by simpa using h)];simp
def W8 (t:fP)(F G H:Hp)(b:cf)(ay:Nat)(a:lQ)(Q:VK)(E:XK)(r:Option (oW×cE)):Prop:=(r=none->L4 t E G H 3 b.length)/\∀it N0,r=some (it,N0)->∀H',fw G H H'->JP t F (grow G H H') b ay N0 a->Q (.int (iu it:Nat)) H'
def LC {wn:S4}(JS:wn.item rd.models (rd.states.getD rd.group.length 0%32768)=it)(hw:rd.words=ft (b.drop pl))(ot:pl<=b.length)(Lo:(b.length-pl)%2=0)(n:W8 t F G H b ay a Q E (rd.next wn)):
  (65536<=Ay rd it->∀H',fw G H H'->JP t F (grow G H H') b ay (Mx.pass rd it (Ay rd it) (ft (b.drop pl))) a->Q (.int (iu it:Nat)) H')/\
  (Ay rd it<65536->(pl=b.length->L4 t E G H 3 b.length)/\(pl<b.length->∀H',fw G H H'->JP t F (grow G H H') b ay (Mx.pass rd it (Ay rd it*65536+kP b pl) (ft (b.drop (pl+2)))) a->Q (.int (iu it:Nat)) H')):=by
 have e:=Na rd wn;simp only[JS] at e;refine⟨λh H' kp up=>n.2 it _ ?_ H' kp up,λh=>⟨λhp=>n.1 ?_,λhp H' kp up=>n.2 it _ ?_ H' kp up⟩⟩
 .rw[e,aj h,hw]
 .rw[e,ah (Oa.mpr h),hw,LG hp]
 .rw[e,ah (Oa.mpr h),hw,Ji hp Lo]
inductive acM (t:fP)(vs:b_)(H:Hp)(Q:VK)(E:XK):Prop|i(a:lQ)(F G:Hp)(b:cf)(ay:Nat)(rd:cE)(n:Nat)(_:vs=[.ref a,.int n])(_:aC F H)(_:aC G H)(_:Apart F G)(_:JP t F G b ay rd a)(_:n<rd.models.length)(_:W8 t F G H b ay a Q E (rd.next (.sym n)))
def vg:T.kJ.Ok P w mg rZ (tN P w t.bI) 6 (acM t):=by
 refine T.kJ.xA λnd H vs Q E hr h=>?_;obtain⟨a,F,G,b,ay,rd,n,rfl,sF,sG,Hm,up,hn,nx⟩:=h;obtain⟨pl,pd,⟨Sh,Gb,dx,gW,ba,sa,sS,sB,z⟩,TJ,hw,ot,Lo⟩:=up.ex;obtain⟨db,da,wa,cg,uP,bk⟩:=id z.bk;have HA:=sG _ _ (sS _ _ z.ob);have GbH:aC Gb H:=sB.trans sG;have l1:=z.l1;have hgr:=up.ok.gr;have Yd:=up.TV;obtain⟨m,Yh⟩:∃m,rd.models[n]? =some m:=⟨_,aD hn⟩;obtain⟨k0,TF⟩:∃k0,k0=rd.states.getD rd.group.length 0%32768:=⟨_,Z⟩;have hk:k0<32768:=by rw[TF];exact nh _ (by decide)
 obtain⟨JS,O9⟩:=Fn up.ok.ml Yh k0 hk;have YT:=up.ok.ml m (az Yh);obtain⟨a1,a2,a3⟩:=Tb YT hk;obtain⟨sy,hsy⟩:∃sy,sy=m.at_ k0:=⟨_,Z⟩;rw[<-hsy] at JS O9 a1 a2 a3;have nm:=LC (it:=.sym n sy) (by rw[<-TF];exact JS) hw ot Lo nx;have esh:lr rd.models (.sym n sy)=(m.begin_ sy,m.share sy):=by
  show(match rd.models[n]? with|some x=>(x.begin_ sy,x.share sy)|none=>(0,Wm))=_;rw[Yh]
 have XC:Ay rd (.sym n sy)=qM (rd.states.getD rd.group.length 0) (m.begin_ sy) (m.share sy):=by
  unfold Ay;rw[esh]
 refine .i (ao (fL 2 nd (qN (cO (pv 0)) T.ic T.kX (pW T) hr bG (ak (pv 1) ax)))
   (ao (fL 3 nd (qN (pv 2) T.jA T.oN (Bh T) hr bG (ak (Fe (pv 0) T.bY T.nH (ve T) hr bG) ax)))
   (ao (cP (qN (pv 0) T.bY T.nF (vd T) hr aY.passes (ak (JV (cO (pv 2)) (pv 3)) (ak (qN (pv 2) T.jA T.oM (wU T) hr bG (ak (pv 3) ax)) ax))))
   (ao (cP (qN (cO (pv 0)) T.ic T.kx (rC T) hr bG (ak (pv 1) (ak (pv 3) ax))))
   (aH (bz (pv 3))))))) ?_
 refine⟨_,Z,Z,HA,T.bY,Z,Z,ba,_,_,Z,GbH _ _ bk.ob,Z,_,Z,ba,db,da,wa,cg,uP,ay,rd.models,_,_,n,Gb,Z,GbH,bk,hn,λma H1 aoZ Iy bk1 hv1=>?_⟩;obtain⟨ma',e,md⟩:=bk1.ye n m _ Yh hv1;cases e;obtain⟨dm,bb,NY,hbb⟩:=id md;have J9:aC Sh H1:=Iy.other (sS.trans sG) z.ap;have kG1:fw G H H1:=λy o e g=>Iy y o e (sB.free g);have gg:aC (grow Gb H H1) (grow G H H1):=λy o e=>by
  obtain⟨z1,z2⟩:=bC.mp e;refine bC.mpr ⟨z1.imp (λq=>?_) id,z2⟩;obtain⟨u,hu⟩:=cX.mp q;rw[sB _ _ hu];rfl
 have sS1:aC Sh (grow G H H1):=λy o e=>bC.mpr ⟨.inl (by rw[sS _ _ e];rfl),J9 _ _ e⟩;have z1:UpS t F Sh (grow Gb H H1) b ay rd.states pl rd.models pd (Mx.waitOf rd.group) a dx gW ba sa:=⟨gU (sS.trans sG) z.ap,z.ob,z.hs,⟨_,_,_,_,_,bk1⟩,z.hb,z.hl,z.l1⟩;have up1:S9 t F (grow G H H1) b ay rd.states pl rd.models pd (Mx.waitOf rd.group) a:=⟨Sh,grow Gb H H1,dx,gW,ba,sa,sS1,gg,z1⟩;have Wh:=J9 _ _ z.ob;have sF1:aC F H1:=kG1.other sF Hm;have amW:Apart F (grow G H H1):=gU sF Hm;refine⟨_,Z,ma,_,_,Z,cj _ _ NY,Z,_,Z,a,_,_,Z,Wh,Z,a,F,grow G H H1,b,ay,rd.states,pl,rd.models,pd,Mx.waitOf rd.group,Z,cj,up1,ma,m,k0,by rw[TJ,<-TF];rfl,md.same cj,YT,hk,?_⟩;rw[<-hsy];have hsh:=LO YT a1;refine⟨_,Z,a,_,_,Z,Wh,Z,_,Z,Z,cj _ _ NY,T.jA,Z,Z,_,Z,bb,_,_,_,Z,Z,i2 (cj _ _ hbb),AU YT (i:=sy) (by lia),_,Z,ma,_,_,Z,cj _ _ NY,Z,_,Z,ma,m,sy,Z,md.same cj,YT,a1,?_⟩;have fin:∀(y NZ:Nat),(NZ<=b.length/\(b.length-NZ)%2=0)->(∀H',fw G H H'->JP t F (grow G H H') b ay (Mx.pass rd (.sym n sy) y (ft (b.drop NZ))) a->Q (.int (sy:Nat)) H')->∀H2,fw (grow G H H1) H1 H2->S9 t F (grow (grow G H H1) H1 H2) b ay (rd.states.set rd.group.length y) NZ rd.models pd (Mx.waitOf rd.group) a->Us (Jz t.i7 "pass_symbol" (Up t) [] E0 (tFd K (Em 0) "bank") (Jy (Em 1) (Jy (Em 3) Gp))) {nx:=agS (Em 3) {nx:=λx H'=>Q V.gQ H',rt:=Q},rt:=Q} [some (.ref a),some (.int n),some (.ref ma),some (.int sy)] H2:=by
  intro y NZ Yk kk H2 Bf Qr;obtain⟨Sh2,Gb2,dx2,Xm,ba2,sa2,Sn,WN,z2⟩:=id Qr;obtain⟨db2,da2,wa2,afT,aqk,bk2⟩:=id z2.bk;have kG2:=kG1.trans Bf;have gt:=og (H2:=H2) kG1;refine⟨_,Z,Z,cj _ _ (Sn _ _ z2.ob),T.bY,Z,Z,ba2,_,_,Z,cj _ _ (WN _ _ bk2.ob),Z,_,Z,_,Z,ba2,ay,rd.models,pd,Mx.waitOf rd.group,n,sy,Gb2,Z,WN.trans cj,z2.bk,l1,by have:=Di rd.group;lia,hn,a1,λH3 QC Xl=>?_⟩;rw[<-Qt] at Xl;obtain⟨r1,r2⟩:=Ut (it:=.sym n sy) Hm sF up.ok Yd up.ml O9 kG2 (Sn.trans gt) (WN.trans gt) z2 TJ rfl Yk.1 Yk.2 QC Xl;exact⟨_,Z,kk H3 r1 r2⟩
 refine⟨a,F,grow G H H1,b,ay,rd.states,pl,rd.models,pd,Mx.waitOf rd.group,m.begin_ sy,m.share sy,Z,sF1,cj,amW,up1,ot,Lo,hsh.2,by rw[TJ,<-TF];exact a2,?_,?_⟩
 .rw[TJ,<-XC];intro lu H2 Bf Qr;exact fin _ pl ⟨ot,Lo⟩ (nm.1 lu) H2 Bf Qr
 .rw[TJ,<-XC];intro lu;obtain⟨kE,kQ⟩:=nm.2 lu;refine⟨λhp=>(kE hp).mono kG1,λhp H2 Bf Qr=>fin _ (pl+2) ⟨by lia,by rw[Ob];exact sb2 Lo rfl⟩ (kQ hp) H2 Bf Qr⟩
inductive acK (t:fP)(vs:b_)(H:Hp)(Q:VK)(E:XK):Prop|i(a:lQ)(F G:Hp)(b:cf)(ay:Nat)(rd:cE)(n:Nat)(_:vs=[.ref a,.int n])(_:aC F H)(_:aC G H)(_:Apart F G)(_:JP t F G b ay rd a)(_:1<=n)(_:n<=15)(_:W8 t F G H b ay a Q E (rd.next (.plain n)))
def xr:T.lX.Ok P w mg rZ (tN P w t.bI) 6 (acK t):=by
 refine T.lX.xA λnd H vs Q E hr h=>?_;obtain⟨a,F,G,b,ay,rd,n,rfl,sF,sG,Hm,up,hn1,hn,nx⟩:=h;obtain⟨pl,pd,up1,TJ,hw,ot,Lo⟩:=up.ex;obtain⟨Sh,Gb,dx,gW,ba,sa,sS,sB,z⟩:=id up1;have HA:=sG _ _ (sS _ _ z.ob);have l1:=z.l1;have hgr:=up.ok.gr;have Yd:=up.TV;obtain⟨k0,TF⟩:∃k0,k0=rd.states.getD rd.group.length 0%32768:=⟨_,Z⟩;have hk:k0<32768:=by rw[TF];exact nh _ (by decide)
 obtain⟨JS,O9⟩:=AD (ms:=rd.models) hn1 hn hk;obtain⟨vl,hvl⟩:∃vl,vl=k0 / 2^(15-n):=⟨_,Z⟩;rw[<-hvl] at JS O9;have nm:=LC (it:=.plain n vl) (by rw[<-TF];exact JS) hw ot Lo nx;have XC:Ay rd (.plain n vl)=qM (rd.states.getD rd.group.length 0) (vl*2^(15-n)) (2^(15-n)):=rfl;have avC:0<2^(15-n):=pE _;have hsz:2^(15-n)<=32768:=j9 (n:=2) (by decide) (lO 15 n);have esz:(32768:Int) / 2^((n:Int)).toNat=((2^(15-n):Nat):Int):=by
  rw[bF];have h1:(32768:Nat)=2^(15-n)*2^n:=by rw[<-wL,jH hn]
  have h2:(32768:Int)=((2^(15-n):Nat):Int)*2^n:=by
   have:=congrArg (λ(x:Nat)=>(x:Int)) h1;simp only[gY,z_] at this
   exact_mod_cast this
  rw[h2];exact DB _ (UE (Mx.two_pos n))
 refine .i (ao (fL 2 nd (aX sY (fF T.iQ) (pv 1)))
   (ao (fL 3 nd (aX jJ (Fe (pv 0) T.bY T.nH (ve T) hr bG) (pv 2)))
   (ao (cP (qN (pv 0) T.bY T.nF (vd T) hr aY.passes (ak (aX fQ (pv 3) (pv 2)) (ak (pv 2) ax))))
   (ao (cP (Fe (cO (pv 0)) T.ic T.j7 (o_ T) hr bG))
   (aH (bz (pv 3))))))) ?_
 refine⟨_,Z,_,_,Z,Z,(by show(0:Int)<=_;lia),?_⟩;have e0:V.int (32768 / 2^(n:Int).toNat)=V.int ((2^(15-n):Nat):Int):=congrArg V.int esz;rw[e0];refine⟨_,Z,a,_,_,Z,HA,Z,a,F,G,b,ay,rd.states,pl,rd.models,pd,Mx.waitOf rd.group,Z,sG,up1,_,Z,_,_,Z,Z,⟨by lia,by lia⟩,?_⟩;have e1:V.int (((rd.states.getD (pd%ay) 0%32768:Nat):Int) / ((2^(15-n):Nat):Int))=V.int ((vl:Nat):Int):=by
  rw[TJ,<-TF,hvl];rfl
 rw[e1];refine⟨_,Z,a,_,_,Z,HA,Z,_,Z,_,Z,_,_,Z,Z,.inr ⟨by lia,by lia⟩,_,Z,?_⟩;have fin:∀(y NZ:Nat),(NZ<=b.length/\(b.length-NZ)%2=0)->(∀H',fw G H H'->JP t F (grow G H H') b ay (Mx.pass rd (.plain n vl) y (ft (b.drop NZ))) a->Q (.int (vl:Nat)) H')->∀H2,fw G H H2->S9 t F (grow G H H2) b ay (rd.states.set rd.group.length y) NZ rd.models pd (Mx.waitOf rd.group) a->Us (Jz t.i7 "pass_bits" (Uo t) [] E0 (tFd K (Em 0) "bank") Gp) {nx:=agS (Em 3) {nx:=λx H'=>Q V.gQ H',rt:=Q},rt:=Q} [some (.ref a),some (.int n),some (.int ((2^(15-n):Nat):Int)),some (.int vl)] H2:=by
  intro y NZ Yk kk H2 Bf Qr;obtain⟨Sh2,Gb2,dx2,Xm,ba2,sa2,Sn,WN,z2⟩:=id Qr;obtain⟨db2,da2,wa2,afT,aqk,bk2⟩:=id z2.bk;refine⟨_,Z,Z,cj _ _ (Sn _ _ z2.ob),T.bY,Z,Z,ba2,_,_,Z,cj _ _ (WN _ _ bk2.ob),Z,ba2,ay,rd.models,pd,Mx.waitOf rd.group,Gb2,Z,WN.trans cj,z2.bk,l1,by have:=Di rd.group;lia,λH3 QC Xl=>?_⟩;rw[<-JE rd.group n vl] at Xl;obtain⟨r1,r2⟩:=Ut (it:=.plain n vl) Hm sF up.ok Yd up.ml O9 Bf Sn WN z2 TJ rfl Yk.1 Yk.2 QC Xl;exact⟨_,Z,kk H3 r1 r2⟩
 have hbg:vl*2^(15-n)<=k0:=by rw[hvl];exact aau _ _
 refine⟨a,F,G,b,ay,rd.states,pl,rd.models,pd,Mx.waitOf rd.group,vl*2^(15-n),2^(15-n),?_,sF,sG,Hm,up1,ot,Lo,hsz,by rw[TJ,<-TF];exact hbg,?_,?_⟩
 .rw[gY];rfl
 .rw[TJ,<-XC];intro lu H2 Bf Qr;exact fin _ pl ⟨ot,Lo⟩ (nm.1 lu) H2 Bf Qr
 .rw[TJ,<-XC];intro lu;obtain⟨kE,kQ⟩:=nm.2 lu;exact⟨kE,λhp H2 Bf Qr=>fin _ (pl+2) ⟨by lia,by rw[Ob];exact sb2 Lo rfl⟩ (kQ hp) H2 Bf Qr⟩
def next_item {N0:cE}{wn:S4}(h:rd.next wn=some (it,N0)):it=wn.item rd.models (rd.states.getD rd.group.length 0%32768):=by
 rw[Na] at h;simp only at h;split at h
 .cases h;rfl
 .split at h
  .cases h
  .cases h;rfl
inductive acL (t:fP)(vs:b_)(H:Hp)(Q:VK)(E:XK):Prop|i(a:lQ)(F G:Hp)(b:cf)(ay:Nat)(rd:cE)(n:Nat)(_:vs=[.ref a,.int n])(_:aC F H)(_:aC G H)(_:Apart F G)(_:JP t F G b ay rd a)(_:n<rd.models.length)(_:pM rd n=none->L4 t E G H 3 b.length)(_:∀v N0,pM rd n=some (v,N0)->∀H',fw G H H'->JP t F (grow G H H') b ay N0 a->Q (.int (v:Nat)) H')
def vf:T.kI.Ok P w mg rZ (tN P w t.bI) 7 (acL t):=by
 refine T.kI.xA λnd H vs Q E hr h=>?_;obtain⟨a,F,G,b,ay,rd,n,rfl,sF,sG,Hm,up,hn,kE,kQ⟩:=h;obtain⟨pl,pd,⟨Sh,Gb,dx,gW,ba,sa,sS,sB,z⟩,_⟩:=id up.ex;rw[Gk] at kE kQ;refine .i (ao (fL 2 nd (qN (pv 0) T.bY T.kJ (vg T) hr aY.passes (ak (pv 1) ax)))
   (ao (fL 3 nd (aX uF aJ (pv 2)))
   (ao (fL 4 nd aJ)
   (ao (CV PassesOwn.leaving (rb Fc (pv 4) (pv 2)) (ao (fL 5 nd (gO (oq rfl) rfl T.ET AE (ak (fF T.TR) (ak (aX gw (pv 2) (pv 4)) ax))))
   (ao (Jl (i:=3) nd rfl (Ad rfl) (aX uF (qN (pv 0) T.bY T.lX (xr T) hr aY.passes (ak (pv 5) ax)) (pv 4)) MX)
   (aH (Jl (i:=4) nd rfl (Ad rfl) (pv 5) MX)))))
   (aH (bz (aX gw (pv 3) aJ))))))) ?_
 refine⟨_,Z,a,_,_,Z,sG _ _ (sS _ _ z.ob),Z,_,Z,a,F,G,b,ay,rd,n,Z,sF,sG,Hm,up,hn,λh=>kE (by rw[h];rfl),λit rd1 h1 H1 Iy up1=>?_⟩;rw[h1] at kE kQ;simp only[m5] at kE kQ;obtain⟨L,hL⟩:∃L,L=iu it:=⟨_,Z⟩;rw[<-hL] at kE kQ|-
 have auP:L<64:=by
  obtain⟨m,Yh⟩:∃m,rd.models[n]? =some m:=⟨_,aD hn⟩;have:=(Fn up.ok.ml Yh (rd.states.getD rd.group.length 0%32768) (nh _ (by decide)));rw[hL,next_item h1,this.1];exact(Tb (up.ok.ml m (az Yh)) (nh _ (by decide))).1
 refine⟨_,Z,_,_,Z,Z,⟨by lia,by lia,by decide⟩,?_⟩;have e0:V.int (1*2^(L:Int).toNat)=V.int ((2^L:Nat):Int):=by
  show V.int (1*2^((L:Int)).toNat)=_;rw[bF,pL];simp
 rw[e0];refine⟨λq σ H'=>∃(d v:Nat) (wY:cE) (y:Option V),σ=[some (.ref a),some (.int n),some (.int L),some (.int v),some (.int d),y]/\q=L-d/\1<=v/\fw G H H'/\JP t F (grow G H H') b ay wY a/\pq (2^L) 0 L rd1=pq v d L wY,⟨L,0,2^L,rd1,none,Z,Z,Fy,Iy,up1,Z⟩,?_⟩;rintro q σ H' ⟨d,v,wY,y,rfl,rfl,hv1,kp,upc,ew⟩;refine⟨_,Z,_,Z,_,_,Z,Z,_,Z,?_⟩;by_cases hd:d<L
 .rw[ag (by lia)];rw[Nw hd (by lia)] at ew;obtain⟨pc,hpc⟩:∃pc,pc=min 15 (L-d):=⟨_,Z⟩;rw[<-hpc] at ew;have Kw:1<=pc/\pc<=15/\pc<=L-d:=hpc ▸ pB hd;refine eY ⟨λgz H2=>∃(v':Nat) (acp:cE) (y':Option V),gz=[some (.ref a),some (.int n),some (.int L),some (.int v'),some (.int ((d+pc:Nat):Int)),y']/\1<=v'/\fw G H H2/\JP t F (grow G H H2) b ay acp a/\pq (2^L) 0 L rd1=pq v' (d+pc) L acp,λgz H2 ⟨v',acp,y',e1,e2,e3,e4,e5⟩=>⟨L-(d+pc),pA hd Kw.1,d+pc,v',acp,y',e1,Z,e2,e3,e4,e5⟩,?_⟩;refine⟨_,Z,_,Z,_,_,Z,Z,_,_,Z,?_⟩;have epc:(if(L:Int)-(d:Int)<15 then(L:Int)-(d:Int) else 15)=((pc:Nat):Int):=by rw[<-mr (cY hd),hpc];exact ajO _
  rw[epc];obtain⟨pl2,pd2,⟨Sh2,Gb2,dx2,Xm,ba2,sa2,Sn,WN,z2⟩,_⟩:=id upc.ex;refine⟨_,Z,_,Z,a,_,_,Z,cj _ _ (Sn _ _ z2.ob),Z,_,Z,a,F,grow G H H',b,ay,wY,pc,Z,kp.other sF Hm,cj,gU sF Hm,upc,Kw.1,Kw.2.1,λh=>?_,λit2 rd2 h2 H2 Bf Qr=>?_⟩
  .rw[h] at ew;exact(kE ew).mono kp
  .rw[h2] at ew;simp only[m5] at ew;have hvl:iu it2<32768:=by
    rw[next_item h2];have:=AD (ms:=wY.models) (k:=wY.states.getD wY.group.length 0%32768) Kw.1 Kw.2.1 (nh _ (by decide));rw[this.1];show wY.states.getD wY.group.length 0%32768 / 2^(15-pc)<32768;exact jG (ahb _ _) (nh _ (by decide))
   refine⟨_,Z,_,_,Z,Z,⟨by lia,by lia,by lia⟩,_,_,Z,Z,?_⟩;refine⟨_,Z,_,Z,_,_,Z,Z,v+iu it2*2^d,rd2,some (.int pc),?_,by lia,kp.trans Bf,Qr.same (aC.refl _) (og kp),ew⟩;have e6:(v:Int)+((iu it2:Nat):Int)*2^((d:Int)).toNat=((v+iu it2*2^d:Nat):Int):=by
    rw[bF,fq,gY];simp
   rw[<-e6];rfl
 .rw[ae (by lia)];rw[Qb (iW:=v) (done:=d) (cW:=L) (r:=wY) (by lia)] at ew;refine fK ⟨_,Z,_,_,Z,Z,?_⟩;have e7:V.int ((v:Int)-1)=V.int ((v-1:Nat):Int):=congrArg V.int (by lia);have:=kQ _ _ ew H' kp upc;rw[<-e7] at this;exact this
inductive acy (t:fP)(vs:b_)(H:Hp)(Q:VK)(E:XK):Prop|i(a:lQ)(F G:Hp)(b:cf)(ay:Nat)(rd:cE)(_:vs=[.ref a])(_:aC F H)(_:aC G H)(_:JP t F G b ay rd a)(_:∀H',aC H H'->Q (.bl rd.ended) H')
def Bk:T.oQ.Ok P w mg rZ jf 1 (acy t):=by
 refine T.oQ.ok λnd H vs Q E hr h=>?_;obtain⟨a,F,G,b,ay,rd,rfl,sF,sG,up,k⟩:=h;obtain⟨pl,pd,⟨Sh,Gb,dx,gW,ba,sa,sS,sB,z⟩,TJ,hw,ot,Lo⟩:=up.ex;have HA:=sG _ _ (sS _ _ z.ob);have HB:=sF _ _ z.hb;have HS:=sG _ _ (sS _ _ z.hs);have hl:=z.hl;have Yd:=up.TV;refine .i (aH (bz (Y1 (pcm lp (cO (pv 0)) (Bn T.i_ (ak (cO (pv 0)) ax))) (Y6 (gO (QV rfl) rfl T.YJ boot_all (ak (GO [("x",1)] nd (fB (cO (pv 0))) (mv 1 nd) (pcm lp (pv 1) (fF T.qr))) ax)))))) ?_;refine⟨_,Z,Z,HA,T.bY,Z,Z,_,Z,Z,HA,T.bY,Z,Z,gW,_,Z,i3 HB,Z,_,Z,?_⟩;rw[n_,aB,eA];by_cases he:pl=b.length
 .rw[ag (by lia)];have hwe:rd.words=[]:=by rw[hw];exact LG he
  refine eY ⟨_,Z,Z,HA,T.bY,Z,Z,sa,Z,⟨_,i2 HS⟩,λD hD=>?_⟩;refine nt (ys:=(rd.states.map λx=>(x==65536)).map V.bl) hD (by rw[aE];simp;lia) (i2 HS) (by simp) (λi x y H2 Q2 hx hy sm k2=>?_) λH' h1 h2=>?_
  .rw[aw,aw] at hx hy;cases hq:rd.states[i]? with
   |none=>rw[hq] at hx;cases hx
   |some u=>
    rw[hq] at hx hy;cases hx;cases hy;refine⟨Z,_,Z,Z,?_⟩;have e:decide (V.int (u:Int)=V.int 65536)=(u==65536):=by
     rw[n_];by_cases h:u=65536
     .subst h;rfl
     .rw[ae (by lia)];symm;simpa using h
    have this:Q2 (V.bl (u==65536)) H2:=k2 H2 (aC.refl _);rw[<-e] at this;exact this
  .refine⟨D,_,Z,i2 h1,?_⟩;have e:(rd.states.map λx=>(x==65536)).all id=rd.ended:=by
    unfold K0;rw[hwe,ak2];rfl
   rw[e];exact k H' h2
 .rw[ae (by lia)];have e:rd.ended=false:=by
   unfold K0;rw[hw,Ji (by lia) Lo];rfl
  have:=k H (aC.refl _);rw[e] at this;exact fK this
def rk (b:cf)(p ay:Nat):ie:=(aK ay).map λ(i:Nat)=>rq (((b.drop p).drop (4*i)).take 4)
inductive akz (t:fP)(vs:b_)(H:Hp)(Q:VK)(E:XK):Prop|i(x dx gW:lQ)(b:cf)(p ay:Nat)(_:vs=[.ref x,.ref gW,.int p,.int ay])(_:H x=some (.ins t.cy dx []))(_:H gW=some (iL (br b)))(_:p<=b.length)(_:b.length<=10000)(_:1<=ay)(_:ay<=16)(_:∀q,eW ay (b.drop p)=some q->Gx t E [x] H 3 ((p+q:Nat):Int))(_:eW ay (b.drop p)=none->∀H' ba sa Gb,dE [x] H H'->H' x=some (UpO t dx gW ba sa (p+4*ay))->H' sa=some (iL (nI (rk b p ay)))->H sa=none->aC Gb (nw H H')->Gb sa=none->(∀r,r<=64->NQ t Gb ay (aM r (gi 64 6)) 0 [] ba)->Q .gQ H')
def Eb:T.qR.Ok P w mg rZ (tN P w t.bI) 4 (akz t):=by
 refine T.qR.xA λnd H vs Q E hr h=>?_;obtain⟨x,dx,gW,b,p,ay,rfl,hx,hb,hp,hbl,l1,TV,kE,kQ⟩:=h;refine .i (ao (gj (rb Fc (aX gw (Bn T.i_ (ak (pv 1) ax)) (pv 2)) (aX fQ aJ (pv 3))) (aH (jy (ns:=["kind","place"]) aY rfl T.hU (h_ T) (hr.mono (by decide)).h T.dq.b rfl rfl T.gm (ak aJ (ak (Bn T.i_ (ak (pv 1) ax)) ax)) (by decide))) cQ)
   (ao (kh (pv 0) (pv 1))
   (ao (kh (pv 0) (JW T.WY T.Tw T.tO (CH T) hr bG (ak (pv 3) ax)))
   (ao (kh (pv 0) (GO [("i",4)] nd (jx rfl T.iA (ak (pv 3) ax)) (mv 4 nd) (ko T.qz (wy T) hr bG (ak (pv 1) (ak (aX dz (pv 2) (aX fQ aJ (pv 4))) (ak aJ ax))))))
   (ao (gX PassesOwn.leaving rfl (GN rfl T.tW (ak (cO (pv 0)) ax)) (yG rfl (fj (mv 4 nd) (fj (mv 5 nd) ph)))
    (aH (gj (rb Fc (pv 5) (fF T.qr)) (aH (jy (ns:=["kind","place"]) aY rfl T.hU (h_ T) (hr.mono (by decide)).h T.dq.b rfl rfl T.gm (ak aJ (ak (aX dz (pv 2) (aX fQ aJ (pv 4))) ax)) (by decide))) cQ)))
   (ao (gj (rb lp (aX pX (aX gw (Bn T.i_ (ak (pv 1) ax)) (pv 2)) aJ) aJ) (aH (jy (ns:=["kind","place"]) aY rfl T.hU (h_ T) (hr.mono (by decide)).h T.dq.b rfl rfl T.gm (ak aJ (ak (aX gw (Bn T.i_ (ak (pv 1) ax)) aJ) ax)) (by decide))) cQ)
   (aH (kh (pv 0) (aX dz (pv 2) (aX fQ aJ (pv 3))))))))))) ?_
 have bl:((br b).map V.int).length=b.length:=by rw[aB,eA]
 have dl:(b.drop p).length=b.length-p:=dY ..;have nbx:gW≠x:=g_ hb hx (by intro z;cases z);refine⟨_,Z,gW,_,Z,i3 hb,_,Z,_,_,Z,Z,_,Z,_,_,Z,Z,.inl ⟨by decide,by decide⟩,_,_,Z,Z,_,Z,?_⟩;rw[bl];have e0:(b.length:Int)-(p:Int)=((b.length-p:Nat):Int):=(mr hp).symm;rw[e0];by_cases h4:b.length-p<4*ay
 .rw[ag (show((b.length-p:Nat):Int)<4*(ay:Int) from UG.mpr h4)];refine eY ⟨_,Z,gW,_,Z,i3 hb,?_⟩;rw[bl];have:=kE (b.length-p) (by unfold eW;rw[dl,aj h4]);rw[i5 hp] at this;exact this.raise
 .rw[ae (show¬((b.length-p:Nat):Int)<4*(ay:Int) from Fv.mpr (uk.mpr (iY.mp h4)))];refine fK ⟨_,Z,_,Z,Z,hx,T.bY,Z,Z,tH [("block",.ref gW)],?_⟩;have c1:dE [x] H (upd H x (.ins t.cy dx [("block",.ref gW)])):=dE.refl.d_ (by simp);have x1:upd H x (.ins t.cy dx [("block",.ref gW)]) x=some (.ins t.cy dx [("block",.ref gW)]):=aq;generalize upd H x (.ins t.cy dx [("block",.ref gW)])=H1 at c1 x1|-
  refine⟨_,Z,λba db n1 n2 n3=>?_⟩;have sm:aC H1 (upd (upd H1 db (.own ba)) ba (.ins t.i7 db [])):=gA n1 n2;refine⟨ba,db,ay,Z,aq,λH2 da wa c2 BE hd hw nd nw1=>⟨Z,?_⟩⟩;have s12:aC H1 H2:=dE.back sm c2 (by intro y hy;rw[show y=ba from by simpa using hy];exact n1);have bk:∀r,r<=64->NQ t (nw H1 H2) ay (aM r (gi 64 6)) 0 [] ba:=λr hr=>⟨db,da,wa,[],[],aT.mpr ⟨n1,BE⟩,aT.mpr ⟨sm.free nd,hd⟩,aT.mpr ⟨sm.free nw1,hw⟩,Bz,(λk hk=>by simp at hk),.nil,(λp hp=>by simp at hp),AR r,by simpa using hr,(λn m h _=>(fb.mp (az h)).2),(λn m v _ h=>by cases h),(λn n' v h=>by cases h)⟩;refine⟨_,Z,Z,s12 _ _ x1,T.bY,Z,Z,tH [("block",.ref gW),("bank",.ref ba)],?_⟩;have c3:dE [x] H (upd H2 x (.ins t.cy dx [("block",.ref gW),("bank",.ref ba)])):=(c1.trans s12.chg).d_ (by simp);have x3:upd H2 x (.ins t.cy dx [("block",.ref gW),("bank",.ref ba)]) x=some (.ins t.cy dx [("block",.ref gW),("bank",.ref ba)]):=aq;have nS:aC (nw H1 H2) (nw H (upd H2 x (.ins t.cy dx [("block",.ref gW),("bank",.ref ba)]))):=λy o e=>by
   obtain⟨z1,z2⟩:=aT.mp e;exact aT.mpr ⟨fU c1 x1 z1,by rw[aF (bZ x1 z1)];exact z2⟩
  generalize upd H2 x (.ins t.cy dx [("block",.ref gW),("bank",.ref ba)])=H3 at c3 x3 nS|-
  refine⟨_,Z,_,Z,by lia,by lia,λsa nsa=>?_⟩;refine u7 (ys:=(nI (rk b p ay)).map V.int) nsa (by rw[aE];simp[rk];lia) (by simp[rk]) (λi y H4 Q4 hy El k4=>?_) λH4 e4 s4=>?_
  .have hi:i<ay:=by have:=(aN.mp hy).1;simpa[rk] using this
   have ey:y=V.int ((rq (((b.drop p).drop (4*i)).take 4):Nat):Int):=by
    unfold rk at hy;rw[aw,aw,aw,bD hi] at hy;exact(bh hy).symm
   subst ey;have hi4:p+4*i+4<=b.length:=by rw[ak5];exact Nat.add_le_of_le_sub' hp (bt (oE 4 hi) (iY.mp h4))
   refine⟨Z,_,Z,_,Z,_,Z,_,_,Z,Z,.inl ⟨by decide,by decide⟩,_,_,Z,Z,gW,br b,p+4*i,4,?_,i2 (El _ _ (c3.one hb nbx)),by decide,by decide,by rw[eA];exact hi4,λ_ z hz=>xQ b z hz,?_⟩
   .show[V.ref gW,V.int ((p:Int)+4*(0+(i:Int))),V.int 4]=[V.ref gW,V.int ((p+4*i:Nat):Int),V.int ((4:Nat):Int)];rw[show(p:Int)+4*(0+(i:Int))=((p+4*i:Nat):Int) by lia];rfl
   .rw[qF b (p+4*i) 3 hi4,<-uK];exact k4 _ (aC.refl _)
  .have aj6:H sa=none:=fU c3 x3 nsa;have nsx:sa≠x:=bZ hx aj6;refine⟨_,Z,Z,s4 _ _ x3,T.bY,Z,Z,tH [("block",.ref gW),("bank",.ref ba),("states",.ref sa)],?_⟩;have c5:dE [x] H (upd H4 x (.ins t.cy dx [("block",.ref gW),("bank",.ref ba),("states",.ref sa)])):=(c3.trans s4.chg).d_ (by simp);have x5:upd H4 x (.ins t.cy dx [("block",.ref gW),("bank",.ref ba),("states",.ref sa)]) x=some (.ins t.cy dx [("block",.ref gW),("bank",.ref ba),("states",.ref sa)]):=aq;have e5:upd H4 x (.ins t.cy dx [("block",.ref gW),("bank",.ref ba),("states",.ref sa)]) sa=some (iL (nI (rk b p ay))):=by rw[aF nsx];exact e4
   have nS5:aC (nw H1 H2) (nw H (upd H4 x (.ins t.cy dx [("block",.ref gW),("bank",.ref ba),("states",.ref sa)]))):=λy o e=>by
    obtain⟨z1,z2⟩:=aT.mp (nS _ _ e);exact aT.mpr ⟨z1,by rw[aF (bZ hx z1)];exact s4 _ _ z2⟩
   have gsa:nw H1 H2 sa=none:=by
    cases e:nw H1 H2 sa with
    |none=>rfl
    |some o=>rw[(aT.mp (nS _ _ e)).2] at nsa;cases nsa
   generalize upd H4 x (.ins t.cy dx [("block",.ref gW),("bank",.ref ba),("states",.ref sa)])=H5 at c5 x5 e5 nS5|-
   have sl:(rk b p ay).length=ay:=by simp[rk]
   refine⟨_,Z,Z,x5,T.bY,Z,Z,sa,_,Z,i2 e5,?_⟩;refine Cr (xs:=(nI (rk b p ay)).map V.int) (λi σ H'=>X2 λy4 y5=>C3 (σ=[some (.ref x),some (.ref gW),some (.int p),some (.int ay),y4,y5]) (aC H5 H') (∀j,j<i->¬(rk b p ay).getD j 0<65536)) ⟨none,none,Z,aC.refl _,λj hj=>by lia⟩ (λi σ H' _ ⟨_,_,_,sm,_⟩=>i2 (sm _ _ e5)) ?_ ?_
   .rintro i σ H' v Tt hi ⟨y4,y5,rfl,NC,oG⟩ hv nT;have Ij:i<ay:=by simpa[sl] using hi
    have ev:v=V.int (((rk b p ay).getD i 0:Nat):Int):=by
     rw[aw,aw,aD (by lia)] at hv;rw[aG,aD (by lia)];exact(bh hv).symm
    subst ev;refine⟨Tt,_,Z,i2 aq,Z,_,_,Z,_,_,Z,Z,_,Z,_,_,Z,Z,_,Z,?_⟩;have X8:=uo ((rk b p ay).getD i 0) 65536;cases X8 with
    |inl lu=>
     rw[ag (by lia)];refine eY ⟨_,Z,_,Z,_,_,Z,Z,.inl ⟨by decide,by decide⟩,_,_,Z,Z,?_⟩;have hf:eW ay (b.drop p)=some (4*i):=by
      unfold eW;rw[ah (by lia),Mx.find_some (p:=i) Ij]
      .have:rq (((b.drop p).drop (4*i)).take 4)=(rk b p ay).getD i 0:=by
        unfold rk;rw[aG,aw,bD Ij];rfl
       rw[this];exact ag lu
      .intro j hj;have:rq (((b.drop p).drop (4*j)).take 4)=(rk b p ay).getD j 0:=by
        unfold rk;rw[aG,aw,bD (by lia)];rfl
       rw[this];exact ae (oG j hj)
     exact((kE (4*i) hf).mono (c5.trans (NC.trans (aC.upd nT)).chg)).raise
    |inr lu=>
     rw[ae (by lia)];refine fK ⟨_,_,Z,NC.trans (aC.upd nT),λj hj=>?_⟩;by_cases e:j=i
     .subst e;lia
     .exact oG j (by lia)
   .rintro σ H' ⟨y4,y5,rfl,NC,oG⟩;have Im:eW ay (b.drop p)=if(b.length-p)%2=1 then some (b.length-p-1) else none:=by
     unfold eW;rw[ah (dl ▸ h4),Mx.find_none,dl];intro j hj;have:rq (((b.drop p).drop (4*j)).take 4)=(rk b p ay).getD j 0:=by
      unfold rk;rw[aG,aw,bD hj];rfl
     rw[this];exact ae (oG j (by simpa[sl] using hj))
    have c6:dE [x] H H':=c5.trans NC.chg;refine⟨_,Z,gW,_,Z,i3 (c6.one hb nbx),_,Z,_,_,Z,Z,_,_,Z,Z,(by show(0:Int)<2;decide),Z,_,Z,?_⟩;rw[n_,bl,e0];by_cases ho:(b.length-p)%2=1
    .rw[ag (show((b.length-p:Nat):Int)%2=1 from congrArg Int.ofNat ho)];rw[aj ho] at Im;refine eY ⟨_,Z,gW,_,Z,i3 (c6.one hb nbx),_,_,Z,Z,?_⟩;rw[bl];have:=kE _ Im;have e1:((p+(b.length-p-1):Nat):Int)=(b.length:Int)-1:=by rw[<-Nat.add_sub_assoc (lN λe=>by rw[e] at ho;cases ho),i5 hp];exact mr (bt (lN λe=>by rw[e] at ho;cases ho) (lO _ p))
     rw[e1] at this;exact(this.mono c6).raise
    .rw[ae (show¬((b.length-p:Nat):Int)%2=1 fromλc=>ho (Int.ofNat.inj c))];rw[ah ho] at Im;refine fK ⟨_,Z,_,Z,_,_,Z,Z,.inl ⟨by decide,by decide⟩,_,_,Z,Z,_,Z,Z,NC _ _ x5,T.bY,Z,Z,tH [("block",.ref gW),("bank",.ref ba),("states",.ref sa),("place",.int ((p:Int)+4*(ay:Int)))],?_⟩;refine kQ Im _ ba sa (nw H1 H2) (c6.d_ (by simp)) aq (by rw[aF nsx];exact NC _ _ e5) aj6 (λy o e=>?_) gsa bk;obtain⟨z1,z2⟩:=aT.mp (nS5 _ _ e);exact aT.mpr ⟨z1,by rw[aF (bZ hx z1)];exact NC _ _ z2⟩
abbrev HdO (t:fP)(dx:lQ)(h:rB)(wv:V):HO:=.ins t.uv dx [("key",.int h.key),("rows",.int h.rows),("bits",.int h.bits),("cut",.int h.cut),("lanes",.int h.lanes),("times",.int h.times),("check",.int h.check),("way",wv),("end",.int h.fin)]
def Hx (l:ie):Except ag8 (ie×cE)->Except ag8 (ie×cE)
 |.error e=>.error e
 |.ok (m,v)=>.ok (l++m,v)
inductive acA (t:fP)(vs:b_)(H:Hp)(Q:VK)(E:XK):Prop|i(ua ha dh:lQ)(h:rB)(wv:V)(F G:Hp)(b:cf)(ay:Nat)(rd:cE)(md R r n k:Nat)(_:vs=[.ref ua,.int md,.ref ha,.int r,.int ((16*k:Nat):Int)])(_:aC F H)(_:aC G H)(_:Apart F G)(_:JP t F G b ay rd ua)(_:md<rd.models.length)(_:F ha=some (HdO t dh h wv))(_:h.times=(n:Int))(_:h.rows=(R:Int))(_:16*k<=n)(_:n<=64)(_:R<=4)(_:r<=4)(_:Mx.readChunk md R r (nU n k) rd=.error .short->L4 t E G H 3 b.length)(_:∀q,Mx.readChunk md R r (nU n k) rd=.error (.large q)->L4 t E G H 4 (q:Nat))(_:∀l v,Mx.readChunk md R r (nU n k) rd=.ok (l,v)->∀H' p,fw G H H'->JP t F (grow G H H') b ay v ua->H p=none->H' p=some (iL (nI l))->Q (.ref p) H')
def EU {N0:cE}{wn:S4}(h:rd.next wn=some (it,N0)):N0.models.length=rd.models.length:=by
 have hp:∀(it:oW) y ws,(Mx.pass rd it y ws).models.length=rd.models.length:=λit y ws=>by
  show(if(rd.group++[it]).length=rd.lanes then qX rd.models (rd.group++[it]) else rd.models).length=_;split
  .exact qw _ _
  .rfl
 rw[Na] at h;simp only at h;split at h
 .cases h;exact hp _ _ _
 .split at h
  .cases h
  .cases h;exact hp _ _ _
theorem CU:∀(f cW:Nat) (rd N0:cE) (v:Nat),mZ f cW rd=some (v,N0)->N0.models.length=rd.models.length
 |0,cW,rd,N0,v,h=>by cases h;rfl
 |f+1,cW,rd,N0,v,h=>by
  unfold mZ at h;split at h
  .cases h;rfl
  .simp only at h;cases h1:rd.next (.plain (min 15 cW)) with
   |none=>rw[h1] at h;cases h
   |some x=>
    rw[h1] at h;simp only[m5] at h;cases h2:mZ f (cW-min 15 cW) x.2 with
    |none=>rw[h2] at h;cases h
    |some y=>
     rw[h2] at h;cases h;rw[CU f _ _ _ _ (show mZ f (cW-min 15 cW) x.2=some (y.1,y.2) from h2)];exact EU (it:=x.1) h1
def IP {N0:cE}{v:Nat}(h:pM rd n=some (v,N0)):N0.models.length=rd.models.length:=by
 unfold pM at h;cases h1:rd.next (.sym n) with
 |none=>rw[h1] at h;cases h
 |some x=>
  rw[h1] at h;simp only[m5] at h;cases h2:mZ 8 (iu x.1) x.2 with
  |none=>rw[h2] at h;cases h
  |some y=>
   rw[h2] at h;cases h;rw[CU _ _ _ _ _ (show mZ 8 (iu x.1) x.2=some (y.1,y.2) from h2)];exact EU (it:=x.1) h1
def IY:T.uj.Ok P w mg rZ (tN P w t.bI) 8 (acA t):=by
 refine T.uj.xA λnd H vs Q E hr h=>?_;obtain⟨ua,ha,dh,h,wv,F,G,b,ay,rd,md,R,r,n,k,rfl,sF,sG,Hm,up,hmd,hF,ht,hR,hkn,hn,hR4,hr4,kS,kL,kQ⟩:=h;refine .i (ao (fL 5 nd (eE ax))
   (ao (gX PassesOwn.leaving rfl (zj rfl T.iA (ak (pv 4) (ak (gO (oq rfl) rfl T.ET AE (ak (aX dz (pv 4) (fF T.GJ)) (ak (cO (pv 2)) ax))) ax))) (mv 6 nd)
    (ao (fL 7 nd (qN (pv 0) T.bY T.kI (vf T) hr aY.passes (ak (pv 1) ax)))
   (ao (gj (rb Jb (pv 7) (fF T.M0)) (aH (jy (ns:=["kind","place"]) aY rfl T.hU (h_ T) (hr.mono (by decide)).h T.dq.b rfl rfl T.gm (ak aJ (ak (aX dz (aX fQ (pv 6) (cO (pv 2))) (pv 3)) ax)) (by decide))) cQ)
   (aH (cP (pap (pv 5) (ak (pv 7) ax)))))))
   (aH (bz (pv 5))))) ?_
 refine⟨by rw[aE];simp,λC nC=>?_⟩;have s0:aC H (upd H C (.lst [])):=aC.upd nC;have GC:G C=none:=sG.free nC;obtain⟨ts,hts⟩:∃ts,ts=nU n k:=⟨_,Z⟩;have tl:ts.length=min 16 (n-16*k):=by rw[hts];simp[nU]
 rw[<-hts] at kS kL kQ;refine⟨_,Z,_,Z,_,_,Z,Z,_,Z,Z,s0 _ _ (sF _ _ hF),T.dS,Z,Z,_,_,Z,_,_,Z,⟨by lia,by lia,?_,?_⟩,?_⟩
 .rw[ht];split<;>lia
 .rw[ht];split<;>lia
 rw[ht,ao6 hkn,<-tl];have t16:ts.length<=16:=tl ▸ fu ..;refine r_ (λi σ H'=>X4 λ(y6:Option V) (y7:Option V) (l:ie) (wY:cE)=>C7 (σ=[some (.ref ua),some (.int md),some (.ref ha),some (.int r),some (.int ((16*k:Nat):Int)),some (.ref C),y6,y7]) (fw G H H') (∃G',aC G' H'/\aC G' (grow G H H')/\G' C=none/\JP t F G' b ay wY ua) (wY.models.length=rd.models.length) (l.length=i) (H' C=some (iL (nI l))) (Mx.readChunk md R r ts rd=Hx l (Mx.readChunk md R r (ts.drop i) wY)))
  ⟨none,none,[],rd,Z,fw.same s0,⟨G,sG.trans s0,λy o e=>bC.mpr ⟨.inl (by rw[e];rfl),s0 _ _ (sG _ _ e)⟩,GC,up⟩,Z,Z,aq,?_⟩ ?_ ?_
 .rw[iD];cases Mx.readChunk md R r ts rd with
  |error e=>rfl
  |ok z=>rfl
 .rintro i σ H' hi ⟨y6,y7,l,wY,rfl,kp,⟨G',sG',sg',gC',upc⟩,Lq,hl,eC,ew⟩;obtain⟨pl2,pd2,⟨Sh2,Gb2,dx2,Xm,ba2,sa2,Sn,WN,z2⟩,_⟩:=id upc.ex;have FH':aC F H':=kp.other sF Hm;have ain:Apart F G':=Bs.Apart.le (gU sF Hm) sg';have eti:ts[i]? =some (16*k+i):=by
   rw[hts];unfold nU;rw[aw,bD (by lia)];rfl
  rw[drop_cons eti,tj] at ew;refine⟨_,Z,ua,_,_,Z,sG' _ _ (Sn _ _ z2.ob),Z,_,Z,ua,F,G',b,ay,wY,md,Z,FH',sG',ain,upc,by rw[Lq];exact hmd,λhno=>?_,λv rd2 hso H2 Bf Qr=>?_⟩
  .rw[hno] at ew;exact((kS ew).mono kp).sub sg'
  .rw[hso] at ew;simp only at ew;refine⟨_,Z,_,_,Z,Z,_,Z,?_⟩;have eC2:=Bf C _ eC gC';have X8:=uo N8 v;have hM:N8=35184372088832:=by decide
   cases X8 with
   |inl lu=>
    rw[aj lu] at ew;rw[ag (by lia)];refine eY ⟨_,Z,_,Z,Z,Bf.other FH' ain _ _ hF,T.dS,Z,Z,_,_,Z,Z,.inl ⟨by lia,by lia⟩,_,Z,_,_,Z,Z,?_⟩;have e1:V.int (((((16*k:Nat):Int)+(i:Int))*h.rows)+(r:Int))=V.int (((16*k+i)*R+r:Nat):Int):=by
     show V.int ((((16*k:Nat):Int)+(i:Int))*h.rows+(r:Int))=_;rw[hR];simp
    rw[e1];exact((((kL _ ew).mono kp).sub sg').mono Bf).raise
   |inr lu=>
    rw[ah (iY.mpr lu)] at ew;rw[ae (by lia)];refine fK ⟨_,Z,LS eC2,_,Z,C,_,_,Z,Z,eC2,by rw[aE];simp;lia,?_⟩;have gC2:grow G' H' H2 C=none:=cS eC gC';refine⟨_,_,l++[v],rd2,Z,λy o e g=>?_,⟨grow G' H' H2,λy o e=>?_,λy o e=>?_,gC2,Qr⟩,by rw[IP hso];exact Lq,by simp[hl],by rw[aq];simp[nI],?_⟩
    .rw[aF (aI e nC)];exact Bf y o (kp y o e g) (sg'.free (cS e g))
    .rw[aF (aI e gC2)];exact cj _ _ e
    .obtain⟨q1,q2⟩:=bC.mp e;refine bC.mpr ⟨?_,by rw[aF (aI e gC2)];exact q2⟩;rcases q1 with q|q
     .obtain⟨u,hu⟩:=cX.mp q;exact(bC.mp (sg' _ _ hu)).1
     .exact kp.dom q
    .rw[ew];cases Mx.readChunk md R r (ts.drop (i+1)) rd2 with
     |error e=>rfl
     |ok z=>simp[Hx]
 .rintro σ H' ⟨y6,y7,l,wY,rfl,kp,⟨G',sG',sg',gC',upc⟩,Lq,hl,eC,ew⟩;rw[rn] at ew;have ew:Mx.readChunk md R r ts rd=.ok (l++[],wY):=ew;rw[fX] at ew;exact⟨_,Z,kQ l wY ew H' C kp (upc.same (aC.refl _) sg') nC eC⟩
def qv (ay R n:Nat)(b:cf)(p:Nat):Except (Nat×Nat) (List (ie)):=match eW ay (b.drop p) with
 |some x=>.error (3,p+x)
 |none=>match hJ R (n8 R n) ⟨ay,rk b p ay,ft (b.drop (p+4*ay)),fO R,[]⟩ (aM R []) with
  |.error .short=>.error (3,b.length)
  |.error (.large x)=>.error (4,x)
  |.ok (zs,u)=>if u.ended=false then .error (5,b.length) else .ok zs
def HX (h:eW ay b=none):4*ay<=b.length/\b.length%2=0/\(∀i,i<ay->¬rq ((b.drop (4*i)).take 4)<ak4):=by
 unfold eW at h;split at h
 .cases h
 .rename_i h1;split at h
  .cases h
  .rename_i h2;split at h
   .cases h
   .rename_i h3;refine⟨by lia,by lia,λi hi q=>?_⟩;have:=Et.mp h2 i (cb.mpr hi);simp[q] at this
def VF {ms:aeI}(h:eW ay (b.drop p)=none):aeJ ay ms (b.drop p)=some ⟨ay,rk b p ay,ft (b.drop (p+4*ay)),ms,[]⟩:=by
 obtain⟨h1,h2,h3⟩:=HX h;unfold aeJ;simp only;rw[aj,uK]
 .rfl
 .refine⟨h1,h2,fz.mpr λx hx=>?_⟩;obtain⟨i,hi,rfl⟩:=bj.mp hx;exact ag (iY.mp (h3 i (cb.mp hi)))
def LK (R q:Nat):(aM R ([]:ie)).getD q []=[]:=by
 rw[aG,pG];split<;>rfl
theorem zi {α β:Type}{F:α->β->Prop}:∀{l:List α} {m:List β},l.length=m.length->(∀(i:Nat) x v,l[i]? =some x->m[i]? =some v->F x v)->Paired F l m
 |[],[],_,_=>.nil
 |a::l,b::m,hl,h=>.cons (h 0 a b rfl rfl) (zi (by simpa using hl) λi x v h1 h2=>h (i+1) x v (by simpa using h1) (by simpa using h2))
def afJ (l:ie):(nI l).sum=((l.sum:Nat):Int):=by
 induction l with
 |nil=>rfl
 |cons a r ih=>simp only[nI,cz,DC] at ih|-;rw[ih];simp
def Ek (R n k r:Nat):List (Nat×Nat):=((aK R).drop r).flatMap (λq=>NF n k q)++((aK ((n+15) / 16)).drop (k+1)).flatMap λq=>ZH R n q
def Si (R n:Nat)(h:0<(n+15) / 16):n8 R n=Ek R n 0 0:=by
 rw[ZI];unfold Ek;rw[iD,show(aK ((n+15) / 16))=(aK ((n+15) / 16)).drop 0 from rfl,vU h,cn];rfl
def Zg {k:Nat}(h:r<R):Ek R n k r=(nU n k).map (λt=>(r,t))++Ek R n k (r+1):=by
 unfold Ek;rw[vU h,cn,VY,cD]
def VN {k:Nat}(h:k+1<(n+15) / 16):Ek R n k R=Ek R n (k+1) 0:=by
 unfold Ek;rw[gJ (by simp),vU h,cn,iD];rfl
def Zf {k:Nat}(h:(n+15) / 16<=k+1):Ek R n k R=[]:=by
 unfold Ek;rw[gJ (by simp),gJ (by simpa using h)];rfl
theorem BY {md:Nat}:∀{ts:ie} {rd v:cE} {l:ie},Mx.readChunk md R r ts rd=.ok (l,v)->v.models.length=rd.models.length
 |[],rd,v,l,h=>by cases h;rfl
 |a::ts,rd,v,l,h=>by
  rw[tj] at h;cases h1:pM rd md with
  |none=>rw[h1] at h;cases h
  |some x=>
   obtain⟨z,u⟩:=x;rw[h1] at h;simp only at h;split at h
   .cases h
   .cases h2:Mx.readChunk md R r ts u with
    |error e=>rw[h2] at h;cases h
    |ok y=>
     obtain⟨l',v'⟩:=y;rw[h2] at h;cases h;rw[BY h2,IP h1]
def EL {zs:List (ie)}{k:Nat}{x:ie}(h:r≠q):iz (zs.set r x) k q=iz zs k q:=by
 unfold iz;split
 .rfl
 .rw[Ox h]
inductive ZA (t:fP)(vs:b_)(H:Hp)(Q:VK)(E:XK):Prop|i(gW ha dh:lQ)(h:rB)(wv:V)(b:cf)(R n ay p:Nat)(_:vs=[.ref gW,.ref ha])(_:H gW=some (iL (br b)))(_:H ha=some (HdO t dh h wv))(_:h.fin=p)(_:h.lanes=(ay:Int))(_:h.rows=(R:Int))(_:h.times=(n:Int))(_:p<=b.length)(_:b.length<=10000)(_:1<=ay)(_:ay<=16)(_:1<=R)(_:R<=4)(_:1<=n)(_:n<=64)(_:∀k q,qv ay R n b p=.error (k,q)->Gx t E [] H (k:Nat) (q:Nat))(_:∀zs,qv ay R n b p=.ok zs->NLL H Q (zs.map λz=>z.map fZ))
def CN:T.pV.Ok P w mg rZ (tN P w t.bI) 9 (ZA t):=by
 refine T.pV.xA λnd H vs Q E hr h=>?_;obtain⟨gW,ha,dh,h,wv,b,R,n,ay,p,rfl,hb,hh,hp,hl,hR,hn,pb,bl,l1,TV,R1,R4,n1,CD,kE,kQ⟩:=h;refine .i (ao (fL 2 nd (JW T.QI T.O6 T.qR (Eb T) hr aY.passes (ak (pv 0) (ak (cO (pv 1)) (ak (cO (pv 1)) ax)))))
   (ao (psc 3 [("r",6)] nd (jx rfl T.iA (ak (cO (pv 1)) ax)) (mv 6 nd) (eE ax))
   (ao (fL 4 nd (aX Ef (eE (ak aJ ax)) (cO (pv 1))))
   (ao (gX PassesOwn.leaving rfl (zk rfl T.iA (ak aJ (ak (cO (pv 1)) (ak (fF T.GJ) ax)))) (mv 5 nd)
    (aH (gX PassesOwn.leaving rfl (jx rfl T.iA (ak (cO (pv 1)) ax)) (mv 6 nd)
    (ao (fL 7 nd (ko T.uj (IY T) hr aY.passes (ak (pv 2) (ak (ko T.oR (wV T) hr bG (ak (pv 6) (ak (JV (pv 4) (pv 6)) ax))) (ak (pv 1) (ak (pv 6) (ak (pv 5) ax)))))))
   (ao (cP (Ax df dC dD mE (JV (pv 3) (pv 6)) (ak (GO [("value",8)] nd (fB (pv 7)) (mv 8 nd) (ko T.Dz (RY T) hr bG (ak (pv 8) ax))) ax)))
   (aH (yJ (gO (Ml rfl) rfl T.TZ aev (ak (pv 7) ax)) (yF (pv 4) (pv 6) set_list))))))))
   (ao (gj (Nq (Bo (Fe (pv 2) T.bY T.oQ (Bk T) hr bG))) (aH (jy (ns:=["kind","place"]) aY rfl T.hU (h_ T) (hr.mono (by decide)).h T.dq.b rfl rfl T.gm (ak aJ (ak (Bn T.i_ (ak (pv 0) ax)) ax)) (by decide))) cQ)
   (aH (bz (pv 3)))))))) ?_
 refine⟨_,Z,_,Z,Z,hh,T.dS,Z,Z,_,Z,Z,hh,T.dS,Z,Z,λua du m1 m2 m3=>?_⟩;have sm:aC H (upd (upd H du (.own ua)) ua (.ins t.cy du [])):=gA m1 m2;refine⟨ua,du,gW,b,p,ay,by rw[hp,hl];rfl,aq,sm _ _ hb,pb,bl,l1,TV,λq hq=>?_,λIm H1 ba sa Gb c1 hx hs ns sb nb bk=>⟨Z,?_⟩⟩
 .have:=kE 3 (p+q) (by unfold qv;rw[hq]);intro H' dd fs z1 z2 z3 z4;exact this H' dd fs z1 z2 z3 (dE.back sm z4 (by intro y hy;rw[show y=ua from by simpa using hy];exact m1)).chg
 have sH1:aC H H1:=dE.back sm c1 (by intro y hy;rw[show y=ua from by simpa using hy];exact m1);obtain⟨rd0,afx⟩:∃rd0:cE,rd0=⟨ay,rk b p ay,ft (b.drop (p+4*ay)),fO R,[]⟩:=⟨_,Z⟩;have fn:=HX Im;rw[dY] at fn;have nsH:H sa=none:=sm.free ns;have gua:Gb ua=none:=by
  cases e:Gb ua with
  |none=>rfl
  |some o=>have:=(aT.mp (sb _ _ e)).1;rw[aq] at this;cases this
 have up0:JP t H (nw H H1) b ay rd0 ua:=by
  rw[afx];refine⟨⟨p+4*ay,0,⟨λy=>if y=ua\/y=sa then H1 y else none,Gb,du,gW,ba,sa,λy o e=>?_,sb.trans (o9 sm),λy=>?_,(aj (.inl rfl)).trans hx,(aj (.inr rfl)).trans hs,bk (16*R) (by lia),hb,by simp[rk],l1⟩,by simp,Z,by lia,by lia⟩,⟨Z,l1,by simp[rk],by show 0<ay;lia,AR _,λit JS=>by simp at JS⟩,TV,by show(aM (16*R) _).length<=64;simp;lia⟩
  .simp only at e;split at e
   .rename_i hq;refine aT.mpr ⟨?_,e⟩;rcases hq with rfl|rfl
    .exact m1
    .exact nsH
   .cases e
  .by_cases hq:y=ua\/y=sa
   .refine .inr ?_;rcases hq with rfl|rfl
    .exact gua
    .exact nb
   .exact .inl (ah hq)
 have ap0:Apart H (nw H H1):=λy=>by
  cases e:H y with
  |none=>exact .inl rfl
  |some o=>exact .inr (by unfold nw;rw[e];rfl)
 have hrr:qv ay R n b p=match hJ R (n8 R n) rd0 (aM R []) with
   |.error .short=>.error (3,b.length)
   |.error (.large x)=>.error (4,x)
   |.ok (zs,u)=>if u.ended=false then .error (5,b.length) else .ok zs:=by
  unfold qv;rw[Im,afx]
 refine⟨_,Z,Z,sH1 _ _ hh,T.dS,Z,Z,h.rows,Z,by rw[hR];lia,by rw[hR];lia,λRL nRL=>?_⟩;have eRn:h.rows.toNat=R:=by rw[hR];simp
 rw[eRn];refine Ly (λi dM H'=>aC H1 H'/\∃ps:pF,dM=ps.map V.ref/\ps.Nodup/\∀q∈ps,H' q=some (.lst [])/\H1 q=none/\q≠RL) R (by rw[aE];lia) ⟨aC.upd nRL,[],Z,Bz,λq hq=>by simp at hq⟩ ?_ λi dM H' Q2 hi iP eD ⟨sm',ps,eps,nd,TK⟩ k2=>?_
 .rintro dM H2 iP eRL ⟨s2,ps,eps,nd,TK⟩;subst eps;have pl:ps.length=R:=by simpa using iP
  refine⟨by rw[aE];simp,λp1 np1=>?_⟩;have s3:aC H2 (upd H2 p1 (.lst [.int 0])):=aC.upd np1;refine⟨_,Z,Z,s3 _ _ (s2 _ _ (sH1 _ _ hh)),T.dS,Z,Z,p1,h.rows,_,Z,Z,aq,by rw[hR];lia,by rw[hR];lia,by rw[aE,hR];simp;lia,λTA nTA=>?_⟩;rw[hR,Nv];have s4:=s3.trans (aC.upd (o:=.lst ((aM R (0:Int)).map V.int)) nTA);have eTA:upd (upd H2 p1 (.lst [.int 0])) TA (.lst ((aM R (0:Int)).map V.int)) TA=some (.lst ((aM R (0:Int)).map V.int)):=aq;have YI:H2 TA=none:=s3.free nTA;have tRL:TA≠RL:=bZ eRL YI;have tps:TA∉ps:=λq=>by rw[(TK _ q).1] at YI;cases YI
  have rps:RL∉ps:=λq=>(TK _ q).2.2 rfl;have XN:∀q∈ps,H q=none:=λq hq=>sH1.free (TK q hq).2.1;have aff:H RL=none:=sH1.free nRL;have freshT:H TA=none:=sH1.free (s2.free YI);generalize upd (upd H2 p1 (.lst [.int 0])) TA (.lst ((aM R (0:Int)).map V.int))=H4 at s4 eTA|-
  have sH4:aC H H4:=sH1.trans (s2.trans s4);refine⟨_,Z,Z,sH4 _ _ hh,T.dS,Z,Z,0,h.times,16,(n+15) / 16,Z,by rw[hn];exact ake CD,?_⟩;have afS:0<(n+15) / 16:=by lia
  refine wc (λkk σ Hc=>X6 λ(y5:Option V) (y6:Option V) (y7:Option V) (G:Hp) (wY:cE) (zs:List (ie))=>C15 (σ=[some (.ref gW),some (.ref ha),some (.ref ua),some (.ref RL),some (.ref TA),y5,y6,y7,none]) (aC H Hc) (aC G Hc) (Apart H G) (JP t H G b ay wY ua) (wY.models.length=16*R) (G RL=none) (G TA=none) (∀q∈ps,G q=none) (Hc RL=some (.lst (ps.map V.ref))) (Hc TA=some (iL (nI ((aK R).map λq=>iz zs kk q)))) (zs.length=R) (∀(q:Nat) a,ps[q]? =some a->Hc a=some (iL ((zs.getD q []).map fZ))) (∀q,q<R->(zs.getD q []).length=min (16*kk) n) (hJ R (n8 R n) rd0 (aM R [])=hJ R (if kk<(n+15) / 16 then Ek R n kk 0 else[]) wY zs))
   ⟨none,none,none,nw H H1,rd0,aM R [],Z,sH4,iK.trans (s2.trans s4),ap0,up0,?_,iK.free nRL,iK.free (s2.free YI),λq hq=>iK.free (TK q hq).2.1,s4 _ _ eRL,?_,by simp,?_,?_,?_⟩ ?_ ?_
  .rw[afx];show(aM (16*R) _).length=_;simp
  .rw[eTA];have e5:((aK R).map λr=>iz (aM R []) 0 r)=aM R 0:=by
    rw[UI];refine⟨by simp,λb hb=>?_⟩;obtain⟨r,_,rfl⟩:=bj.mp hb;rfl
   rw[e5];simp[nI]
  .intro q a hq;rw[s4 _ _ (TK a (az hq)).1];rw[LK];rfl
  .intro q hq;rw[LK];simp
  .rw[aj afS,Si R n afS]
  .rintro kk σ Hc hkk ⟨y5,y6,y7,G,wY,zs,rfl,Dy,sG,ap,up,Lq,gR,gT,gp,hRL,hTA,zl,hz,hzl,ew⟩;rw[aj hkk] at ew;refine⟨_,Z,Z,Dy _ _ hh,T.dS,Z,Z,h.rows,Z,by rw[hR];lia,by rw[hR];lia,?_⟩;rw[eRn];refine r_ (λr σ Hd=>X5 λ(y6:Option V) (y7:Option V) (G:Hp) (wY:cE) (zs:List (ie))=>C15 (σ=[some (.ref gW),some (.ref ha),some (.ref ua),some (.ref RL),some (.ref TA),some (.int (0+(kk:Nat)*16)),y6,y7,none]) (aC H Hd) (aC G Hd) (Apart H G) (JP t H G b ay wY ua) (wY.models.length=16*R) (G RL=none) (G TA=none) (∀q∈ps,G q=none) (Hd RL=some (.lst (ps.map V.ref))) (Hd TA=some (iL (nI ((aK R).map λq=>if q<r then iz zs (kk+1) q else iz zs kk q)))) (zs.length=R) (∀(q:Nat) a,ps[q]? =some a->Hd a=some (iL ((zs.getD q []).map fZ))) (∀q,q<R->(zs.getD q []).length=if q<r then min (16*(kk+1)) n else 16*kk) (hJ R (n8 R n) rd0 (aM R [])=hJ R (Ek R n kk r) wY zs))
    ⟨y6,y7,G,wY,zs,Z,Dy,sG,ap,up,Lq,gR,gT,gp,hRL,by simpa using hTA,zl,hz,λq hq=>by rw[ah (by lia),hzl q hq];lia,ew⟩ ?_ ?_
   .rintro r σ Hd WG ⟨y6,y7,G,wY,zs,rfl,Ui,sG,ap,up,Lq,gR,gT,gp,hRL,hTA,zl,hz,hzl,ew⟩;have hzr:=hzl r WG;rw[ah (b8 r)] at hzr;rw[Zg WG,vm (k:=kk) (Ek R n kk (r+1)) (nU n kk) wY zs V4 (by lia) (by lia)] at ew;obtain⟨md,hmd⟩:∃md,md=jK r (if kk=0 then[] else bS zs (kk-1) r):=⟨_,Z⟩;rw[<-hmd] at ew;have X1:r<((aK R).map λq=>if q<r then iz zs (kk+1) q else iz zs kk q).length:=by simpa using WG
    have afl:((aK R).map λq=>if q<r then iz zs (kk+1) q else iz zs kk q).getD r 0=iz zs kk r:=by
     rw[aG,aw,bD WG];simp
    obtain⟨pa,Yi⟩:∃pa,ps[r]? =some pa:=⟨_,aD (by lia)⟩;have Yj:=az Yi;have ebg:V.int (0+(kk:Nat)*16)=V.int ((16*kk:Nat):Int):=congrArg V.int (by lia);refine⟨_,Z,_,Z,_,Z,_,Z,TA,_,_,_,Z,Z,i2 hTA,Pt X1 (by lia),r,(if kk=0 then[] else bS zs (kk-1) r),?_,by lia,?_⟩
    .rw[afl];show[V.int (0+(r:Int)),V.int ((iz zs kk r:Nat):Int)]=_;rw[zA];rfl
    rw[<-hmd];refine⟨_,Z,_,Z,_,Z,?_⟩;have hbf:∀k q,qv ay R n b p=.error (k,q)->L4 t E G Hd (k:Nat) (q:Nat):=λk q e=>L4.of (kE k q e) Ui ap;refine⟨ua,ha,dh,h,wv,H,G,b,ay,wY,md,R,r,n,kk,?_,Ui,sG,ap,up,by rw[Lq,hmd];exact Pr WG _,hh,hn,hR,by lia,CD,R4,by lia,λhq=>?_,λq hq=>?_,λl v hq H6 cp kp6 up6 ncp ecp=>?_⟩
    .rw[zA,ebg];rfl
    .rw[hq] at ew;rw[ew] at hrr;exact hbf _ _ hrr
    .rw[hq] at ew;rw[ew] at hrr;exact hbf _ _ hrr
    .rw[hq] at ew;simp only at ew;have ll:l.length=min 16 (n-16*kk):=by rw[vk hq];simp[nU]
     have l6:l.length<=16:=ll ▸ fu ..;have hk:=k16 hkk;have aiP:=kp6 _ _ hRL gR;have anE:=kp6 _ _ hTA gT;have ajk:=kp6 _ _ (hz r pa Yi) (gp pa Yj);have s6H:aC H H6:=kp6.other Ui ap;have g6p:∀q∈ps,grow G Hd H6 q=none:=λq hq=>by
      obtain⟨j,hj⟩:=dJ.mp hq;exact cS (hz j q hj) (gp q hq)
     have g6T:grow G Hd H6 TA=none:=cS hTA gT;have aoN:((zs.getD r []).map fZ).length=16*kk:=by rw[aB];exact hzr
     refine⟨_,Z,_,Z,RL,_,_,_,Z,Z,i2 aiP,at_of (j:=r) (by lia) (by rw[aw,Yi];rfl),LS ajk,_,Z,cp,Z,⟨_,i2 ecp⟩,λD hD=>?_⟩;refine nt (ys:=(l.map fZ).map V.int) hD (by rw[aE];simp;exact bt l6 (by decide)) (i2 ecp) (by simp) (λi x y H7 Q7 hx hy sm7 k7=>?_) λH7 e7 s7=>?_
     .rw[aw,aw] at hx hy;cases hq2:l[i]? with
      |none=>rw[hq2] at hx;cases hx
      |some z=>
       rw[hq2] at hx hy;cases hx;cases hy;exact⟨Z,_,Z,z,Z,k7 _ (aC.refl _)⟩
     .refine⟨pa,D,_,_,Z,Z,s7 _ _ ajk,e7,by rw[aE,aB,aoN,aB,aB];exact bt (N_ (bt (cY hk) CD) l6) (by decide),?_⟩;have apd:cp≠pa:=by rintro rfl;rw[(hz r cp Yi)] at ncp;cases ncp
      have ajU:TA≠pa:=λe=>tps (e ▸ Yj);have ao7:RL≠pa:=λe=>rps (e ▸ Yj);have c8:dE [pa] H7 (upd H7 pa (.lst (((zs.getD r []).map fZ).map V.int++(l.map fZ).map V.int))):=dE.refl.d_ (by simp);have e8:upd H7 pa (.lst (((zs.getD r []).map fZ).map V.int++(l.map fZ).map V.int)) pa=some (iL ((zs.getD r []++l).map fZ)):=by rw[aq];simp
      generalize upd H7 pa (.lst (((zs.getD r []).map fZ).map V.int++(l.map fZ).map V.int))=H8 at c8 e8|-
      have anF:=c8.one (s7 _ _ anE) ajU;refine⟨_,Z,cp,_,Z,i2 (c8.one (s7 _ _ ecp) apd),_,Z,_,Z,TA,_,_,r,Z,Z,anF,qo (by lia) (by simpa using WG),?_⟩;rw[afJ,D7];have c9:dE [TA] H8 (upd H8 TA (.lst ((nI (((aK R).map λq=>if q<r then iz zs (kk+1) q else iz zs kk q).set r l.sum)).map V.int))):=dE.refl.d_ (by simp);have e9:upd H8 TA (.lst ((nI (((aK R).map λq=>if q<r then iz zs (kk+1) q else iz zs kk q).set r l.sum)).map V.int)) TA=some (iL (nI (((aK R).map λq=>if q<r then iz zs (kk+1) q else iz zs kk q).set r l.sum))):=aq;generalize upd H8 TA (.lst ((nI (((aK R).map λq=>if q<r then iz zs (kk+1) q else iz zs kk q).set r l.sum)).map V.int))=H9 at c9 e9|-
      have zr:(zs.set r (zs.getD r []++l)).getD r []=zs.getD r []++l:=by rw[aG,eF (by lia)];rfl
      have zo:∀q,q≠r->(zs.set r (zs.getD r []++l)).getD q []=zs.getD q []:=λq hq=>by rw[aG,iE (eP hq),<-aG]
      have TU:∀y o,H6 y=some o->y≠pa->y≠TA->H9 y=some o:=λy o e h1 h2=>c9.one (c8.one (s7 _ _ e) h1) h2;have am7:bS (zs.set r (zs.getD r []++l)) kk r=l:=by
       unfold bS;rw[zr,List.drop_append_of_le_length (f7 hzr.symm),gJ (f7 hzr),tF,cq l6]
      refine⟨_,_,grow G Hd H6,v,zs.set r (zs.getD r []++l),Z,λy o e=>TU y o (s6H _ _ e) (aI e (XN pa Yj)) (aI e freshT),λy o e=>TU y o (cj _ _ e) (aI e (g6p _ Yj)) (aI e g6T),gU Ui ap,up6,by rw[BY hq];exact Lq,cS hRL gR,g6T,g6p,TU _ _ aiP ao7 tRL.symm,?_,by rw[fc];exact zl,λq a hqa=>?_,λq hqR=>?_,ew⟩
      .rw[e9];refine congrArg (λz=>some (iL (nI z))) (qd λq=>?_);rw[aa3,aw,aw];by_cases Lr:r=q
       .rw[aj Lr,aj (by simpa using WG),<-Lr,bD WG];simp only[eX,ij,if_true];congr 1;unfold iz;rw[ah (by lia),Fx,am7]
       .rw[ah Lr];by_cases hqe:q<R
        .rw[bD hqe];simp only[eX];rw[EL Lr,EL Lr];by_cases h3:q<r
         .rw[aj h3,aj (by lia)]
         .rw[ah h3,ah (by lia)]
        .rw[ia (by simpa using hqe)];rfl
      .by_cases Lr:q=r
       .rw[Lr] at hqa|-
        rw[Yi] at hqa;cases hqa;rw[zr];exact c9.one e8 ajU.symm
       .rw[zo q Lr];have GI:a≠pa:=by rintro rfl;exact Lr (ajZ nd hqa Yi)
        exact TU _ _ (kp6 _ _ (hz q a hqa) (gp a (az hqa))) GI (by rintro rfl;exact tps (az hqa))
      .by_cases Lr:q=r
       .rw[Lr,zr,aj (ij r),aO,hzr,ll];exact m16 (cY hk)
       .rw[zo q Lr,hzl q hqR];by_cases h3:q<r
        .rw[aj h3,aj (by lia)]
        .rw[ah h3,ah (by lia)]
   .rintro σ Hd ⟨y6,y7,G,wY,zs,rfl,Ui,sG,ap,up,Lq,gR,gT,gp,hRL,hTA,zl,hz,hzl,ew⟩;refine⟨_,_,_,G,wY,zs,Z,Ui,sG,ap,up,Lq,gR,gT,gp,hRL,?_,zl,hz,λq hq=>?_,?_⟩
    .rw[hTA];refine congrArg (λz=>some (iL (nI z))) (fM λq hq=>?_);rw[aj (cb.mp hq)]
    .rw[hzl q hq,aj hq]
    .rw[ew];by_cases Ye:kk+1<(n+15) / 16
     .rw[aj Ye,VN Ye]
     .rw[ah Ye,Zf (by lia)]
  .rintro σ Hc ⟨y5,y6,y7,G,wY,zs,rfl,Dy,sG,ap,up,Lq,gR,gT,gp,hRL,hTA,zl,hz,hzl,ew⟩;rw[ah (b8 _)] at ew;have ew:hJ R (n8 R n) rd0 (aM R [])=.ok (zs,wY):=ew;rw[ew] at hrr;simp only at hrr;obtain⟨pl2,pd2,⟨Sh2,Gb2,dx2,Xm,ba2,sa2,Sn,WN,z2⟩,_⟩:=id up.ex;refine⟨_,Z,ua,_,_,Z,sG _ _ (Sn _ _ z2.ob),Z,ua,H,G,b,ay,wY,Z,Dy,sG,up,λH6 s6=>⟨_,Z,?_⟩⟩;cases he:wY.ended with
   |false=>
    rw[he,aj rfl] at hrr;refine eY ⟨_,Z,gW,_,Z,i3 (s6 _ _ (Dy _ _ hb)),?_⟩;rw[aB,eA];exact((kE 5 b.length hrr).mono (Dy.trans s6).chg).raise
   |true=>
    rw[he,ah (by decide)] at hrr;refine fK ⟨_,Z,?_⟩;refine kQ zs hrr H6 RL (ps.map V.ref) (Dy.trans s6) (s6 _ _ hRL) aff (zi (by simp;lia) λi x v h1 h2=>?_);rw[aw] at h1 h2;cases hq:zs[i]? with
    |none=>rw[hq] at h1;cases h1
    |some z=>
     cases Bc:ps[i]? with
     |none=>rw[Bc] at h2;cases h2
     |some a=>
      rw[hq] at h1;rw[Bc] at h2;cases h1;cases h2;refine⟨a,Z,aT.mpr ⟨XN a (az Bc),?_⟩⟩;have:=s6 _ _ (hz i a Bc);rw[aG,hq] at this;exact this
 .obtain⟨r1,r2⟩:=(⟨trivial,trivial⟩:True/\True);refine⟨Z,by rw[aE];simp,λq nq=>k2 _ _ (by rw[aF (aI eD nq)];exact eD) ⟨λy o e=>?_,ps++[q],by rw[eps];simp,?_,λa ha'=>?_⟩⟩
  .have h1:=sm' _ _ e;rw[aF (aI e nRL),aF (aI h1 nq)];exact h1
  .refine M_ nd λhq=>?_;rw[(TK q hq).1] at nq;cases nq
  .have qRL:q≠RL:=bZ eD nq;rcases c_.mp ha' with hq|hq
   .obtain⟨z1,z2,z3⟩:=TK a hq;refine⟨?_,z2,z3⟩;rw[aF z3,aF (aI z1 nq)];exact z1
   .rw[show a=q from by simpa using hq];exact⟨by rw[aF qRL,aq],sm'.free nq,qRL⟩
abbrev CtO (t:fP)(dx:lQ)(f:bN)(sh ea:lQ):HO:=.ins t.gq dx [("cut",.int f.cut),("lowest",.int (kn f)),("highest",.int (jO f)),("shape",.ref sh),("errors",.ref ea)]
inductive ErA (K:au)(eps:bX)(v:V)(H:Hp):Prop|i a(_:v=.ref a)(_:nM K H a (eps.map V.int)\/Mb K H a (eps.map V.int))
def ZJ (h:Mb K H a xs)(s:aC H H'):Mb K H' a xs:=by
 rcases h with(h|⟨o,h⟩)|h
 .exact i2 (s _ _ h)
 .exact .inl (.inr ⟨o,s _ _ h⟩)
 .exact .inr h
def ErA.same {eps:bX}(h:ErA K eps v H)(s:aC H H'):ErA K eps v H':=by
 obtain⟨a,e,h|h⟩:=h
 .exact⟨a,e,.inl (s.seq h)⟩
 .exact⟨a,e,.inr (ZJ h s)⟩
inductive akq (K:au)(t:fP)(vs:b_)(H:Hp)(Q:VK)(E:XK):Prop|i(x dx sh:lQ)(fv ev:V)(f:bN)(eps:bX)(_:vs=[.ref x,fv,.ref sh,ev])(_:H x=some (.ins t.gq dx []))(_:Gz t f fv (but H x))(_:Mx.FG f)(_:ErA K eps ev (but H x))(_:∀H' ea,dE [x] H H'->H' x=some (CtO t dx f sh ea)->H' ea=some (iL eps)->H ea=none->Q .gQ H')
def IQ:T.uc.Ok P w mg rZ jf 2 (akq K t):=by
 refine T.uc.ok λnd H vs Q E hr h=>?_;obtain⟨x,dx,sh,fv,ev,f,eps,rfl,hx,⟨fa,dfa,wv,rfl,JR,_⟩,g,er,k⟩:=h;have b1:=g.b1;have b2:=g.b2;have hfx:=(dQ.mp JR).1;have X9:=(dQ.mp JR).2;refine .i (ao (kh (pv 0) (cO (pv 1)))
   (ao (kh (pv 0) (aX sY (ko T.j8 (pf T) hr bG (ak (cO (pv 1)) ax)) (cO (pv 1))))
   (ao (kh (pv 0) (aX sY (ko T.jC (oi T) hr bG (ak (cO (pv 1)) ax)) (cO (pv 1))))
   (ao (kh (pv 0) (pv 2))
   (aH (kh (pv 0) (sk mD rfl T.D8 Gu (ak (pv 3) ax)))))))) ?_
 refine⟨_,Z,Z,X9,T.dA,Z,Z,_,Z,Z,hx,T.iG,Z,Z,tH [("cut",.int f.cut)],?_⟩;have c1:dE [x] H (upd H x (.ins t.gq dx [("cut",.int f.cut)])):=dE.refl.d_ (by simp);have x1:upd H x (.ins t.gq dx [("cut",.int f.cut)]) x=some (.ins t.gq dx [("cut",.int f.cut)]):=aq;generalize upd H x (.ins t.gq dx [("cut",.int f.cut)])=H1 at c1 x1|-
 refine⟨_,Z,Z,c1.one X9 hfx,T.dA,Z,Z,f.bits,Z,by lia,by lia,_,Z,Z,c1.one X9 hfx,T.dA,Z,Z,_,_,Z,Z,(by show(0:Int)<=_;lia),_,Z,Z,x1,T.iG,Z,Z,tH [("cut",.int f.cut),("lowest",.int (kn f))],?_⟩;have c2:dE [x] H (upd H1 x (.ins t.gq dx [("cut",.int f.cut),("lowest",.int (kn f))])):=c1.d_ (by simp);have x2:upd H1 x (.ins t.gq dx [("cut",.int f.cut),("lowest",.int (kn f))]) x=some (.ins t.gq dx [("cut",.int f.cut),("lowest",.int (kn f))]):=aq;generalize upd H1 x (.ins t.gq dx [("cut",.int f.cut),("lowest",.int (kn f))])=H2 at c2 x2|-
 refine⟨_,Z,Z,c2.one X9 hfx,T.dA,Z,Z,f.bits,Z,by lia,by lia,_,Z,Z,c2.one X9 hfx,T.dA,Z,Z,_,_,Z,Z,(by show(0:Int)<=_;lia),_,Z,Z,x2,T.iG,Z,Z,tH [("cut",.int f.cut),("lowest",.int (kn f)),("highest",.int (jO f))],?_⟩;refine⟨_,Z,_,Z,Z,aq,T.iG,Z,Z,tH [("cut",.int f.cut),("lowest",.int (kn f)),("highest",.int (jO f)),("shape",.ref sh)],?_⟩;rw[eG];have c3:dE [x] H (upd H2 x (.ins t.gq dx [("cut",.int f.cut),("lowest",.int (kn f)),("highest",.int (jO f)),("shape",.ref sh)])):=c2.d_ (by simp);have x3:upd H2 x (.ins t.gq dx [("cut",.int f.cut),("lowest",.int (kn f)),("highest",.int (jO f)),("shape",.ref sh)]) x=some (.ins t.gq dx [("cut",.int f.cut),("lowest",.int (kn f)),("highest",.int (jO f)),("shape",.ref sh)]):=aq;generalize upd H2 x (.ins t.gq dx [("cut",.int f.cut),("lowest",.int (kn f)),("highest",.int (jO f)),("shape",.ref sh)])=H3 at c3 x3|-
 have s3:aC (but H x) H3:=λy o e=>c3.one (dQ.mp e).2 (dQ.mp e).1;obtain⟨ea0,rfl,er3⟩:=er.same s3;refine⟨_,Z,ea0,_,Z,er3,λea T7=>?_⟩;have s4:aC H3 (upd H3 ea (iL eps)):=aC.upd T7;have neH:H ea=none:=fU c3 x3 T7;have nex:ea≠x:=bZ hx neH;refine⟨_,Z,Z,s4 _ _ x3,T.iG,Z,Z,tH [("cut",.int f.cut),("lowest",.int (kn f)),("highest",.int (jO f)),("shape",.ref sh),("errors",.ref ea)],?_⟩;exact k _ ea ((c3.trans s4.chg).d_ (by simp)) aq (by rw[aF nex,aq]) neH
inductive ags (t:fP)(vs:b_)(H:Hp)(Q:VK)(E:XK):Prop|i(a dx sh ea:lQ)(f:bN)(aS eps:bX)(x:Int)(_:vs=[.ref a,.int x])(_:H a=some (CtO t dx f sh ea))(_:H sh=some (iL aS))(_:H ea=some (iL eps))(_:Mx.FG f)(_:aS.length=4)(_:eps.length=4)(_:∀v∈aS,-128<=v/\v<=127)(_:∀H' Lj,dE [a] H H'->H' a=some (CtO t dx f sh Lj)->H' Lj=some (iL (QY f aS eps x::eps.take 3))->H Lj=none->Q (.int (HC f aS eps x)) H')
def IS:T.ud.Ok P w mg rZ jf 2 (ags t):=by
 refine T.ud.ok λnd H vs Q E hr h=>?_;obtain⟨a,dx,sh,ea,f,aS,eps,x,rfl,ha,hsh,hea,g,sl,el,sr,k⟩:=h;have b2:=g.b2;have hc:=g.c;refine .i (ao (fL 2 nd (gO (Ml rfl) rfl T.TZ aev (ak (GO [("part",7),("error",6)] nd (Bm rfl T.IJ (ak (cO (pv 0)) (ak (cO (pv 0)) ax))) (GL (K:=K) (n:=2) rfl rfl (fj (mv 7 nd) (fj (mv 6 nd) ph)) rfl rfl) (aX fQ (pv 7) (pv 6))) ax)))
   (ao (fL 3 nd (aX gw (pv 1) (aX jJ (aX dz (pv 2) aJ) aJ)))
   (ao (fL 4 nd (aX jJ (aX uF aJ (cO (pv 0))) aJ))
   (ao (fL 5 nd (gO (K_ rfl) rfl T.ad2 boot_max (ak (cO (pv 0)) (ak (gO (oq rfl) rfl T.ET AE (ak (cO (pv 0)) (ak (aX sY (aX dz (pv 3) (pv 4)) (cO (pv 0))) ax))) ax))))
   (ao (fL 6 nd (ko T.GW (Nf T) hr bG (ak (aX gw (aX uF (pv 5) (cO (pv 0))) (pv 3)) (ak (fF T.MY) ax))))
   (ao (kh (pv 0) (aX mP (eE (ak (pv 6) ax)) (psl (cO (pv 0)) GQ (qu aJ))))
   (aH (bz (pv 5))))))))) ?_
 refine⟨_,Z,Z,ha,T.iG,Z,Z,_,Z,Z,ha,T.iG,Z,Z,sh,ea,_,_,Z,i2 hsh,i2 hea,λD hD=>?_⟩;refine M6 (ys:=(dO (λx y=>x*y) aS eps).map V.int) hD (by rw[aE];simp;lia) (i2 hsh) (i2 hea) (by simp;lia) (by simp;lia) (λi u z y Tt H2 Q2 hu hz hy sm nT k2=>?_) λH2 e2 s2=>?_
 .rw[aw] at hu hz;rw[aw,qV] at hy;cases qa:aS[i]? with
  |none=>rw[qa] at hu;cases hu
  |some x1=>
   cases qb:eps[i]? with
   |none=>rw[qb] at hz;cases hz
   |some z1=>
    rw[qa] at hu hy;rw[qb] at hz hy;cases hu;cases hz;cases hy;have b1:=sr x1 (az qa);exact⟨Tt,_,Z,i2 aq,Z,_,_,Z,_,_,Z,Z,Z,_,Z,_,Z,_,_,Z,Z,.inl ⟨by lia,by lia⟩,k2 _ (aC.refl _)⟩
 .have Bc:=s2 _ _ ha;refine⟨D,_,Z,i2 e2,?_⟩;refine⟨_,Z,_,Z,_,_,Z,Z,_,_,Z,Z,⟨by decide,by decide⟩,_,_,Z,Z,?_⟩;refine⟨_,Z,Z,Bc,T.iG,Z,Z,_,_,Z,Z,⟨by lia,by lia,by decide⟩,_,_,Z,Z,⟨by decide,by decide⟩,?_⟩;have eh:V.int ((1*2^((f.cut:Int)).toNat) / 2)=V.int (2^f.cut / 2):=by
   show V.int (1*2^((f.cut:Int)).toNat / 2)=_;rw[bF,pL]
  rw[eh];obtain⟨d,hd⟩:∃d,d=Mx.cutD aS eps x:=⟨_,Z⟩;have edd:x-((dO (λ(a b:Int)=>a*b) aS eps).sum+4) / 8=d:=by rw[hd];rfl
  refine⟨_,Z,Z,Bc,T.iG,Z,Z,_,Z,Z,Bc,T.iG,Z,Z,_,Z,_,Z,_,_,Z,Z,_,Z,Z,Bc,T.iG,Z,Z,_,_,Z,Z,(by show(0:Int)<=_;lia),_,_,Z,_,_,Z,?_⟩;obtain⟨y,hy⟩:∃y,y=HC f aS eps x:=⟨_,Z⟩;have ey:(if(if(x-((dO (λ(a b:Int)=>a*b) aS eps).sum+4) / 8+2^f.cut / 2) / 2^((f.cut:Int)).toNat<jO f then(x-((dO (λ(a b:Int)=>a*b) aS eps).sum+4) / 8+2^f.cut / 2) / 2^((f.cut:Int)).toNat else jO f)>kn f then(if(x-((dO (λ(a b:Int)=>a*b) aS eps).sum+4) / 8+2^f.cut / 2) / 2^((f.cut:Int)).toNat<jO f then(x-((dO (λ(a b:Int)=>a*b) aS eps).sum+4) / 8+2^f.cut / 2) / 2^((f.cut:Int)).toNat else jO f) else kn f)=y:=by
   rw[hy,bF];rfl
  have yb:=HE g aS eps x;have lb:=IC g;rw[<-hy] at yb;have e3:V.int (x-(((dO (λ(a b:Int)=>a*b) aS eps).sum+4) / 8))=V.int d:=congrArg V.int edd;rw[ey,e3];refine⟨_,Z,_,Z,Z,Bc,T.iG,Z,Z,_,_,Z,Z,⟨by lia,by lia,by lia⟩,_,Z,_,_,Z,Z,_,2147483647,Z,by decide,?_⟩;have ee:jM (y*2^((f.cut:Int)).toNat-d) 2147483647=QY f aS eps x:=by
   rw[bF,hy,hd];rfl
  have e0:jM ((λ(i j:Int)=>i-j) (y*2^((f.cut:Int)).toNat) d) 2147483647=QY f aS eps x:=ee;rw[ee];refine⟨_,Z,by rw[aE];simp,λp1 n1=>?_⟩;have s3:aC H2 (upd H2 p1 (.lst [.int (QY f aS eps x)])):=aC.upd n1;refine⟨_,Z,Z,s3 _ _ Bc,T.iG,Z,Z,_,Z,ea,_,Z,i2 (s3 _ _ (s2 _ _ hea)),λp2 n2=>?_⟩;have ae4:qY (eps.map V.int) none (some 3)=(eps.take 3).map V.int:=by rw[show(3:Int)=((3:Nat):Int) from rfl,Xv,kg]
  rw[ae4];have s4:=s3.trans (aC.upd (o:=.lst ((eps.take 3).map V.int)) n2);have api:p1≠p2:=(bO n2).1.symm;refine⟨p1,p2,_,_,Z,Z,by rw[aF api,aq],aq,by rw[aE];simp;lia,λp3 n3=>?_⟩;have s5:=s4.trans (aC.upd (o:=.lst ([V.int (QY f aS eps x)]++(eps.take 3).map V.int)) n3);have n3H:H p3=none:=s2.free (s4.free n3);have n3a:p3≠a:=bZ ha n3H;refine⟨_,Z,Z,s5 _ _ Bc,T.iG,Z,Z,tH [("cut",.int f.cut),("lowest",.int (kn f)),("highest",.int (jO f)),("shape",.ref sh),("errors",.ref p3)],_,Z,?_⟩;rw[hy];exact k _ p3 ((s2.trans s5).chg.d_ (by simp)) aq (by rw[aF n3a,aq];simp) n3H
abbrev LnO (t:fP)(dx:lQ)(fv:V)(fl el:lQ):HO:=.ins t.eB dx [("frame",fv),("filters",.ref fl),("errors",.ref el)]
inductive aef (t:fP)(vs:b_)(H:Hp)(Q:VK)(E:XK):Prop|i(x dx:lQ)(fv:V)(f:bN)(F:Hp)(_:vs=[.ref x,fv])(_:H x=some (.ins t.eB dx []))(_:aC F H)(_:F x=none)(_:Gz t f fv F)(_:Mx.FG f)(_:∀(H':Hp) (fl el:lQ) (jS:b_) (Gs:Nat->Hp),dE [x] H H'->H' x=some (LnO t dx fv fl el)->H' fl=some (.lst jS)->H' el=some (.lst (aM f.rows.length (.ref t.iV)))->H fl=none->H el=none->jS.length=f.rows.length->(∀i,aC (Gs i) (nw H H'))->(∀i,Gs i fl=none/\Gs i el=none)->(∀i j,i≠j->Apart (Gs i) (Gs j))->(∀(i:Nat) rw v,f.rows[i]? =some rw->jS[i]? =some v->J8 t F (Gs i) rw (mC rw) v)->Q .gQ H')
def sW:T.m_.Ok P w mg rZ jf 5 (aef t):=by
 refine T.m_.ok λnd H vs Q E hr h=>?_;obtain⟨x,dx,fv,f,F,rfl,hx,sF,nFx,⟨fa,dfa,wv,rfl,JR,⟨wa,dw,ra,ja,kT,rfl,WJ,qm,pr,Qz⟩⟩,g,k⟩:=h;have r4:=g.r4;have rl:f.rows.length=kT.length:=dR pr;refine .i (ao (kh (pv 0) (pv 1))
   (ao (kh (pv 0) (GO [("row_way",2)] nd (fB (cO (cO (pv 1)))) (mv 2 nd) (JW T.Eu T.Ct T.my (tX T) hr bG (ak (pv 2) ax))))
   (aH (kh (pv 0) (GO [("row_way",2)] nd (fB (cO (cO (pv 1)))) (mv 2 nd) (tZ (v:=V.ref t.iV) rfl T.EJ rfl)))))) ?_
 refine⟨_,Z,_,Z,Z,hx,T.fS,Z,Z,tH [("frame",.ref fa)],?_⟩;have c1:dE [x] H (upd H x (.ins t.eB dx [("frame",.ref fa)])):=dE.refl.d_ (by simp);have x1:upd H x (.ins t.eB dx [("frame",.ref fa)]) x=some (.ins t.eB dx [("frame",.ref fa)]):=aq;generalize upd H x (.ins t.eB dx [("frame",.ref fa)])=H1 at c1 x1|-
 have F1:aC F H1:=λy o e=>c1.one (sF _ _ e) (aI e nFx);refine⟨_,Z,Z,F1 _ _ JR,T.dA,Z,Z,Z,F1 _ _ WJ,T.xC,Z,Z,ra,Z,⟨kT,i2 (F1 _ _ qm)⟩,λD hD=>?_⟩;refine CC f.rows (λrw v G=>J8 t F G rw (mC rw) v) hD (by rw[aE];lia) (i2 (F1 _ _ qm)) rl (λi rw u H4 Q4 hs hu El k4=>?_) λH4 ys Gs El eD yl z1 z2 z3=>?_
 .obtain⟨v,hv,rA⟩:=zh pr hs;rw[hu] at hv;cases hv;exact⟨Z,_,Z,λb db m1 m2 m3=>Uh (F1.trans El) rA (g.lS rw (az hs)) m1 m2 λH5 s5 h5=>⟨Z,k4 _ _ s5 h5⟩⟩
 .have nD:H D=none:=fU c1 x1 hD;have nDx:D≠x:=bZ hx nD;refine⟨_,Z,Z,El _ _ x1,T.fS,Z,Z,tH [("frame",.ref fa),("filters",.ref D)],?_⟩;have c5:dE [x] H (upd H4 x (.ins t.eB dx [("frame",.ref fa),("filters",.ref D)])):=(c1.trans El.chg).d_ (by simp);have x5:upd H4 x (.ins t.eB dx [("frame",.ref fa),("filters",.ref D)]) x=some (.ins t.eB dx [("frame",.ref fa),("filters",.ref D)]):=aq;have e5:upd H4 x (.ins t.eB dx [("frame",.ref fa),("filters",.ref D)]) D=some (.lst ys):=by rw[aF nDx];exact eD
  have gs5:∀i,aC (Gs i) (nw H (upd H4 x (.ins t.eB dx [("frame",.ref fa),("filters",.ref D)]))):=λi y o e=>by
   obtain⟨q1,q2⟩:=aT.mp (z1 i _ _ e);have q3:=fU c1 x1 (bO q1).2;exact aT.mpr ⟨q3,by rw[aF (bZ hx q3)];exact q2⟩
  have gD:∀i,Gs i D=none:=λi=>by
   cases e:Gs i D with
   |none=>rfl
   |some o=>exact absurd rfl (bO (aT.mp (z1 i _ _ e)).1).1
  generalize upd H4 x (.ins t.eB dx [("frame",.ref fa),("filters",.ref D)])=H5 at c5 x5 e5 gs5|-
  have F5:aC F H5:=λy o e=>c5.one (sF _ _ e) (aI e nFx);refine⟨_,Z,Z,F5 _ _ JR,T.dA,Z,Z,Z,F5 _ _ WJ,T.xC,Z,Z,ra,Z,⟨kT,i2 (F5 _ _ qm)⟩,λL hL=>?_⟩;refine nt (ys:=aM f.rows.length (.ref t.iV)) hL (by rw[aE];simp;lia) (i2 (F5 _ _ qm)) (by simp;lia) (λi u y H6 Q6 hu hy sm6 k6=>?_) λH6 e6 s6=>?_
  .have:y=.ref t.iV:=(fb.mp (az hy)).2;subst this;exact⟨Z,k6 _ (aC.refl _)⟩
  .have nL:H L=none:=fU c5 x5 hL;have nLx:L≠x:=bZ hx nL;refine⟨_,Z,Z,s6 _ _ x5,T.fS,Z,Z,tH [("frame",.ref fa),("filters",.ref D),("errors",.ref L)],?_⟩;refine k _ D L ys Gs ((c5.trans s6.chg).d_ (by simp)) aq (by rw[aF nDx];exact s6 _ _ e5) (by rw[aF nLx];exact e6) nD nL yl (λi y o e=>?_) (λi=>⟨gD i,?_⟩) z2 z3
   .obtain⟨q1,q2⟩:=aT.mp (gs5 i _ _ e);exact aT.mpr ⟨q1,by rw[aF (bZ hx q1)];exact s6 _ _ q2⟩
   .cases e:Gs i L with
    |none=>rfl
    |some o=>rw[(aT.mp (gs5 i _ _ e)).2] at hL;cases hL
structure LnS (t:fP)(K:au)(F H H':Hp)(st:aW)(a dx:lQ)(fv:V)(fl el:lQ)(jS xZ:b_)(Gs:Nat->Hp):Prop where
 ob:H' a=some (LnO t dx fv fl el)
 na:H a=none
 hf:H' fl=some (.lst jS)
 nf:H fl=none
 he:H' el=some (.lst xZ)
 ne:H el=none
 fr:Gz t st.form fv F
 fg:Mx.FG st.form
 l1:st.form.rows.length=jS.length
 l2:st.rows.length=jS.length
 l3:xZ.length=jS.length
 gs:∀i,aC (Gs i) (nw H H')
 ga:∀i,Gs i a=none
 gf:∀i,Gs i fl=none
 ge:∀i,Gs i el=none
 ap:∀i j,i≠j->Apart (Gs i) (Gs j)
 af:∀i,Apart F (Gs i)
 at_:∀(i:Nat) rw l v,st.form.rows[i]? =some rw->st.rows[i]? =some l->jS[i]? =some v->J8 t F (Gs i) rw l v/\Hg rw l
 er:∀(i:Nat) l e,st.rows[i]? =some l->xZ[i]? =some e->ErA K l.eps e F
 fa:F a=none
 fH:aC F H'
def Oj (s:aC F H)(g:aC G (nw H H')):Apart F G:=λb=>by
 cases e:F b with
 |none=>exact .inl rfl
 |some o=>
  refine .inr (g.free ?_);unfold nw;rw[s _ _ e];rfl
inductive UK (t:fP)(K:au)(F H H':Hp)(st:aW)(v:V):Prop|i(a dx:lQ)(fv:V)(fl el:lQ)(jS xZ:b_)(Gs:Nat->Hp)(_:v=.ref a)(_:LnS t K F H H' st a dx fv fl el jS xZ Gs)
def M9 (T:Txt K mg t)(hF:aC F H)(hr:Gz t f fv F)(g:Mx.FG f)(n1:H x=none)(n2:H dx=none)(k:∀H',aC H H'->UK t K F H H' (km f) (.ref x)->Q .gQ H'):
  aef t [.ref x,fv] (upd (upd H dx (.own x)) x (.ins t.eB dx [])) Q E:=by
 have s1:aC H (upd (upd H dx (.own x)) x (.ins t.eB dx [])):=gA n1 n2;refine⟨x,dx,fv,f,F,Z,aq,hF.trans s1,hF.free n1,hr,g,λH' fl el jS Gs c hx hf he nf ne fl' gs nn ap st=>k _ (dE.back s1 c (by intro y hy;rw[show y=x from by simpa using hy];exact n1)) ⟨x,dx,fv,fl,el,jS,_,Gs,Z,hx,n1,hf,s1.free nf,he,s1.free ne,hr,g,fl'.symm,?_,?_,λi=>(gs i).trans (o9 s1),λi=>?_,λi=>(nn i).1,λi=>(nn i).2,ap,λi=>Oj hF ((gs i).trans (o9 s1)),λi rw l v h1 h2 h3=>?_,λi l e h1 h2=>?_,hF.free n1,λb o e=>c.one (s1 _ _ (hF _ _ e)) (aI e (hF.free n1))⟩⟩
 .show(f.rows.map mC).length=_;rw[aB];exact fl'.symm
 .rw[ib];exact fl'.symm
 .cases e:Gs i x with
  |none=>rfl
  |some o=>have:=(aT.mp (gs i _ _ e)).1;rw[aq] at this;cases this
 .have RE:f.rows[i]? =some rw:=h1;have h2':(f.rows.map mC)[i]? =some l:=h2;rw[aw,RE] at h2';cases h2';exact⟨st i rw v RE h3,g.lS rw (az RE),lH.new (g.lS rw (az RE))⟩
 .have RE:(f.rows.map mC)[i]? =some l:=h1;rw[aw] at RE;cases hq:f.rows[i]? with
  |none=>rw[hq] at RE;cases RE
  |some rw=>
   rw[hq] at RE;cases RE;have:e=.ref t.iV:=(fb.mp (az h2)).2;exact⟨_,this,.inr (T.Fh F)⟩
def UK.back (h:UK t K F H1 H2 st v)(s:aC H H1):UK t K F H H2 st v:=by
 obtain⟨a,dx,fv,fl,el,jS,xZ,Gs,e,z⟩:=h;exact⟨a,dx,fv,fl,el,jS,xZ,Gs,e,z.ob,s.free z.na,z.hf,s.free z.nf,z.he,s.free z.ne,z.fr,z.fg,z.l1,z.l2,z.l3,λi=>(z.gs i).trans (o9 s),z.ga,z.gf,z.ge,z.ap,z.af,z.at_,z.er,z.fa,z.fH⟩
structure LpS (t:fP)(K:au)(N:Hp)(st:aW)(a dx:lQ)(fv:V)(fl el:lQ)(jS xZ:b_):Prop where
 ob:N a=some (LnO t dx fv fl el)
 hf:N fl=some (.lst jS)
 he:N el=some (.lst xZ)
 fr:Gz t st.form fv N
 fg:Mx.FG st.form
 l1:st.form.rows.length=jS.length
 l2:st.rows.length=jS.length
 l3:xZ.length=jS.length
 at_:∀(i:Nat) rw l v,st.form.rows[i]? =some rw->st.rows[i]? =some l->jS[i]? =some v->J8 t N N rw l v/\Hg rw l
 er:∀(i:Nat) l e,st.rows[i]? =some l->xZ[i]? =some e->ErA K l.eps e N
inductive LnP (t:fP)(K:au)(N:Hp)(st:aW)(v:V):Prop|i(a dx:lQ)(fv:V)(fl el:lQ)(jS xZ:b_)(_:v=.ref a)(_:LpS t K N st a dx fv fl el jS xZ)
def LnP.same {N':Hp}(h:LnP t K N st v)(s:aC N N'):LnP t K N' st v:=by
 obtain⟨a,dx,fv,fl,el,jS,xZ,e,z⟩:=h;exact⟨a,dx,fv,fl,el,jS,xZ,e,s _ _ z.ob,s _ _ z.hf,s _ _ z.he,z.fr.same s,z.fg,z.l1,z.l2,z.l3,λi rw l v h1 h2 h3=>⟨(z.at_ i rw l v h1 h2 h3).1.same s s,(z.at_ i rw l v h1 h2 h3).2⟩,λi l e h1 h2=>(z.er i l e h1 h2).same s⟩
inductive acP (K:au)(t:fP)(vs:b_)(H:Hp)(Q:VK)(E:XK):Prop|i(v:V)(st:aW)(N:Hp)(_:vs=[v])(_:aC N H)(_:LnP t K N st v)(_:∀v' H',aC H H'->UK t K N H H' st v'->Q v' H')
def yA:T.p_.Ok P w mg rZ jf 7 (acP K t):=by
 refine T.p_.ok λnd H vs Q E hr h=>?_;obtain⟨v,st,N,rfl,sN,⟨a,dx,fv,fl,el,jS,xZ,rfl,z⟩,k⟩:=h;have HA:=sN _ _ z.ob;have r4:=z.fg.r4;have WB:=z.l1;have RH:=z.l2;have hl3:=z.l3;refine .i (ao (fL 1 nd (JW T.G4 T.DY T.m_ (sW T) hr bG (ak (cO (pv 0)) ax)))
   (ao (kh (pv 1) (GO [("row_filter",2)] nd (fB (cO (pv 0))) (mv 2 nd) (Fe (pv 2) T.dk T.pS (CK T) hr bG)))
   (ao (kh (pv 1) (sk mD rfl T.D8 Gu (ak (cO (pv 0)) ax)))
   (aH (bz (pv 1)))))) ?_
 refine⟨_,Z,Z,HA,T.fS,Z,Z,λb db0 m1 m2 m3=>M9 T sN z.fr z.fg m1 m2 λH1 s1 h1=>⟨Z,?_⟩⟩;obtain⟨b',db,fv',fl',Rl,auF,Vb,JK,eb,z'⟩:=h1;cases eb;have nb:=z'.na;have MR:=z'.ob;refine⟨_,Z,Z,s1 _ _ HA,T.fS,Z,Z,fl,Z,⟨jS,i2 (s1 _ _ (sN _ _ z.hf))⟩,λD hD=>?_⟩;refine CC (st.form.rows.zip st.rows) (λp v G'=>J8 t N G' p.1 p.2 v) hD (by rw[aE];simp;lia) (i2 (s1 _ _ (sN _ _ z.hf))) (by simp;lia) (λi p u H4 Q4 hs hu El k4=>?_) λH4 ys Gn El eD yl z1 z2 z3=>?_
 .have hp:=hG.mp hs;obtain⟨rA,rg⟩:=z.at_ i p.1 p.2 u hp.1 hp.2 hu;obtain⟨a1,d1,rv1,b1,s1',v1,g1,rfl,zz⟩:=id rA;have N4:aC N H4:=sN.trans (s1.trans El);exact⟨Z,_,Z,a1,_,_,Z,N4 _ _ zz.ob,Z,_,p.1,p.2,N,N,Z,N4,N4,rA,rg,λv' H5 s5 h5=>k4 v' H5 s5 h5⟩
 .have apY:aC H H4:=s1.trans El;have nD:H D=none:=s1.free hD;have nDb:D≠b:=bZ MR hD;refine⟨_,Z,Z,El _ _ MR,T.fS,Z,Z,tH [("frame",fv'),("filters",.ref D),("errors",.ref Rl)],?_⟩;have c5:dE [b] H4 (upd H4 b (.ins t.eB db [("frame",fv'),("filters",.ref D),("errors",.ref Rl)])):=dE.refl.d_ (by simp);have x5:upd H4 b (.ins t.eB db [("frame",fv'),("filters",.ref D),("errors",.ref Rl)]) b=some (.ins t.eB db [("frame",fv'),("filters",.ref D),("errors",.ref Rl)]):=aq;have e5:upd H4 b (.ins t.eB db [("frame",fv'),("filters",.ref D),("errors",.ref Rl)]) D=some (.lst ys):=by rw[aF nDb];exact eD
  have gs5:∀i,aC (Gn i) (nw H (upd H4 b (.ins t.eB db [("frame",fv'),("filters",.ref D),("errors",.ref Rl)]))):=λi y o e=>by
   obtain⟨q1,q2⟩:=aT.mp (z1 i _ _ e);have q3:=(bO q1).2;exact aT.mpr ⟨s1.free q3,by rw[aF (bZ MR q3)];exact q2⟩
  have gb:∀i,Gn i b=none:=λi=>by
   cases e:Gn i b with
   |none=>rfl
   |some o=>have:=(bO (aT.mp (z1 i _ _ e)).1).2;rw[MR] at this;cases this
  have gD:∀i,Gn i D=none:=λi=>by
   cases e:Gn i D with
   |none=>rfl
   |some o=>exact absurd rfl (bO (aT.mp (z1 i _ _ e)).1).1
  generalize upd H4 b (.ins t.eB db [("frame",fv'),("filters",.ref D),("errors",.ref Rl)])=H5 at c5 x5 e5 gs5|-
  have NC:aC H H5:=dE.back apY c5 (by intro y hy;rw[show y=b from by simpa using hy];exact nb);refine⟨_,Z,Z,NC _ _ HA,T.fS,Z,Z,el,_,Z,i3 (NC _ _ (sN _ _ z.he)),λL hL=>?_⟩;have s6:aC H5 (upd H5 L (.lst xZ)):=aC.upd hL;have nL:H L=none:=NC.free hL;have nLb:L≠b:=bZ x5 hL;refine⟨_,Z,Z,s6 _ _ x5,T.fS,Z,Z,tH [("frame",fv'),("filters",.ref D),("errors",.ref L)],_,Z,?_⟩;have smF:aC H (upd (upd H5 L (.lst xZ)) b (.ins t.eB db [("frame",fv'),("filters",.ref D),("errors",.ref L)])):=λy o e=>by rw[aF (aI e nb)];exact s6 _ _ (NC _ _ e)
  refine k _ _ smF ⟨b,db,fv',D,L,ys,xZ,Gn,Z,aq,nb,by rw[aF nDb];exact s6 _ _ e5,nD,by rw[aF nLb,aq],nL,z'.fr,z.fg,by rw[yl];simp;lia,by rw[yl];simp;lia,by rw[yl];simp;lia,λi y o e=>?_,gb,gD,λi=>?_,z2,λi=>Oj sN (gs5 i),λi rw l v h1 h2 h3=>⟨z3 i (rw,l) v (hG.mpr ⟨h1,h2⟩) h3,?_⟩,z.er,sN.free nb,sN.trans smF⟩
  .obtain⟨q1,q2⟩:=aT.mp (gs5 i _ _ e);exact aT.mpr ⟨q1,by rw[aF (aI e (gb i))];exact s6 _ _ q2⟩
  .cases e:Gn i L with
   |none=>rfl
   |some o=>rw[(aT.mp (gs5 i _ _ e)).2] at hL;cases hL
  .obtain⟨v0,hv0⟩:∃v0,jS[i]? =some v0:=⟨_,aD (by have:=(aN.mp h2).1;lia)⟩;exact(z.at_ i rw l v0 h1 h2 hv0).2
theorem MD:∀l:bX,GY K H (l.map V.int) (l.map PyData.int)
 |[]=>.nil
 |a::r=>.cons (.int a) (MD r)
theorem OT:∀l m:bX,PyData.eqvAll (l.map PyData.int) (m.map PyData.int)=decide (l=m)
 |[],[]=>rfl
 |[],b::m=>rfl
 |a::l,[]=>rfl
 |a::l,b::m=>by
  have ih:=OT l m;show(PyData.eqv (.int a) (.int b)&&PyData.eqvAll (l.map PyData.int) (m.map PyData.int))=_;rw[ih];show((a==b)&&decide (l=m))=_;by_cases h1:a=b<;>by_cases h2:l=m<;>simp[h1,h2]
theorem lay_ints:∀l:bX,PyData.canLayAll0 (l.map PyData.int)=true
 |[]=>rfl
 |a::r=>by show(true&&PyData.canLayAll0 (r.map PyData.int))=true;rw[lay_ints r];rfl
theorem HJ:∀l:bX,PyData.depthAll (l.map PyData.int)=0
 |[]=>rfl
 |a::r=>by show max 0 (PyData.depthAll (r.map PyData.int))=0;rw[HJ r];rfl
def shaped_ints (l:bX):SeqAt.shaped (.list (l.map PyData.int))=true:=by
 unfold SeqAt.shaped;show(PyData.canLayAll0 (l.map PyData.int)&&decide (PyData.depthAll (l.map PyData.int)+1<=64))=true;rw[lay_ints,HJ];rfl
inductive acE (t:fP)(vs:b_)(H:Hp)(Q:VK)(E:XK):Prop|i(v v':V)(f f':bN)(_:vs=[v,v'])(_:Gz t f v H)(_:Gz t f' v' H)(_:Mx.FG f)(_:Mx.FG f')(_:∀H',aC H H'->Q (.bl (cC f f')) H')
def Ee:T.qU.Ok P w mg rZ jf 5 (acE t):=by
 refine T.qU.ok λnd H vs Q E hr h=>?_;obtain⟨v,v',f,f',rfl,⟨a,da,wv,rfl,ha,hw⟩,⟨b,db,wv',rfl,hb,hw'⟩,g,g',k⟩:=h;refine .i (ao (gj (PW.pt (yK (rb Aw (cO (pv 0)) (cO (pv 1))) (yK (rb Aw (cO (pv 0)) (cO (pv 1))) (yL (rb Aw (cO (pv 0)) (cO (pv 1))))))) (aH (bz Y2)) cQ)
   (aH (bz (T_ (af6 hr.units) (ko T.vI (E_ T) hr bG (ak (cO (pv 0)) ax)) (ko T.vI (E_ T) hr bG (ak (cO (pv 1)) ax)) (RV _))))) ?_
 have no:∀(c:Bool),c=false->cC f f'=c->Q (.bl false) H:=λc e1 e2=>by
  have:=k H (aC.refl _);rw[e2,e1] at this;exact this
 have st:=VP g g';refine⟨_,Z,Z,ha,T.dA,Z,Z,_,Z,Z,hb,T.dA,Z,Z,Z,_,Z,?_⟩;rw[B_];by_cases h1:f.bits=f'.bits
 .rw[ae (by simp only[ne_eq,tT];lia)];refine fK ⟨_,Z,Z,ha,T.dA,Z,Z,_,Z,Z,hb,T.dA,Z,Z,Z,_,Z,?_⟩;rw[B_];by_cases h2:f.cut=f'.cut
  .rw[ae (by simp only[ne_eq,tT];lia)];refine fK ⟨_,Z,Z,ha,T.dA,Z,Z,_,Z,Z,hb,T.dA,Z,Z,Z,_,Z,?_⟩;rw[B_];by_cases h3:f.lanes=f'.lanes
   .rw[ae (by simp only[ne_eq,tT];lia)];refine fK ⟨_,Z,Z,ha,T.dA,Z,Z,(f.rows,f.joint),wv,Z,hw,agX g,λH1 p1 s1 e1 n1=>?_⟩;refine⟨_,Z,Z,s1 _ _ hb,T.dA,Z,Z,(f'.rows,f'.joint),wv',Z,hw'.same s1,agX g',λH2 p2 s2 e2 n2=>?_⟩;refine⟨.list ((t8 mQ (f.rows,f.joint)).map PyData.int),.list ((t8 mQ (f'.rows,f'.joint)).map PyData.int),.lst (i2 (s2 _ _ e1)) (MD _),.lst (i2 e2) (MD _),shaped_ints _,shaped_ints _,?_⟩
    .have e:PyData.eqv (.list ((t8 mQ (f.rows,f.joint)).map PyData.int)) (.list ((t8 mQ (f'.rows,f'.joint)).map PyData.int))=cC f f':=by
      show PyData.eqvAll _ _=_;rw[OT];cases hq:cC f f' with
      |true=>exact ag (st.mp hq).2.2.2
      |false=>
       refine ae λhh=>?_;rw[st.mpr ⟨h1,h2,h3,hh⟩] at hq;cases hq
     rw[e];exact k H2 (s1.trans s2)
   .rw[ag (by show¬_;lia)];refine eY ?_;exact no _ rfl (by cases hq:cC f f' with|false=>rfl|true=>exact absurd (st.mp hq).2.2.1 h3)
  .rw[ag (by show¬_;lia)];refine eY (eY ?_);exact no _ rfl (by cases hq:cC f f' with|false=>rfl|true=>exact absurd (st.mp hq).2.1 h2)
 .rw[ag (by show¬_;lia)];refine eY (eY ?_);exact no _ rfl (by cases hq:cC f f' with|false=>rfl|true=>exact absurd (st.mp hq).1 h1)
def LvA (t:fP)(K:au)(N:Hp)(s:Option aW)(v:V):Prop:=match s with
 |none=>v=.gQ
 |some st=>LnP t K N st v
inductive Qi (K:au)(t:fP)(vs:b_)(H:Hp)(Q:VK)(E:XK):Prop|i(lv av:V)(so:Option aW)(N F:Hp)(fA:Int)(f:bN)(fv:V)(aS:bX)(xs:ly)(_:vs=[lv,av])(_:aC N H)(_:aC F H)(_:LvA t K N so lv)(_:AsA t fA f fv aS xs av H)(_:Gz t f fv F)(_:Mx.FG f)(_:fA=1->∀v H',aC H H'->UK t K F H H' (km f) v->Q v H')(_:fA≠1->match so with|none=>S6 t.eM E [] H|some st=>(cC st.form f=false->S6 t.eM E [] H)/\(cC st.form f=true->∀v H',aC H H'->UK t K N H H' st v->Q v H'))
def sX:T.lF.Ok P w mg rZ (tN P w t.bI) 8 (Qi K t):=by
 refine T.lF.xA λnd H vs Q E hr h=>?_;obtain⟨lv,av,so,N,F,fA,f,fv,aS,xs,rfl,sN,sF,Yg,⟨a,dx,sa,ra,vs,rfl,ha,NX,_⟩,hfF,g,k1,k2⟩:=h;refine .i (ao (gj (rb lp (cO (pv 1)) aJ) (aH (bz (JW T.G4 T.DY T.m_ (sW T) hr bG (ak (cO (pv 1)) ax)))) cQ)
   (ao (gj (PW.pt (yK (Sa (Y0 (pv 0))) (yL (Nq (Bo (ko T.qU (Ee T) hr bG (ak (cO (pv 0)) (ak (cO (pv 1)) ax)))))))) (aH (vi aY rfl T.oo T.wq rfl T.rR)) cQ)
   (aH (bz (Fe (pv 0) T.fS T.p_ (yA T) hr bG))))) ?_
 refine⟨_,Z,Z,ha,T.jz,Z,Z,Z,_,Z,?_⟩;rw[n_];by_cases hk:fA=1
 .rw[ag hk];refine eY ⟨_,Z,Z,ha,T.jz,Z,Z,λb db m1 m2 m3=>M9 T sF hfF g m1 m2 λH1 s1 h1=>⟨Z,k1 hk _ _ s1 h1⟩⟩
 .rw[ae hk];have k2:=k2 hk;refine fK ⟨_,Z,?_⟩;cases so with
  |none=>
   have e:lv=.gQ:=Yg;subst e;exact⟨_,Z,eY (eY λH' s'=>k2 H' s'.chg)⟩
  |some st=>
   obtain⟨b,db,fv2,fl,el,jS,xZ,rfl,z⟩:=id Yg;refine⟨_,Z,fK ?_⟩;refine⟨_,Z,Z,sN _ _ z.ob,T.fS,Z,Z,_,Z,Z,ha,T.jz,Z,Z,fv2,fv,st.form,f,Z,z.fr.same sN,NX,z.fg,g,λH1 s1=>⟨_,Z,?_⟩⟩;cases hq:cC st.form f with
   |false=>exact eY λH' s'=>k2.1 hq H' (s1.trans s').chg
   |true=>exact fK ⟨_,Z,b,_,_,Z,s1 _ _ (sN _ _ z.ob),Z,.ref b,st,N,Z,sN.trans s1,Yg,λv H2 s2 h2=>k2.2 hq v H2 (s1.trans s2) (h2.back s1)⟩
def L6 (h:rB)(rj:List bL×List Nat):bN:=⟨h.bits.toNat,h.cut.toNat,h.lanes.toNat,rj.1,rj.2⟩
def QL (st:aW)(h:rB):Prop:=(st.form.rows.length:Int)=h.rows/\(st.form.bits:Int)=h.bits/\(st.form.cut:Int)=h.cut/\(st.form.lanes:Int)=h.lanes
inductive Qj (K:au)(t:fP)(vs:b_)(H:Hp)(Q:VK)(E:XK):Prop|i(lv hv:V)(so:Option aW)(N F:Hp)(h:rB)(_:vs=[lv,hv])(_:aC N H)(_:aC F H)(_:LvA t K N so lv)(_:HdA t h hv F)(_:0<=h.bits)(_:0<=h.cut)(_:0<=h.lanes)(_:h.key=1->∃rj,h.way=some rj/\Mx.FG (L6 h rj)/\∀v H' F',aC H H'->aC F' (vp F (nw H H'))->UK t K F' H H' (km (L6 h rj)) v->Q v H')(_:h.key≠1->match so with|none=>S6 t.eM E [] H|some st=>(¬QL st h->S6 t.eM E [] H)/\(QL st h->∀v H',aC H H'->UK t K N H H' st v->Q v H'))
def CM:T.pU.Ok P w mg rZ (tN P w t.bI) 8 (Qj K t):=by
 refine T.pU.xA λnd H vs Q E hr h=>?_;obtain⟨lv,hv,so,N,F,h,rfl,sN,sF,Yg,⟨a,dx,wv,rfl,ha,hw⟩,p1,p2,p3,k1,k2⟩:=h;have HA:=sF _ _ ha;refine .i (ao (gj (rb lp (cO (pv 1)) aJ) (aH (bz (JW T.G4 T.DY T.m_ (sW T) hr bG (ak (JW T.S5 T.O5 T.rL (Ar T) hr bG (ak (cO (pv 1)) (ak (cO (pv 1)) (ak (cO (pv 1)) (ak (cO (pv 1)) ax))))) ax)))) cQ)
   (ao (gj (PW.pt (yK (Sa (Y0 (pv 0))) (yL (rb Aw (Bn T.i_ (ak (cO (cO (cO (pv 0)))) ax)) (cO (pv 1)))))) (aH (vi aY rfl T.oo T.wq rfl T.rR)) cQ)
   (ao (fL 2 nd (cO (pv 0)))
   (ao (gj (PW.pt (yK (rb Aw (cO (pv 2)) (cO (pv 1))) (yK (rb Aw (cO (pv 2)) (cO (pv 1))) (yL (rb Aw (cO (pv 2)) (cO (pv 1))))))) (aH (vi aY rfl T.oo T.wq rfl T.rR)) cQ)
   (aH (bz (Fe (pv 0) T.fS T.p_ (yA T) hr bG))))))) ?_
 refine⟨_,Z,Z,HA,T.dS,Z,Z,Z,_,Z,?_⟩;rw[n_];by_cases hk:h.key=1
 .rw[ag hk];obtain⟨rj,hrj,g,k1⟩:=k1 hk;rw[hrj] at hw;refine eY ⟨_,Z,Z,HA,T.dS,Z,Z,_,Z,Z,HA,T.dS,Z,Z,_,Z,Z,HA,T.dS,Z,Z,_,Z,Z,HA,T.dS,Z,Z,λx sR n1 n2 n3=>⟨x,sR,[.int h.bits,.int h.cut,.int h.lanes,wv],Z,Z,aq,Z,?_⟩⟩;rw[eG];have s1:aC H (upd (upd H sR (.own x)) x (.ins t.o5 sR (IG ["bits","cut","lanes","way"] [.int h.bits,.int h.cut,.int h.lanes,wv]))):=gA n1 n2;have fr:Gz t (L6 h rj) (.ref x) (vp F (nw H (upd (upd H sR (.own x)) x (.ins t.o5 sR (IG ["bits","cut","lanes","way"] [.int h.bits,.int h.cut,.int h.lanes,wv]))))):=by
   refine⟨x,sR,wv,Z,ZZ sF _ _ (aT.mpr ⟨n1,?_⟩),Ww.same hw Fm⟩;rw[aq];show _=some (HO.ins t.o5 sR [("bits",.int (h.bits.toNat:Int)),("cut",.int (h.cut.toNat:Int)),("lanes",.int (h.lanes.toNat:Int)),("way",wv)]);rw[cV p1,cV p2,cV p3];rfl
  intro b db m1 m2 m3;refine M9 T (JC (sF.trans s1) iK) fr g m1 m2 λH2 s2 h2=>⟨Z,k1 _ H2 _ (s1.trans s2) (JD (wu s2)) (h2.back s1)⟩
 .rw[ae hk];have k2:=k2 hk;refine fK ⟨_,Z,?_⟩;cases so with
  |none=>
   have e:lv=.gQ:=Yg;subst e;exact⟨_,Z,eY (eY λH' s'=>k2 H' s'.chg)⟩
  |some st=>
   obtain⟨b,db,fv2,fl,el,jS,xZ,rfl,z⟩:=id Yg;obtain⟨fa,dfa,wv2,rfl,JR,⟨wa,dw,ra,ja,kT,rfl,WJ,qm,pr,Qz⟩⟩:=z.fr;have rl:kT.length=st.form.rows.length:=(dR pr).symm;refine⟨_,Z,fK ?_⟩;refine⟨_,Z,Z,sN _ _ z.ob,T.fS,Z,Z,Z,sN _ _ JR,T.dA,Z,Z,Z,sN _ _ WJ,T.xC,Z,Z,ra,_,Z,i3 (sN _ _ qm),_,Z,Z,HA,T.dS,Z,Z,Z,_,Z,?_⟩;rw[B_,rl];by_cases q1:(st.form.rows.length:Int)=h.rows
   .rw[ae (by simpa using q1)];refine fK ⟨_,Z,Z,sN _ _ z.ob,T.fS,Z,Z,?_⟩;refine⟨_,Z,Z,sN _ _ JR,T.dA,Z,Z,_,Z,Z,HA,T.dS,Z,Z,Z,_,Z,?_⟩;rw[B_];by_cases q2:(st.form.bits:Int)=h.bits
    .rw[ae (by simpa using q2)];refine fK ⟨_,Z,Z,sN _ _ JR,T.dA,Z,Z,_,Z,Z,HA,T.dS,Z,Z,Z,_,Z,?_⟩;rw[B_];by_cases q3:(st.form.cut:Int)=h.cut
     .rw[ae (by simpa using q3)];refine fK ⟨_,Z,Z,sN _ _ JR,T.dA,Z,Z,_,Z,Z,HA,T.dS,Z,Z,Z,_,Z,?_⟩;rw[B_];by_cases q4:(st.form.lanes:Int)=h.lanes
      .rw[ae (by simpa using q4)];exact fK ⟨_,Z,b,_,_,Z,sN _ _ z.ob,Z,.ref b,st,N,Z,sN,Yg,λv H2 s2 h2=>k2.2 ⟨q1,q2,q3,q4⟩ v H2 s2 h2⟩
      .rw[ag q4];exact eY λH' s'=>k2.1 (λu=>q4 u.2.2.2) H' s'.chg
     .rw[ag q3];exact eY (eY λH' s'=>k2.1 (λu=>q3 u.2.2.1) H' s'.chg)
    .rw[ag q2];exact eY (eY λH' s'=>k2.1 (λu=>q2 u.2.1) H' s'.chg)
   .rw[ag q1];exact eY λH' s'=>k2.1 (λu=>q1 u.1) H' s'.chg
inductive Zo (vs:b_)(H:Hp)(Q:VK)(E:XK):Prop|i(ra:lQ)(kT:b_)(xs:ly)(_:vs=[.ref ra])(_:H ra=some (.lst kT))(_:Paired (λx v=>IsL x v H) xs kT)(_:xs.flatten.length<=100000)(_:NL H Q xs.flatten)
def Kv (xs:ly)(i:Nat):(xs.take i).flatten.length<=xs.flatten.length:=by
 have:xs.flatten=(xs.take i).flatten++(xs.drop i).flatten:=by rw[<-Ds,qW]
 rw[this,aO];lia
def pQ:T.jE.Ok P w mg rZ jf 1 Zo:=by
 refine T.jE.ok λnd H vs Q E hr h=>?_;obtain⟨ra,kT,xs,rfl,qm,pr,hz,k⟩:=h;refine .i (ao (fL 1 nd (eE ax))
   (ao (gX PassesOwn.never rfl (fB (pv 0)) (mv 2 nd)
    (aH (cP (Ax df dC dD mE (pv 1) (ak (pv 2) ax)))))
   (aH (bz (pv 1))))) ?_
 refine⟨by rw[aE];simp,λL hL=>?_⟩;have rl:xs.length=kT.length:=dR pr;refine⟨_,Z,ra,Z,⟨kT,i2 (by rw[aF (aI qm hL)];exact qm)⟩,?_⟩;refine qD (xs:=kT) (λi σ H'=>∃y,C3 (σ=[some (.ref ra),some (.ref L),y]) (aC H H') (H' L=some (iL (xs.take i).flatten))) ⟨none,Z,aC.upd hL,aq⟩ (λi σ H' _ ⟨_,_,sm,_⟩=>i2 (sm _ _ qm)) ?_ ?_
 .rintro i v σ H' hv ⟨y,rfl,sm,eL⟩;obtain⟨x,hx,p,rfl,hp⟩:=iR pr hv;have h1:=Kv xs (i+1);rw[Mx.take_snoc hx,Ds,aO,show[x].flatten=x from by simp] at h1;refine⟨_,Z,LS eL,_,Z,L,p,_,_,Z,Z,eL,sm _ _ hp,by rw[aE,aB,aB];lia,some (.ref p),Z,λb o e=>by rw[aF (aI e hL)];exact sm _ _ e,?_⟩;rw[aq,Mx.take_snoc hx,Ds];simp
 .rintro σ H' ⟨y,rfl,sm,eL⟩;rw[cq (by lia)] at eL;exact⟨_,Z,k H' L sm eL hL⟩
inductive acG (vs:b_)(H:Hp)(Q:VK)(E:XK):Prop|i(ra:lQ)(kT:b_)(ys:ly)(cut:Nat)(_:vs=[.ref ra,.int cut])(_:H ra=some (.lst kT))(_:Paired (λx v=>IsL x v H) ys kT)(_:ys.length<=1000)(_:∀y∈ys,y.length<=1000/\∀x∈y,Builtin.Int.intBits x<=100000)(_:cut<=100)(_:NLL H Q (ys.map λy=>y.map λx=>x*2^cut))
def As:T.rM.Ok P w mg rZ jf 1 acG:=by
 refine T.rM.ok λnd H vs Q E hr h=>?_;obtain⟨ra,kT,ys,cut,rfl,qm,pr,y1,yb,hc,k⟩:=h;refine .i (aH (bz (GO [("row",2)] nd (fB (pv 0)) (mv 2 nd) (GO [("y",3)] nd (Y7 (K:=K) rfl (pv 2)) (mv 3 nd) (aX T9 (pv 3) (pv 1)))))) ?_;have rl:ys.length=kT.length:=dR pr;refine⟨_,Z,ra,Z,⟨kT,i2 qm⟩,λD hD=>?_⟩;refine Yz (ys.map λy=>y.map λx=>x*2^cut) IsL (λx v H H' h m=>h.same m) hD (by rw[aE];simp;lia) (i2 qm) (by simp;lia) (λi z u H2 Q2 hz hu sm k2=>?_) λH' zs sm eD pz=>k H' D zs sm eD hD pz;obtain⟨y,hy,p,rfl,hp⟩:=iR pr hu;have ez:z=y.map λx=>x*2^cut:=by
  rw[aw,hy] at hz;exact(bh hz).symm
 subst ez;have yb':=yb y (az hy);refine⟨Z,_,Z,p,Z,⟨_,i2 (sm _ _ hp)⟩,λD2 hD2=>?_⟩;refine nt (ys:=(y.map λx=>x*2^cut).map V.int) hD2 (by rw[aE];simp;lia) (i2 (sm _ _ hp)) (by simp) (λj x v H3 Q3 hx hv AA k3=>?_) λH3 e3 s3=>k2 _ H3 s3 ⟨D2,Z,aT.mpr ⟨hD2,e3⟩⟩;rw[aw] at hx;rw[aw,aw] at hv;cases hq:y[j]? with
 |none=>rw[hq] at hx;cases hx
 |some q=>
  rw[hq] at hx hv;cases hx;cases hv;have hb:=yb'.2 q (az hq);exact⟨Z,_,Z,_,Z,_,_,Z,Z,⟨by lia,by lia⟩,k3 _ (aC.refl _)⟩
def Ez (cW:Nat)(xs:ly)(p:Nat):Bool:=
 decide ((xs.getD (p%xs.length) []).getD (p / xs.length) 0< -((2^(cW-1):Nat):Int))||decide (((2^(cW-1):Nat):Int)<=(xs.getD (p%xs.length) []).getD (p / xs.length) 0)
def Jf (f:bN)(xs:ly)(n:Nat):xy f xs n=(aK (n*xs.length)).find? (Ez f.bits xs):=rfl
inductive Zq (t:fP)(vs:b_)(H:Hp)(Q:VK)(E:XK):Prop|i(ra:lQ)(kT:b_)(xs:ly)(cW n:Nat)(_:vs=[.ref ra,.int cW])(_:H ra=some (.lst kT))(_:Paired (λx v=>IsL x v H) xs kT)(_:∀x∈xs,x.length=n)(_:1<=xs.length)(_:xs.length<=4)(_:n<=64)(_:1<=cW)(_:cW<=100)(_:∀q,(aK (n*xs.length)).find? (Ez cW xs)=some q->Gx t E [] H 4 (q:Nat))(_:(aK (n*xs.length)).find? (Ez cW xs)=none->∀H',aC H H'->Q .gQ H')
def IX:T.ui.Ok P w mg rZ (tN P w t.bI) 5 (Zq t):=by
 refine T.ui.xA λnd H vs Q E hr h=>?_;obtain⟨ra,kT,xs,cW,n,rfl,qm,pr,xn,R1,R4,CD,b1,b2,kE,kQ⟩:=h;refine .i (aH (gX PassesOwn.leaving rfl (jx rfl T.iA (ak (Bn T.i_ (ak (JV (pv 0) aJ) ax)) ax)) (mv 2 nd)
    (aH (gX PassesOwn.leaving rfl (GN rfl T.tW (ak (pv 0) ax)) (yG rfl (fj (mv 3 nd) (fj (mv 4 nd) ph)))
    (aH (gj (PW.pt (yK (rb Fc (JV (pv 4) (pv 2)) (ko T.j8 (pf T) hr bG (ak (pv 1) ax))) (yL (rb Jb (JV (pv 4) (pv 2)) (ko T.jC (oi T) hr bG (ak (pv 1) ax)))))) (aH (jy (ns:=["kind","place"]) aY rfl T.hU (h_ T) (hr.mono (by decide)).h T.dq.b rfl rfl T.gm (ak aJ (ak (aX dz (aX fQ (pv 2) (Bn T.i_ (ak (pv 0) ax))) (pv 3)) ax)) (by decide))) cQ)))))) ?_
 have rl:kT.length=xs.length:=(dR pr).symm;obtain⟨v0,hv0⟩:∃v0,kT[0]? =some v0:=⟨_,aD (by lia)⟩;obtain⟨x0,WK,p0,rfl,hp0⟩:=iR pr hv0;refine⟨_,Z,ra,_,_,_,Z,Z,i2 qm,at_of (j:=0) rfl hv0,p0,_,Z,i3 hp0,_,Z,by lia,by rw[aB,xn x0 (az WK)];lia,?_⟩;rw[aB,xn x0 (az WK),bF];refine r_ (λi σ H'=>X3 λy2 y3 y4=>C3 (σ=[some (.ref ra),some (.int cW),y2,y3,y4]) (aC H H') (∀p,p<i*xs.length->Ez cW xs p=false)) ⟨none,none,none,Z,aC.refl _,λp hp=>by lia⟩ ?_ ?_
 .rintro i σ H' hi ⟨y2,y3,y4,rfl,sm,oG⟩;refine⟨_,Z,ra,kT,Z,i2 (sm _ _ qm),?_⟩;refine Cr (xs:=kT) (λr σ H2=>X2 λy3 y4=>C3 (σ=[some (.ref ra),some (.int cW),some (.int (0+(i:Int))),y3,y4]) (aC H H2) (∀p,p<i*xs.length+r->Ez cW xs p=false)) ⟨y3,y4,Z,sm,by simpa using oG⟩ (λr σ H2 _ ⟨_,_,_,sm,_⟩=>i2 (sm _ _ qm)) ?_ ?_
  .rintro r σ H2 v Tt WG ⟨y3,y4,rfl,pK,TB⟩ hv nT;obtain⟨x,hx,p,rfl,hp⟩:=iR pr hv;have hrx:r<xs.length:=by lia
   have xl:=xn x (az hx);have sT:aC H2 (upd H2 Tt (.tup [.int (r:Nat),.ref p])):=aC.upd nT;have em:(i*xs.length+r)%xs.length=r:=by rw[jk,L_,n9 hrx]
   have ed:(i*xs.length+r) / xs.length=i:=by rw[jk,L9 (by lia),xI hrx,Nat.add_zero]
   have eg:(xs.getD r [])=x:=by rw[aG,hx];rfl
   have hb:Ez cW xs (i*xs.length+r)=(decide (x.getD i 0< -((2^(cW-1):Nat):Int))||decide (((2^(cW-1):Nat):Int)<=x.getD i 0)):=by
    unfold Ez;rw[em,ed,eg]
   have BF:i*xs.length+r<n*xs.length:=by
    have:(i+1)*xs.length<=n*xs.length:=iJ _ hi;rw[G7] at this;lia
   have p2:((2^(cW-1):Nat):Int)=(2:Int)^(cW-1):=by simp
   have rz:∀(h:Ez cW xs (i*xs.length+r)=true) (H3:Hp),aC H H3->[V.int 4,V.int (((i*xs.length+r:Nat):Int))].length=(["kind","place"]:mX).length/\∀dd fs H4,H4 dd=some (.ext (GB dd fs))->Given ["kind","place"] [V.int 4,V.int (((i*xs.length+r:Nat):Int))] fs->aC H3 H4->E (.ref t.cH) (some dd) H4:=λh H3 s3=>((kE _ (Mx.find_some BF h λq hq=>TB q hq)).mono s3.chg).raise;refine⟨Tt,_,Z,i2 aq,Z,_,_,Z,_,_,Z,Z,?_⟩;refine⟨_,Z,_,Z,p,_,_,_,Z,Z,i2 (sT _ _ (pK _ _ hp)),Cu (by lia),_,Z,cW,Z,b1,b2,_,_,Z,Z,_,Z,?_⟩;by_cases q1:x.getD i 0< -(2^(cW-1))
   .rw[ag q1];refine eY (eY ?_);refine⟨_,Z,_,Z,ra,_,Z,i3 (sT _ _ (pK _ _ qm)),_,_,Z,Z,.inl ⟨by lia,by lia⟩,_,Z,_,_,Z,Z,?_⟩;have e1:V.int (((0+(i:Int))*(kT.length:Int))+((r:Nat):Int))=V.int ((i*xs.length+r:Nat):Int):=by
     show V.int ((0+(i:Int))*(kT.length:Int)+(r:Int))=_;rw[rl];simp
    rw[e1];exact rz (by rw[hb,p2,ag q1];rfl) _ (pK.trans sT)
   .rw[ae q1];refine fK ⟨_,Z,_,Z,p,_,_,_,Z,Z,i2 (sT _ _ (pK _ _ hp)),Cu (by lia),_,Z,cW,Z,b1,b2,_,_,Z,Z,_,Z,?_⟩;by_cases q2:(2:Int)^(cW-1)-1<x.getD i 0
    .rw[ag q2];refine eY ?_;refine⟨_,Z,_,Z,ra,_,Z,i3 (sT _ _ (pK _ _ qm)),_,_,Z,Z,.inl ⟨by lia,by lia⟩,_,Z,_,_,Z,Z,?_⟩;have e1:V.int (((0+(i:Int))*(kT.length:Int))+((r:Nat):Int))=V.int ((i*xs.length+r:Nat):Int):=by
      show V.int ((0+(i:Int))*(kT.length:Int)+(r:Int))=_;rw[rl];simp
     rw[e1];exact rz (by rw[hb,p2,ag (show(2:Int)^(cW-1)<=x.getD i 0 by lia),Gy]) _ (pK.trans sT)
    .rw[ae q2];refine fK ⟨_,_,Z,pK.trans sT,λq hq=>?_⟩;by_cases e:q=i*xs.length+r
     .rw[e,hb,p2,ae q1,ae (by lia)];rfl
     .exact TB q (by lia)
  .rintro σ H2 ⟨y3,y4,rfl,pK,TB⟩;refine⟨_,_,_,Z,pK,λp hp=>TB p ?_⟩;rw[G7] at hp;lia
 .rintro σ H' ⟨y2,y3,y4,rfl,sm,oG⟩;exact kQ (Mx.find_none oG) H' sm
abbrev GA (t:fP)(dx ca:lQ)(p:Nat):HO:=.ins t.uw dx [("calls",.ref ca),("place",.int p)]
def Nc:T.xE.Ok P w mg rZ jf 1 (Fj t.uw (λxs=>IG ["calls","place"] (xs++[.int 0])) 1):=by
 refine T.xE.ok λnd H vs Q E hr h=>?_;obtain⟨x,dx,xs,rfl,hl,hx,k⟩:=h;obtain⟨c,rfl⟩:=Mx.lc1 hl;refine .i (ao (kh (pv 0) (pv 1))
   (aH (kh (pv 0) aJ))) ?_
 refine⟨_,Z,_,Z,Z,hx,T.ku,Z,Z,Z,?_⟩;refine⟨_,Z,Z,aq,T.ku,Z,Z,Z,?_⟩;rw[eG];exact k
inductive agw (K:au)(t:fP)(vs:b_)(H:Hp)(Q:VK)(E:XK):Prop|i(a dx ca:lQ)(p:Nat)(l:bX)(_:vs=[.ref a])(_:H a=some (GA t dx ca p))(_:nM K H ca (l.map V.int))(_:Q (.bl (decide (p<l.length))) H)
def D_:T.qP.Ok P w mg rZ jf 1 (agw K t):=by
 refine T.qP.ok λnd H vs Q E hr h=>?_;obtain⟨a,dx,ca,p,l,rfl,ha,hc,k⟩:=h;refine .i (aH (bz (pcm Fc (cO (pv 0)) (Bn T.i_ (ak (cO (pv 0)) ax))))) ?_;refine⟨_,Z,Z,ha,T.ku,Z,Z,_,Z,Z,ha,T.ku,Z,Z,ca,_,Z,.inl hc,_,_,Z,Z,?_⟩;have e:decide ((p:Int)<(((l.map V.int).length:Nat):Int))=decide (p<l.length):=by
  rw[aB];by_cases h:p<l.length
  .rw[ag h,ag (by lia)]
  .rw[ae h,ae (by lia)]
 rw[<-e] at k;exact k
inductive Ql (K:au)(t:fP)(vs:b_)(H:Hp)(Q:VK)(E:XK):Prop|i(a dx ca:lQ)(p n:Nat)(l:bX)(_:vs=[.ref a,.int n])(_:H a=some (GA t dx ca p))(_:nM K (but H a) ca (l.map V.int))(_:p+n<=l.length)(_:∀H' q,dE [a] H H'->H' a=some (GA t dx ca (p+n))->H' q=some (iL ((l.drop p).take n))->H q=none->Q (.ref q) H')
def me:T.iH.Ok P w mg rZ jf 1 (Ql K t):=by
 refine T.iH.ok λnd H vs Q E hr h=>?_;obtain⟨a,dx,ca,p,n,l,rfl,ha,hc,hp,k⟩:=h;refine .i (ao (fL 2 nd (cO (pv 0)))
   (ao (kh (pv 0) (aX dz (pv 2) (pv 1)))
   (aH (bz (psl (cO (pv 0)) (qu (pv 2)) (qu (cO (pv 0)))))))) ?_
 refine⟨_,Z,Z,ha,T.ku,Z,Z,?_⟩;refine⟨_,Z,_,Z,_,_,Z,Z,_,Z,Z,ha,T.ku,Z,Z,tH [("calls",.ref ca),("place",.int ((p+n:Nat):Int))],?_⟩;refine⟨_,Z,Z,aq,T.ku,Z,Z,_,Z,_,Z,_,Z,Z,aq,T.ku,Z,Z,_,Z,ca,_,Z,abp.seq hc,λq nq=>?_⟩;have c1:dE [a] H (upd H a (GA t dx ca (p+n))):=dE.refl.d_ (by simp);have nqa:=(bO nq).1;refine k _ q (c1.tw (bO nq).2) (by rw[aF nqa.symm,aq]) ?_ (bO nq).2;rw[aq,OA (l.map V.int) p (p+n) (by simp;lia),show p+n-p=n by lia];show _=some (HO.lst (((l.drop p).take n).map V.int));rw[kg,lY]
inductive Qk (K:au)(t:fP)(vs:b_)(H:Hp)(Q:VK)(E:XK):Prop|i(a dx ca:lQ)(p:Nat)(l:bX)(x:Int)(_:vs=[.ref a])(_:H a=some (GA t dx ca p))(_:nM K (but H a) ca (l.map V.int))(_:l[p]? =some x)(_:∀H',dE [a] H H'->H' a=some (GA t dx ca (p+1))->Q (.int x) H')
def rD:T.kz.Ok P w mg rZ jf 2 (Qk K t):=by
 refine T.kz.ok λnd H vs Q E hr h=>?_;obtain⟨a,dx,ca,p,l,x,rfl,ha,hc,hx,k⟩:=h;have hp:=(aN.mp hx).1;refine .i (aH (bz (JV (qN (pv 0) T.ku T.iH (me T) hr bG (ak aJ ax)) aJ))) ?_;refine⟨_,Z,a,_,_,Z,ha,Z,a,dx,ca,p,1,l,Z,ha,hc,by lia,λH' q c e1 e2 n=>?_⟩;refine⟨q,_,_,.int x,Z,Z,i2 e2,at_of (j:=0) rfl ?_,k H' c e1⟩;rw[drop_cons hx];rfl
def Te (c:dE [a] H H'):aC (but H a) (but H' a):=λb o e=>dQ.mpr ⟨(dQ.mp e).1,c.one (dQ.mp e).2 (dQ.mp e).1⟩
inductive Uq (K:au)(t:fP)(vs:b_)(H:Hp)(Q:VK)(E:XK):Prop|i(a dx ca:lQ)(p n:Nat)(l:bX)(_:vs=[.ref a])(_:H a=some (GA t dx ca p))(_:nM K (but H a) ca (l.map V.int))(_:l[p]? =some (n:Int))(_:p+1+n<=l.length)(_:∀H' q,dE [a] H H'->H' a=some (GA t dx ca (p+1+n))->H' q=some (iL ((l.drop (p+1)).take n))->H q=none->Q (.ref q) H')
def kf:T.iC.Ok P w mg rZ jf 3 (Uq K t):=by
 refine T.iC.ok λnd H vs Q E hr h=>?_;obtain⟨a,dx,ca,p,n,l,rfl,ha,hc,hx,hp,k⟩:=h;refine .i (aH (bz (qN (pv 0) T.ku T.iH (me T) hr bG (ak (Fe (pv 0) T.ku T.kz (rD T) hr bG) ax)))) ?_;refine⟨_,Z,a,_,_,Z,ha,Z,_,Z,a,_,_,Z,ha,Z,a,dx,ca,p,l,n,Z,ha,hc,hx,λH1 c1 e1=>?_⟩;refine⟨a,dx,ca,p+1,n,l,Z,e1,(Te c1).seq hc,hp,λH2 q c2 e2 e3 n2=>k H2 q (c1.trans c2) e2 e3 (fU c1 e1 n2)⟩
abbrev JN (t:fP)(dx:lQ)(lv:V):HO:=.ins t.qi dx [("learnt",lv)]
def KC:T.vy.Ok P w mg rZ jf 1 (Fj t.qi (λ_=>[("learnt",.gQ)]) 0):=by
 refine T.vy.ok λnd H vs Q E hr h=>?_;obtain⟨x,dx,xs,rfl,hl,hx,k⟩:=h;obtain rfl:xs=[]:=di hl;refine .i (aH (kh (pv 0) R6)) ?_;exact⟨_,Z,Z,hx,T.nB,Z,Z,Z,k⟩
inductive agm (t:fP)(vs:b_)(H:Hp)(Q:VK)(E:XK):Prop|i(a dx:lQ)(lv:V)(_:vs=[.ref a])(_:H a=some (JN t dx lv))(_:∀H' q,dE [a] H H'->H' a=some (JN t dx .gQ)->H' q=some (iL [0])->H q=none->Q (.ref q) H')
def zW:T.nW.Ok P w mg rZ jf 1 (agm t):=by
 refine T.nW.ok λnd H vs Q E hr h=>?_;obtain⟨a,dx,lv,rfl,ha,k⟩:=h;refine .i (ao (kh (pv 0) R6)
   (aH (bz (eE (ak aJ ax))))) ?_
 refine⟨_,Z,Z,ha,T.nB,Z,Z,tH [("learnt",.gQ)],by rw[aE];simp,λq nq=>?_⟩;have nqa:=(bO nq).1;exact k _ q ((dE.refl.d_ (by simp)).tw (bO nq).2) (by rw[aF nqa.symm,aq]) (by rw[aq];rfl) (bO nq).2
inductive acO (t:fP)(vs:b_)(H:Hp)(Q:VK)(E:XK):Prop|i(a b:lQ)(l:ie)(_:vs=[.ref a,.ref b])(_:H b=some (.lst ((nI l).map V.int)))(_:∀x∈l,x<256)(_:l.length<=4000)(_:(∀e,wW (nI l)=.error e->Gx t E [] H 1 e)/\∀h,wW (nI l)=.ok h->(((pN (l.take 12++[0,0,0,0]++l.drop 16):Nat):Int)≠h.check->Gx t E [] H 2 12)/\(((pN (l.take 12++[0,0,0,0]++l.drop 16):Nat):Int)=h.check->NL H Q [0,h.key,h.rows,h.bits,h.cut,h.lanes,h.times]))
def Bj:T.oP.Ok P w mg rZ (tN P w t.bI) 12 (acO t):=by
 refine T.oP.xA λnd H vs Q E hr h=>?_;obtain⟨a,b,l,rfl,hb,hl,hz,kE,kQ⟩:=h;refine .i (ao (fL 2 nd (ko T.yS (IZ T) hr aY.passes (ak (pv 1) ax)))
   (aH (bz (eE (ak aJ (ak (cO (pv 2)) (ak (cO (pv 2)) (ak (cO (pv 2)) (ak (cO (pv 2)) (ak (cO (pv 2)) (ak (cO (pv 2)) ax))))))))))) ?_
 refine⟨_,Z,b,l,Z,hb,hl,hz,kE,λh hh=>⟨(kQ h hh).1,λhc v H' sm hv=>?_⟩⟩;obtain⟨ha,dh,wv,rfl,h1,_⟩:=hv;have h1:=iK _ _ h1;refine⟨_,Z,Z,h1,T.dS,Z,Z,_,Z,Z,h1,T.dS,Z,Z,_,Z,Z,h1,T.dS,Z,Z,_,Z,Z,h1,T.dS,Z,Z,_,Z,Z,h1,T.dS,Z,Z,_,Z,Z,h1,T.dS,Z,Z,by rw[aE];simp,λq nq=>?_⟩;exact(kQ h hh).2 hc _ q (sm.trans (aC.upd nq)) (by rw[aq];rfl) (sm.free nq)
structure WU (st:aW)(f:bN)(aS:bX)(xs:ly):Prop where
 fe:st.form=f
 so:Du st
 s4:aS.length=4
 sr:∀v∈aS,-128<=v/\v<=127
 xl:xs.length=f.rows.length
 xn:∀x∈xs,x.length<=1000
 xf:∀x∈xs,∀v∈x,cB f v=true
inductive agt (K:au)(t:fP)(vs:b_)(H:Hp)(Q:VK)(E:XK):Prop|i(la dx:lQ)(fv0:V)(fl el:lQ)(xZ:b_)(av:V)(fA:Int)(f:bN)(fv:V)(aS:bX)(xs:ly)(st:aW)(_:vs=[.ref la,av])(_:H la=some (LnO t dx fv0 fl el))(_:H el=some (.lst xZ))(_:AsA t fA f fv aS xs av H)(_:WU st f aS xs)(_:xZ.length=xs.length)(_:∀(i:Nat) l e,st.rows[i]? =some l->xZ[i]? =some e->ErA K l.eps e H)(_:∀(H':Hp) (p Rl:lQ) (pvs Vb:b_),dE [la] H H'->H' la=some (LnO t dx fv0 fl Rl)->H' Rl=some (.lst Vb)->H Rl=none->H p=none->H' p=some (.lst pvs)->Paired (λc v=>IsL c.1 v (nw H H')) (dH st aS xs) pvs->Paired (λc v=>IsL c.2 v (nw H H')) (dH st aS xs) Vb->Q (.ref p) H')
def CO:T.tQ.Ok P w mg rZ jf 4 (agt K t):=by
 refine T.tQ.ok λnd H vs Q E hr h=>?_;obtain⟨la,dx,fv0,fl,el,xZ,av,fA,f,fv,aS,xs,st,rfl,hla,hel,⟨aa,da,sa,ra,kT,rfl,haa,NX,hsa,qm,pr⟩,ci,evl,her,k⟩:=h;obtain⟨rfl,so,hs4,hsr,hxl,hxn,hxf⟩:=ci;have g:=so.fg;have r4:=g.r4;have rl:xs.length=kT.length:=dR pr;refine .i (ao (fL 2 nd (eE ax))
   (ao (fL 3 nd (eE ax))
   (ao (gX PassesOwn.never rfl (Bm rfl T.IJ (ak (cO (pv 1)) (ak (cO (pv 0)) ax))) (yG rfl (fj (mv 4 nd) (fj (mv 5 nd) ph)))
    (ao (fL 6 nd (JW T.WZ T.Vj T.uc (IQ T) hr bG (ak (cO (pv 1)) (ak (cO (pv 1)) (ak (pv 5) ax)))))
   (ao (cP (pap (pv 2) (ak (GO [("x",7)] nd (fB (pv 4)) (mv 7 nd) (qN (pv 6) T.iG T.ud (IS T) hr bG (ak (pv 7) ax))) ax)))
   (aH (cP (pap (pv 3) (ak (cO (pv 6)) ax)))))))
   (ao (kh (pv 0) (pv 3))
   (aH (bz (pv 2))))))) ?_
 refine⟨by rw[aE];simp,λkp hkp=>⟨by rw[aE];simp,λMF afp=>?_⟩⟩;have nkp:H kp=none:=hkp;have ner:H MF=none:=(bO afp).2;have nek:MF≠kp:=(bO afp).1;have s1:aC H (upd (upd H kp (.lst [])) MF (.lst [])):=(aC.upd hkp).trans (aC.upd afp);obtain⟨H1,eH1⟩:∃H1,H1=upd (upd H kp (.lst [])) MF (.lst []):=⟨_,Z⟩;have k1:H1 kp=some (.lst []):=by rw[eH1,aF nek.symm,aq]
 have k2:H1 MF=some (.lst []):=by rw[eH1,aq]
 have fr1:∀b,H b=none->b≠kp->b≠MF->H1 b=none:=λb e1 e2 e3=>by rw[eH1,aF e3,aF e2];exact e1
 rw[<-eH1] at s1|-
 refine⟨_,Z,Z,s1 _ _ haa,T.jz,Z,Z,_,Z,Z,s1 _ _ hla,T.fS,Z,Z,ra,el,kT,xZ,Z,i2 (s1 _ _ qm),i2 (s1 _ _ hel),?_⟩;refine Tv (xs:=kT) (ys:=xZ) (n:=xs.length) (λi σ Hc=>X6 λy4 y5 y6 y7 cg zt=>C6 (σ=[some (.ref la),some (.ref aa),some (.ref kp),some (.ref MF),y4,y5,y6,y7]) (aC H Hc) (Hc kp=some (.lst cg)) (Hc MF=some (.lst zt)) (Paired (λc v=>IsL c.1 v (nw H1 Hc)) ((dH st aS xs).take i) cg) (Paired (λc v=>IsL c.2 v (nw H1 Hc)) ((dH st aS xs).take i) zt))
  ⟨none,none,none,none,[],[],Z,s1,k1,k2,.nil,.nil⟩ rl.symm evl (λi σ Hc _ ⟨_,_,_,_,_,_,_,sm,_,_,_,_⟩=>⟨i2 (sm _ _ qm),i2 (sm _ _ hel)⟩) ?_ ?_
 .rintro i σ Hc rv ev Tt hi ⟨y4,y5,y6,y7,cg,zt,rfl,sm,hk,he,pk,pz⟩ hrv Lo nT;obtain⟨x,hx,rp,rfl,hrp⟩:=iR pr hrv;obtain⟨l,hl⟩:=Mx.get_some (show i<st.rows.length by rw[so.ln];lia);obtain⟨lS,WH⟩:=Mx.get_some (show i<st.form.rows.length by lia);obtain⟨o1,o2,o3⟩:=so.ok i lS l WH hl;have er1:=her i l ev hl Lo;have hC:=qC (aS:=aS) hx hl;have hxm:=az hx;have xn:=hxn x hxm;have kl:cg.length=i:=by rw[<-dR pk,cN,i8];lia
  have zl:zt.length=i:=by rw[<-dR pz,cN,i8];lia
  have sT:aC Hc (upd Hc Tt (.tup [.ref rp,ev])):=aC.upd nT;refine⟨Tt,_,Z,i2 aq,Z,_,_,Z,_,_,Z,Z,?_⟩;refine⟨_,Z,Z,sT _ _ (sm _ _ haa),T.jz,Z,Z,_,Z,Z,sT _ _ (sm _ _ haa),T.jz,Z,Z,_,Z,λc dc m1 m2 m3=>?_⟩;have nc:Hc c=none:=sT.free m1;have ncH:H c=none:=sm.free nc;have sB:aC H (but (upd (upd (upd Hc Tt (.tup [.ref rp,ev])) dc (.own c)) c (.ins t.gq dc [])) c):=λb o e=>dQ.mpr ⟨aI e ncH,gA m1 m2 _ _ (sT _ _ (sm _ _ e))⟩;refine⟨c,dc,sa,fv,ev,st.form,l.eps,Z,aq,NX.same sB,g,er1.same sB,λH2 ea c2 hc2 hea T7=>⟨Z,?_⟩⟩;have sC:aC Hc H2:=dE.back (sT.trans (gA m1 m2)) c2 (λq hq=>by rw[show q=c from by simpa using hq];exact nc);have sH2:aC H H2:=sm.trans sC;refine⟨_,Z,LS (sC _ _ hk),_,Z,rp,Z,⟨_,i2 (sH2 _ _ hrp)⟩,λD hD=>?_⟩;have nD:Hc D=none:=sC.free hD;have Dc:D≠c:=bZ hc2 hD;have rpc:rp≠c:=aI hrp ncH;have sac:sa≠c:=aI hsa ncH;refine IA (xs:=x.map V.int) (K:=K) (λj dM H'=>∃Lj,C6 (dE [c] H2 H') (H' c=some (CtO t dc st.form sa Lj)) (H' Lj=some (iL (aa5 st.form aS l.eps (x.take j)).2)) (Lj≠D) (Hc Lj=none) (dM=((aa5 st.form aS l.eps (x.take j)).1).map V.int))
   (by rw[aE];simp;lia) ⟨ea,dE.refl.tw hD,by rw[aF Dc.symm];exact hc2,?_,?_,?_,Z⟩ (λj dM H' _ ⟨_,z1,_,_,_,_,_⟩=>i2 (z1.one (sH2 _ _ hrp) rpc)) ?_ λj dM H' u Q' hj iP eD ⟨Lj,z1,z2,z3,zD,zH,z4⟩ hu k3=>?_
  .rw[aF (aI hea hD)];exact hea
  .rintro rfl;rw[hea] at hD;cases hD
  .exact sT.free ((gA m1 m2).free T7)
  .rintro dM H' iP eD ⟨Lj,z1,z2,z3,zD,zH,z4⟩;rw[aB,gk] at z3 z4;have sF:aC Hc H':=dE.back sC z1 (λq hq=>by rw[show q=c from by simpa using hq];exact nc);have hk':=sF _ _ hk;have he':=sF _ _ he;have Dk:D≠kp:=bZ hk nD;have De:D≠MF:=bZ he nD;have ek:Lj≠kp:=bZ hk zH;have ee:Lj≠MF:=bZ he zH;have ck:c≠kp:=bZ hk nc;refine⟨kp,_,_,Z,Z,hk',by rw[aE];lia,?_⟩;refine⟨_,Z,LS (by rw[aF nek];exact he'),_,Z,Z,by rw[aF ck];exact z2,T.iG,Z,Z,MF,_,_,Z,Z,by rw[aF nek];exact he',by rw[aE];lia,?_⟩;have cc:dE [kp,MF] Hc (upd (upd H' kp (.lst (cg++[.ref D]))) MF (.lst (zt++[.ref Lj]))):=((sF.chg (S:=[kp,MF])).d_ (by simp)).d_ (by simp);have nn:aC (nw H1 Hc) (nw H1 (upd (upd H' kp (.lst (cg++[.ref D]))) MF (.lst (zt++[.ref Lj])))):=T8 cc λq hq=>by
    rcases bo.mp hq with e|e
    .rw[e,k1];rfl
    .rw[gc.mp e,k2];rfl
   refine⟨some (.ref rp),some ev,some (.ref c),y7,cg++[.ref D],zt++[.ref Lj],Z,λb o e=>?_,by rw[aF nek.symm,aq],aq,?_,?_⟩
   .rw[aF (aI e ner),aF (aI e nkp)];exact sF _ _ (sm _ _ e)
   .rw[Mx.take_snoc hC];refine Paired.snoc (Paired.lR pk λx v q=>q.same nn) ⟨D,Z,aT.mpr ⟨fr1 D (sm.free nD) Dk De,?_⟩⟩;rw[aF De,aF Dk,<-z4];exact eD
   .rw[Mx.take_snoc hC];refine Paired.snoc (Paired.lR pz λx v q=>q.same nn) ⟨Lj,Z,aT.mpr ⟨fr1 Lj (sm.free zH) ek ee,?_⟩⟩;rw[aF ee,aF ek];exact z3
  .have hj':j<x.length:=by simpa using hj
   have hxj:x[j]? =some (x[j]'hj'):=aD hj';rw[aw,hxj] at hu;cases hu;have fit:=hxf x hxm _ (az hxj);have eo:=AX g hs4 o2 (x.take j) (λv hv=>hxf x hxm v (e_ hv));have c1:=Lb g hs4 eo fit;have et:=Oz st.form aS l.eps (x.take j) (x[j]'hj');rw[<-Mx.take_snoc hxj,c1] at et;refine⟨Z,_,Z,c,_,_,Z,z2,Z,_,Z,c,dc,sa,Lj,st.form,aS,_,_,Z,z2,z1.one (sH2 _ _ hsa) sac,z3,g,hs4,eo.len,hsr,λH4 e4 c4 h4 g4 n4=>?_⟩;have eD4:=c4.one eD Dc;have e4D:e4≠D:=bZ eD n4;refine k3 _ H4 eD4 ⟨e4,(z1.trans c4).tw hD,by rw[aF Dc.symm];exact h4,?_,e4D,?_,?_⟩
   .rw[aF e4D,et];exact g4
   .have sF:aC Hc H':=dE.back sC z1 (λq hq=>by rw[show q=c from by simpa using hq];exact nc);exact sF.free n4
   .rw[et,z4];simp
 .rintro σ Hc ⟨y4,y5,y6,y7,cg,zt,rfl,sm,hk,he,pk,pz⟩;have hC:(dH st aS xs).take xs.length=dH st aS xs:=cq (by rw[i8];lia);rw[hC] at pk pz;have nkl:kp≠la:=bZ hla nkp;have nel:MF≠la:=bZ hla ner;refine⟨_,Z,_,Z,Z,sm _ _ hla,T.fS,Z,Z,tH [("frame",fv0),("filters",.ref fl),("errors",.ref MF)],_,Z,?_⟩;have nn:aC (nw H1 Hc) (nw H (upd Hc la (LnO t dx fv0 fl MF))):=λb o e=>by
   obtain⟨q1,q2⟩:=aT.mp e;have q3:=s1.free q1;exact aT.mpr ⟨q3,by rw[aF (bZ hla q3)];exact q2⟩
  exact k _ kp MF cg zt (sm.chg.d_ (by simp)) aq (by rw[aF nel];exact he) ner nkp (by rw[aF nkl];exact hk) (Paired.lR pk λx v q=>q.same nn) (Paired.lR pz λx v q=>q.same nn)
open Classical in
noncomputable def unG (Gs:Nat->Hp)(H:Hp):Hp:=λb=>if∃i,Gs i b≠none then H b else none
open Classical in
noncomputable def exG (Gs:Nat->Hp)(H:Hp):Hp:=λb=>if∃i,Gs i b≠none then none else H b
def Dd {b:lQ}:unG Gs H b=some o↔(∃i,Gs i b≠none)/\H b=some o:=by
 unfold unG;split
 .rename_i h;exact⟨λe=>⟨h,e⟩,λe=>e.2⟩
 .rename_i h;exact⟨(λe=>by cases e),λe=>absurd e.1 h⟩
def Cb {b:lQ}:exG Gs H b=some o↔(∀i,Gs i b=none)/\H b=some o:=by
 unfold exG;split
 .rename_i h;exact⟨(λe=>by cases e),λe=>by obtain⟨i,hi⟩:=h;exact absurd (e.1 i) hi⟩
 .rename_i h;exact⟨λe=>⟨λi=>gI λq=>h ⟨i,q⟩,e⟩,λe=>e.2⟩
def Eo (h:aC F H'):aC (nw H H') (vp F (nw H H')):=λb o e=>by
 unfold vp;cases q:F b with
 |none=>exact e
 |some o'=>have:=h _ _ q;rw[(aT.mp e).2] at this;cases this;rfl
structure aeE (t:fP)(F H0 H2 F2 G0:Hp)(Gs:Nat->Hp)(st:aW)(jS:b_)(a:lQ):Prop where
 fs:aa1 t F2 G0 H2 Gs st.form.rows st.rows jS
 s0:aC H0 H2
 f0:F a=none
 f1:aC F F2
 f2:aC F2 (but (vp F (nw H0 H2)) a)
 f3:∀b o,H2 b=some o->H0 b=none->b≠a->(∀i,Gs i b=none)->F2 b=some o
 g0:∀b,G0 b≠none->H0 b=none
 ga:G0 a=none
def LnS.fil {fl el:lQ}{jS xZ:b_}(z:LnS t K F H0 H st a dx fv fl el jS xZ Gs)(s0:aC H0 H)(c:dE [a] H H2):aeE t F H0 H2 (but (exG Gs (vp F (nw H0 H2))) a) (unG Gs H2) Gs st jS a:=by
 have s02:aC H0 H2:=dE.back s0 c (λq hq=>by rw[show q=a from by simpa using hq];exact z.na);have sF2:aC F H2:=λb o e=>c.one (z.fH _ _ e) (aI e z.fa);have gs2:∀i,aC (Gs i) (nw H0 H2):=λi b o e=>by
  obtain⟨q1,q2⟩:=aT.mp (z.gs i _ _ e);exact aT.mpr ⟨q1,c.one q2 (aI e (z.ga i))⟩
 have f1:aC F (but (exG Gs (vp F (nw H0 H2))) a):=λb o e=>dQ.mpr ⟨aI e z.fa,Cb.mpr ⟨λi=>(z.af i b).resolve_left (by rw[e];simp),Fm _ _ e⟩⟩;refine⟨⟨⟨fw.refl,λi b o e=>bC.mpr ⟨.inl ?_,iK _ _ (gs2 i _ _ e)⟩,z.ap⟩,λb o e=>?_,λb o e=>(Dd.mp e).2,λb=>?_,z.l1,z.l2,λi rw l v h1 h2 h3=>?_⟩,s02,z.fa,f1,λb o e=>dQ.mpr ⟨(dQ.mp e).1,(Cb.mp (dQ.mp e).2).2⟩,λb o e1 e2 e4 e3=>dQ.mpr ⟨e4,Cb.mpr ⟨e3,Eo sF2 _ _ (aT.mpr ⟨e2,e1⟩)⟩⟩,λb hb=>?_,?_⟩
 .rw[Dd.mpr ⟨⟨i,by rw[e];simp⟩,iK _ _ (gs2 i _ _ e)⟩];rfl
 .exact JC sF2 iK _ _ (Cb.mp (dQ.mp e).2).2
 .cases e:but (exG Gs (vp F (nw H0 H2))) a b with
  |none=>exact .inl rfl
  |some o=>
   refine .inr ?_;cases e2:unG Gs H2 b with
   |none=>rfl
   |some o2=>obtain⟨i,hi⟩:=(Dd.mp e2).1;exact absurd ((Cb.mp (dQ.mp e).2).1 i) hi
 .obtain⟨q1,q2⟩:=z.at_ i rw l v h1 h2 h3;exact⟨q1.same f1 (aC.refl _),q2⟩
 .cases e2:unG Gs H2 b with
  |none=>exact absurd e2 hb
  |some o2=>
   obtain⟨i,hi⟩:=(Dd.mp e2).1;cases e3:Gs i b with
   |none=>exact absurd e3 hi
   |some o3=>exact(aT.mp (z.gs i _ _ e3)).1
 .cases e2:unG Gs H2 a with
  |none=>rfl
  |some o2=>obtain⟨i,hi⟩:=(Dd.mp e2).1;exact absurd (z.ga i) hi
structure amq (F H0 H2 H4 F2:Hp)(JK:Nat->Hp)(a:lQ):Prop where
 s0:aC H0 H4
 sF:aC F H4
 f2:aC F2 (but (vp F (nw H0 H4)) a)
 gs:∀i,aC (JK i) (but (vp F (nw H0 H4)) a)
 ka:∀o,H2 a=some o->H4 a=some o
def aeE.done {H3 H4 F2:Hp}{JK:Nat->Hp}{jS:b_}{o0:HO}(q:aeE t F H0 H2 F2 G0 Gs st jS a)(ha:H2 a=some o0)(r9:GZ G0 H2 H3 JK)(s4:aC H3 H4):amq F H0 H2 H4 F2 JK a:=by
 have nG:∀b,H0 b≠none->G0 b=none:=λb h=>gI λn=>h (q.g0 b n);have sF2:aC F2 H4:=λb o e=>s4 _ _ (r9.keep b o (q.fs.sF _ _ e) ((q.fs.ap b).resolve_left (by rw[e];simp)));have sF4:aC F H4:=q.f1.trans sF2;refine⟨λb o e=>s4 _ _ (r9.keep b o (q.s0 _ _ e) (nG b (by rw[e];simp))),sF4,λb o e=>?_,λi b o e=>?_,λo e=>s4 _ _ (r9.keep a o e q.ga)⟩
 .have h2:=dQ.mp (q.f2 _ _ e);refine dQ.mpr ⟨h2.1,?_⟩;cases h:F b with
  |some o'=>
   have:=q.f1 _ _ h;rw[e] at this;cases this;exact Fm _ _ h
  |none=>
   have h3:=h2.2;unfold vp at h3;rw[h] at h3;have h3:nw H0 H2 b=some o:=h3;exact Eo sF4 _ _ (aT.mpr ⟨(aT.mp h3).1,sF2 _ _ e⟩)
 .have hg:=r9.sub i _ _ e;obtain⟨h1,h2⟩:=bC.mp hg;refine dQ.mpr ⟨(aI hg (cS ha q.ga)),Eo sF4 _ _ (aT.mpr ⟨?_,s4 _ _ h2⟩)⟩;rcases h1 with h1|h1
  .exact q.g0 b (isS.mp h1)
  .exact q.s0.free h1
def abo:aC (but (vp F (nw H0 H)) a) (vp F (nw H0 (upd H a o))):=λb u e=>by
 obtain⟨e1,e2⟩:=dQ.mp e;unfold vp at e2|-
 split at e2
 .rename_i q;rw[aj q];exact e2
 .rename_i q;rw[ah q];exact aT.mpr ⟨(aT.mp e2).1,by rw[aF e1];exact(aT.mp e2).2⟩
def oY (h:n<256):br (k8 n)=[(n:Int)]:=by
 show[(((AQ n).toNat:Nat):Int)]=_;rw[show(AQ n).toNat=n from by rw[Xc];exact n9 h]
theorem v_ {α:Type}{g:α->cf}{h:α->bX}:∀l:List α,(∀a∈l,br (g a)=h a)->br (l.flatMap g)=l.flatMap h
 |[],_=>rfl
 |a::l,q=>by rw[cn,cn,bP,q a (aU ..),v_ l λx m=>q x (aP _ m)]
def ZL (g:iw s):br (UL s)=qK s:=by
 unfold qK UL;have h1:s.scale<256:=by have:=g.2.2.2.2.1;lia
 rw[bP,bP,bP,bP,oY h1,sj,sj,oY (by split<;>lia),show br (gH 2 0)=[0,0] from by decide];unfold Mx.kindOf;cases s.wide<;>simp
theorem O4:∀l:ie,(l.flatMap λ(j:Nat)=>[(j:Int)])=l.map λ(j:Nat)=>(j:Int)
 |[]=>rfl
 |a::l=>by rw[cn,O4 l];rfl
def Vh (g:Mx.FG f):br (DD f)=t8 qK (f.rows,f.joint):=by
 have e1:br (f.rows.flatMap WX)=f.rows.flatMap (LN qK):=v_ f.rows λr hr=>by
  have w:=g.lS r hr;unfold WX LN;rw[bP,bP,oY (by have:=w.fx;lia),oY (n:=r.stages.length) (by have:=w.sn;lia),v_ r.stages (h:=qK) λs hs=>ZL (w.st s hs)];rfl
 have e2:br (f.joint.flatMap k8)=f.joint.flatMap (λ(j:Nat)=>[(j:Int)]):=v_ f.joint λj hj=>oY (n:=j) (by have:=g.j3 j hj;lia);unfold DD t8;rw[bP,e1,e2,O4]
def J8.eps {r:bL}{l:bT}{e:bX}(h:J8 t F G r l v):J8 t F G r {l with eps:=e} v:=by
 obtain⟨a,dx,rv,bf,sf,vs,Gs,q,z⟩:=h;exact⟨a,dx,rv,bf,sf,vs,Gs,q,z.ob,z.lS,z.hb,z.hs,z.WL,z.vl,z.sub,z.na,z.nb,z.ns,z.ap,z.st⟩
def h12 (kb:Bool)(f:bN)(n:Nat):cf:=[0x4C,0x53]++(k8 (if kb=true then 1 else 0)++(k8 f.rows.length++(k8 f.bits++(k8 f.cut++(k8 f.lanes++(k8 0++gH 4 n))))))
def abF (kb:Bool)(f:bN)(n:Nat):(h12 kb f n).length=12:=by simp[h12,k8,zd]
def Ii (kb:Bool)(f:bN)(n c:Nat):DE kb f n c=h12 kb f n++gH 4 c:=by simp[DE,h12]
def XX (hk:fA=0\/fA=1)(g:Mx.FG f)(n:Nat):br (h12 (decide (fA=1)) f n)=[76,83,fA,(f.rows.length:Int),(f.bits:Int),(f.cut:Int),(f.lanes:Int),0]++zc n 4:=by
 have r4:=g.r4;have b2:=g.b2;have c:=g.c;have TV:f.lanes<256:=by rcases g.l with h|h|h|h<;>lia
 unfold h12;rw[bP,bP,bP,bP,bP,bP,bP,oY (n:=if decide (fA=1)=true then 1 else 0) (by split<;>lia),oY (n:=f.rows.length) (by lia),oY (n:=f.bits) (by lia),oY (n:=f.cut) (by lia),oY TV,oY (n:=0) (by decide),sj,show br [0x4C,0x53]=[76,83] from by decide];rcases hk with h|h<;>subst h<;>rfl
def U2 (hk:fA=0\/fA=1)(g:Mx.FG f)(n:Nat)(bQ:cf):∃l:ie,(∀b∈l,b<256)/\O8 fA f n++br bQ=nI l/\Ow (nI l) (pN l)=br (tK (decide (fA=1)) f n bQ):=by
 obtain⟨rest,adT⟩:∃rest,rest=(if decide (fA=1)=true then DD f else[])++bQ:=⟨_,Z⟩;obtain⟨h,hh⟩:∃h,h=h12 (decide (fA=1)) f n:=⟨_,Z⟩;have hl:h.length=12:=by rw[hh,abF]
 have e0:DE (decide (fA=1)) f n 0++rest=h++(gH 4 0++rest):=by rw[Ii,hh,cD]
 have er:br rest=(if fA=1 then t8 qK (f.rows,f.joint) else[])++br bQ:=by
  rw[adT,bP];rcases hk with q|q<;>subst q
  .rfl
  .rw[aj (by decide),aj rfl,Vh g]
 have z4:br (gH 4 0)=zc 0 4:=(sj 4 0).symm;have lb:∀b∈(h++(gH 4 0++rest)).map (λ(c:UInt8)=>c.toNat),b<256:=λb hb=>by
  obtain⟨c,_,rfl⟩:=bj.mp hb;exact c.toNat_lt
 have eI:br (h++(gH 4 0++rest))=nI ((h++(gH 4 0++rest)).map (λ(c:UInt8)=>c.toNat)):=by
  unfold br nI;rw[jg];rfl
 have t12:∀(r:List UInt8),(h++r).take 12=h:=λr=>by rw[<-hl];exact NS ..
 have d16:(h++(gH 4 0++rest)).drop 16=rest:=by
  rw[<-cD];have:(h++gH 4 0).length=16:=by rw[aO,hl,zd]
  rw[<-this];exact ag5 ..
 have ck:eJ (h++(gH 4 0++rest))=pN ((h++(gH 4 0++rest)).map (λ(c:UInt8)=>c.toNat)):=by
  rw[<-Xs _ lb];unfold eJ;rw[t12,d16];rfl
 refine⟨_,lb,?_,?_⟩
 .rw[<-eI,bP,bP,z4,er,hh,XX hk g];unfold O8;simp only[cD]
 .have eb:tK (decide (fA=1)) f n bQ=h++(gH 4 (eJ (h++(gH 4 0++rest)))++rest):=by
   unfold tK;simp only;rw[<-adT,e0,Ii,<-hh,cD]
  rw[eb,ck,<-eI];unfold Ow;have b1:(br (h++(gH 4 0++rest))).take 12=br h:=by
   unfold br;rw[<-kg,t12]
  have b2:(br (h++(gH 4 0++rest))).drop 16=br rest:=by
   unfold br;rw[<-lY,d16]
  rw[b1,b2,bP,bP,sj,cD]
theorem HZ {α:Type}{f:α->bX}{c:Nat}(h:∀x,(f x).length=c):∀l:List α,(l.flatMap f).length=c*l.length
 |[]=>rfl
 |a::l=>by rw[cn,aO,HZ h l,h a,aZ,lG];lia
theorem Jm {n:Nat}:∀(l:List (Nat×Nat)) (i:Nat),(dP n i l).2.length<=l.length
 |[],i=>bq 0
 |(b,s)::r,i=>by
  show((i4 ((dP n (i+1) r).1.getD (i%n) 0) b s).1.toList++(dP n (i+1) r).2).length<=_;have:=Jm (n:=n) r (i+1);rw[aO,aZ];have h:(i4 ((dP n (i+1) r).1.getD (i%n) 0) b s).1.toList.length<=1:=by
   cases(i4 ((dP n (i+1) r).1.getD (i%n) 0) b s).1<;>simp
  lia
def U5 {es:ly}{n:Nat}(h1:1<=ay)(h2:ay<=16)(h3:es.length<=4)(h4:n<=64):(Oy ay es n).length<=5000:=by
 rw[<-LF h1];unfold PQ;rw[aO,HZ (λx=>ji _ 4),HZ (λx=>ji _ 2),t6];have a:=Jm (n:=ay) (Gj ay (om (es.map λ(l:bX)=>l.map j6) n) ⟨fO es.length,[],[]⟩).out 0;have b:=(Jn ay (om (es.map λ(l:bX)=>l.map j6) n) ⟨fO es.length,[],[]⟩).1;have c:(om (es.map λ(l:bX)=>l.map j6) n).length<=16*es.length*((n+15) / 16):=by
  rw[Jc];have:=zg (es.map λ(l:bX)=>l.map j6) (es.map λ(l:bX)=>l.map j6).length ((n+15) / 16);rw[aB] at this|-
  exact this
 have d:16*es.length*((n+15) / 16)<=16*4*4:=uV (oE _ h3) (by lia);simp only[dW] at b;lia
inductive VT (K:au)(t:fP)(vs:b_)(H:Hp)(Q:VK)(E:XK):Prop|i(lv av:V)(H0 F:Hp)(st:aW)(fA:Int)(f:bN)(fv:V)(aS:bX)(xs:ly)(n:Nat)(_:vs=[lv,av])(_:aC H0 H)(_:UK t K F H0 H st lv)(_:AsA t fA f fv aS xs av H0)(_:WU st f aS xs)(_:∀x∈xs,x.length=n)(_:1<=n)(_:n<=64)(_:fA=0\/fA=1)(_:∀H' p,aC H0 H'->LnP t K (vp F (nw H0 H')) (dt st (decide (fA=1)) aS xs n).2 lv->H0 p=none->H' p=some (iL (br (dt st (decide (fA=1)) aS xs n).1))->(dt st (decide (fA=1)) aS xs n).1.length<=10000->Q (.ref p) H')
def PF:T.AJ.Ok P w mg rZ jf 9 (VT K t):=by
 refine T.AJ.ok λnd H vs Q E hr h=>?_;obtain⟨lv,av,H0,F,st,fA,f,fv,aS,xs,n,rfl,s0,⟨la,dx,fv0,fl,el,jS,xZ,Gs,rfl,z⟩,JQ,ci,hn,n1,CD,hk,k⟩:=h;obtain⟨aa,da,sa,ra,kT,rfl,haa,au7,hsa,qm,pr⟩:=id JQ;obtain⟨fa,dfa,wv,rfl,JR,⟨wa,dw,rwa,ja,uP,rfl,WJ,afA,prw,Qz⟩⟩:=id z.fr;have sF:=z.fH;have fe:=ci.fe;have so:=ci.so;have xl:=ci.xl;have g:=so.fg;have r1:=g.r1;have r4:=g.r4;have WB:=z.l1;have RH:=z.l2;have hl3:=z.l3;rw[<-fe] at xl;have rl:kT.length=xs.length:=(dR pr).symm;have xf:∀x∈xs,∀v∈x,cB st.form v=true:=by rw[fe];exact ci.xf
 refine .i (ao (fL 2 nd (cO (pv 0)))
   (ao (fL 3 nd (ko T.AL (PK T) hr bG (ak (cO (pv 0)) (ak (cO (cO (pv 2))) (ak (ko T.tQ (CO T) hr bG (ak (pv 0) (ak (pv 1) ax))) ax)))))
   (ao (fL 4 nd (ko T.vB (KG T) hr bG (ak (cO (pv 1)) (ak (pv 2) (ak (Bn T.i_ (ak (JV (cO (pv 1)) aJ) ax)) ax)))))
   (aH (bz (ko T.GX (VE T) hr bG (ak (aX mP (pv 4) (ko T.su (Gf T) hr bG (ak (pv 3) (ak (cO (pv 2)) ax)))) ax))))))) ?_
 refine⟨_,Z,Z,z.ob,T.fS,Z,Z,_,Z,Z,z.ob,T.fS,Z,Z,_,Z,Z,sF _ _ JR,T.dA,Z,Z,Z,sF _ _ WJ,T.xC,Z,Z,_,Z,_,Z,?_⟩;refine⟨la,dx,.ref fa,fl,el,xZ,.ref aa,fA,f,fv,aS,xs,st,Z,z.ob,z.he,JQ.same s0,ci,by lia,λi l e h1 h2=>(z.er i l e h1 h2).same sF,λH2 kp Rl cg Vb c2 afs anT aj0 nkp hkp pk pe=>?_⟩;have q:=z.fil s0 c2;have noG:∀b,H b=none->∀i,Gs i b=none:=λb hb i=>((z.gs i).trans iK).free hb;have abx:fl≠la:=by intro e;have h1:=z.ob;rw[<-e,z.hf] at h1;cases h1
 have X_:but (exG Gs (vp F (nw H0 H2))) la fl=some (.lst jS):=q.f3 _ _ (c2.one z.hf abx) z.nf abx z.gf;have RU:aC (nw H H2) (but (exG Gs (vp F (nw H0 H2))) la):=λb o e=>q.f3 _ _ (aT.mp e).2 (s0.free (aT.mp e).1) (by rintro rfl;have h:=(aT.mp e).1;rw[z.ob] at h;cases h) (noG b (aT.mp e).1);have cl:(dH st aS xs).length=xs.length:=i8 ..;refine⟨fl,ja,kp,_,_,Gs,st.form.rows,st.rows,jS,st.form.joint,(dH st aS xs).map (λc=>c.1),cg,n,Z,q.fs,X_,q.f1 _ _ Qz,RU _ _ (aT.mpr ⟨nkp,hkp⟩),?_,g.j3,by rw[aB];lia,by rw[aB];lia,by rw[aB,g.jl,cl,xl],?_,CD,λH3 rp zt JK fk nrp hrp pz=>?_⟩
 .refine zi (by rw[aB];exact dR pk) λi x v h1 h2=>?_;obtain⟨c,hc,hq⟩:=iR pk h2;rw[aw,hc] at h1;cases h1;exact hq.same RU
 .intro x hx;obtain⟨c,hc,rfl⟩:=bj.mp hx;obtain⟨i,hi,rfl⟩:=bj.mp hc;obtain⟨x0,WK⟩:=Mx.get_some (cb.mp hi);rw[qj,gu WK];exact hn x0 (az WK)
 .obtain⟨r9,Qy⟩:=fk;have d0:=q.done afs r9 (aC.refl H3);have s3:=d0.s0;have eR:allR true st.form.rows st.rows (ki sJ st.form.joint ((dH st aS xs).map (λc=>c.1))) jS.length=lL st aS xs:=by
   unfold allR lL aat;rw[jg,show jS.length=(i9 st aS xs).length from by rw[jP];lia];rfl
  rw[eR] at pz;obtain⟨v0,hv0⟩:=Mx.get_some (show 0<kT.length by lia);obtain⟨x0,WK,p0,rfl,hp0⟩:=iR pr hv0;have frS:Gz t st.form (.ref fa) H3:=z.fr.same d0.sF;have lz:1<=st.form.lanes/\st.form.lanes<=16:=by rcases g.l with h|h|h|h<;>lia
  refine⟨_,Z,Z,s3 _ _ haa,T.jz,Z,Z,_,Z,_,Z,Z,s3 _ _ haa,T.jz,Z,Z,ra,_,_,_,Z,Z,i2 (s3 _ _ qm),at_of (j:=0) rfl hv0,p0,_,Z,i3 (s3 _ _ hp0),?_⟩;rw[aB,hn x0 (az WK)];refine⟨fA,_,st.form,n,Z,frS,g,by lia,λH4 hp s4 hhp nhp=>?_⟩;have s34:=s3.trans s4;refine⟨_,Z,_,Z,_,Z,Z,s4 _ _ (d0.sF _ _ JR),T.dA,Z,Z,rp,zt,lL st aS xs,n,st.form.lanes,Z,s4 _ _ hrp,Paired.lR pz λx v q=>q.same s4,Sj hn,n1,CD,by rw[rW];lia,by rw[rW];lia,lz.1,lz.2,VO so ci.s4 xl xf,λH5 cp s5 hcp ncp=>?_⟩;have cln:=U5 (es:=lL st aS xs) (n:=n) lz.1 lz.2 (by rw[rW];lia) CD;have hln:(O8 fA st.form n).length<=120:=by
   have:=TX g;unfold O8;rw[aO,aO,aO,ji,ji];split
   .simp only[aZ,dW];lia
   .simp
  refine⟨hp,cp,_,_,Z,Z,s5 _ _ hhp,hcp,by rw[aE,aB,aB];lia,λsp nsp=>?_⟩;obtain⟨l,lb,el1,el2⟩:=U2 hk g n (G1 st.form.lanes (fO (lL st aS xs).length) (xx (lL st aS xs) n));have aiA:O8 fA st.form n++Oy st.form.lanes (lL st aS xs) n=nI l:=el1;have ll:l.length<=6000:=by
   have:=congrArg lA aiA;rw[aO] at this;simp only[nI,aB] at this;lia
  refine⟨sp,l,Z,by rw[aq,<-jU,aiA],lb,by lia,λH7 p7 s7 h7 n7=>?_⟩;have s37:aC H3 H7:=s4.trans (s5.trans ((aC.upd nsp).trans s7));obtain⟨d1,dF,d2,d3,d4⟩:=q.done afs r9 s37;have d2:=d2.trans AW;have d3:=λi=>(d3 i).trans AW;rw[el2] at h7;have ew:(dt st (decide (fA=1)) aS xs n).1=tK (decide (fA=1)) st.form n (G1 st.form.lanes (fO (lL st aS xs).length) (xx (lL st aS xs) n)):=by
   rw[SN,rW]
  have wl:(dt st (decide (fA=1)) aS xs n).1.length<=10000:=by
   have:=congrArg lA el2;rw[<-ew,eA] at this;unfold Ow at this;rw[aO,aO,ji,cN,dY] at this;simp only[nI,aB] at this;rw[<-this];exact bt (N_ (BR (fu 12 _) 4) (bt (lO ..) ll)) (by decide)
  rw[<-ew] at h7;have awn:Rl≠la:=bZ z.ob aj0;refine k H7 p7 d1 ⟨la,dx,_,fl,Rl,jS,Vb,Z,Eo dF _ _ (aT.mpr ⟨z.na,d4 _ afs⟩),d2 _ _ X_,d2 _ _ (RU _ _ (aT.mpr ⟨aj0,anT⟩)),z.fr.same Fm,g,WB,by rw[yQ];lia,by rw[<-dR pe];lia,λi rw l v h1 h2 h3=>?_,λi l e h1 h2=>?_⟩ (s3.free (s4.free (s5.free (bO n7).2))) h7 wl
  .have h1:st.form.rows[i]? =some rw:=h1;have hi:=fJ h1;obtain⟨l0,Ik⟩:=Mx.get_some (show i<st.rows.length by lia);obtain⟨x,hx⟩:=Mx.get_some (show i<xs.length by lia);obtain⟨y,hy⟩:=Mx.get_some (show i<(i9 st aS xs).length by rw[jP];lia);rw[wB h1 Ik hx hy] at h2;cases h2;have rg:=(q.fs.at_ i rw l0 v h1 Ik h3).2;have r1:=Qy i rw l0 y v h1 Ik hy h3;have Zi:=Nz (on:=true) rg y;have e4:=(AX g ci.s4 (so.ok i rw l0 h1 Ik).2.1 x (xf x (az hx))).len;exact⟨(r1.same d2 (d3 i)).eps,Zi.1,Zi.2.fx,Zi.2.la,Zi.2.sl,Zi.2.st,e4⟩
  .have hi:=fJ h1;rw[yQ] at hi;obtain⟨c,hc,hq⟩:=iR pe h2;obtain⟨l0,Ik⟩:=Mx.get_some (show i<st.rows.length by lia);obtain⟨rw0,afz⟩:=Mx.get_some (show i<st.form.rows.length by lia);obtain⟨x,hx⟩:=Mx.get_some hi;obtain⟨y,hy⟩:=Mx.get_some (show i<(i9 st aS xs).length by rw[jP];lia);rw[wB afz Ik hx hy] at h1;rw[qC hx Ik] at hc;cases h1;cases hc;obtain⟨pp,rfl,hpp⟩:=hq;exact⟨pp,Z,i3 (d2 _ _ (RU _ _ hpp))⟩
def Sg (s:aW)(b:cf)(p n:Nat):iI s b p n=match qv s.form.lanes s.form.rows.length n b p with
  |.error (k,q)=>.fault k q
  |.ok zs=>match xy s.form (mF s (zs.map λz=>z.map fZ)) n with
   |some x=>.fault 4 x
   |none=>.done (mF s (zs.map λz=>z.map fZ)) (Jo s (zs.map λz=>z.map fZ)):=by
 unfold iI qv;cases e1:eW s.form.lanes (b.drop p) with
 |some x=>rfl
 |none=>
  simp only;rw[VF e1];simp only;cases e2:hJ s.form.rows.length (n8 s.form.rows.length n) ⟨s.form.lanes,rk b p s.form.lanes,ft (b.drop (p+4*s.form.lanes)),fO s.form.rows.length,[]⟩ (aM s.form.rows.length []) with
  |error e=>cases e<;>rfl
  |ok x=>
   obtain⟨zs,u⟩:=x;simp only;by_cases h:u.ended=false
   .rw[aj h,aj h]
   .rw[ah h,ah h];rfl
def Sk {zs:List (ie)}(hR:R<=4)(hn:n<=64)(h:qv ay R n b p=.ok zs):zs.length=R/\∀z∈zs,z.length=n/\∀v∈z,v<=N8:=by
 unfold qv at h;split at h
 .cases h
 .split at h
  .cases h
  .cases h
  .rename_i zs' u e;split at h
   .cases h
   .cases h;exact V_ hR hn e
def Oo {x:Int}(h:iS (2^245) x):Builtin.Int.intBits x<=100000:=by
 unfold Builtin.Int.intBits;split
 .omega
 .rename_i h0;have h1:x.natAbs≠0:=λe=>h0 (by rw[Int.natAbs_eq_zero.mp e];rfl);have e1:(2:Int)^245=((2^245:Nat):Int):=by decide+kernel
  have e2:(2:Nat)^246=2^245+2^245:=by decide+kernel
  have e3:0<(2:Nat)^245:=pE _;have h2:x.natAbs<2^246:=by
   obtain⟨a,b⟩:=h;rw[e1] at a b;rw[e2];generalize(2:Nat)^245=M at a b e3|-
   omega
  have:=(W4 h1).mpr h2;omega
inductive VV (K:au)(t:fP)(vs:b_)(H:Hp)(Q:VK)(E:XK):Prop|i(lv:V)(gW ha dh:lQ)(h:rB)(wv:V)(b:cf)(H0 F:Hp)(st:aW)(n:Nat)(_:vs=[lv,.ref gW,.ref ha])(_:aC H0 H)(_:UK t K F H0 H st lv)(_:Du st)(_:H0 gW=some (iL (br b)))(_:H0 ha=some (HdO t dh h wv))(_:h.lanes=(st.form.lanes:Nat))(_:h.rows=(st.form.rows.length:Nat))(_:h.bits=(st.form.bits:Nat))(_:h.cut=(st.form.cut:Nat))(_:h.times=(n:Nat))(_:h.fin<=b.length)(_:b.length<=10000)(_:1<=n)(_:n<=64)(_:∀k q,iI st b h.fin n=.fault k q->Gx t E [] H0 (k:Nat) (q:Nat))(_:∀xs uO,iI st b h.fin n=.done xs uO->Du uO->xs.length=st.form.rows.length->(∀x∈xs,x.length=n)->∀H' q vs,aC H0 H'->aC F H'->LnP t K (vp F (nw H0 H')) uO lv->H' q=some (.lst vs)->Paired (λx v=>IsL x v H') xs vs->Q (.ref q) H')
def PL:T.AM.Ok P w mg rZ (tN P w t.bI) 10 (VV K t):=by
 refine T.AM.xA λnd H vs Q E hr h=>?_;obtain⟨lv,gW,ha,dh,h,wv,b,H0,F,st,n,rfl,s0,⟨la,dx,fv0,fl,el,jS,xZ,Gs,rfl,z⟩,so,anK,hha,e1,e2,e3,e4,e5,hp,hb,n1,CD,kE,kQ⟩:=h;obtain⟨Yb,arS,adP,auZ,an2,aot,anP,avH,anW⟩:=h;subst e1 e2 e3 e4 e5;simp only at hp kE kQ;obtain⟨fa,dfa,wv0,rfl,JR,⟨wa,dw,rwa,ja,uP,rfl,WJ,afA,prw,Qz⟩⟩:=id z.fr;have sF:=z.fH;have g:=so.fg;have r1:=g.r1;have r4:=g.r4;have b1:=g.b1;have b2:=g.b2;have hc:=g.c;have WB:=z.l1;have RH:=z.l2;have hl3:=z.l3;have lz:1<=st.form.lanes/\st.form.lanes<=16:=by rcases g.l with h|h|h|h<;>lia
 rw[Sg] at kE kQ;refine .i (ao (fL 3 nd (ko T.pV (CN T) hr aY.passes (ak (pv 1) (ak (pv 2) ax))))
   (ao (fL 4 nd (ko T.DA (RZ T) hr bG (ak (cO (pv 0)) (ak (cO (cO (cO (pv 0)))) (ak (pv 3) ax)))))
   (ao (fL 5 nd (ko T.rM (As T) hr bG (ak (pv 4) (ak (cO (pv 2)) ax))))
   (ao (cP (ko T.ui (IX T) hr aY.passes (ak (pv 5) (ak (cO (pv 2)) ax))))
   (ao (kh (pv 0) (GO [("row",6)] nd (fB (pv 4)) (mv 6 nd) (tZ (v:=V.ref t.iV) rfl T.EJ rfl)))
   (aH (bz (pv 5)))))))) ?_
 refine⟨_,Z,_,Z,gW,ha,dh,_,wv,b,st.form.rows.length,n,st.form.lanes,anW,Z,s0 _ _ anK,s0 _ _ hha,Z,Z,Z,Z,hp,hb,lz.1,lz.2,r1,r4,n1,CD,λk q e=>(kE k q (by rw[e])).mono s0.chg,λzs hz H2 rp kT s2 hrp nrp pr=>?_⟩;obtain⟨zl,zn⟩:=Sk r4 CD hz;rw[hz] at kE kQ;simp only at kE kQ;obtain⟨es,hes⟩:∃es,es=zs.map λz=>z.map fZ:=⟨_,Z⟩;rw[<-hes] at kE kQ pr;have esl:es.length=st.form.rows.length:=by rw[hes,aB,zl]
 have esn:∀e∈es,e.length=n:=λe he=>by
  rw[hes] at he;obtain⟨y,hy,rfl⟩:=bj.mp he;rw[aB];exact(zn y hy).1
 have esx:∀e∈es,∀v∈e,iS (2^46) v:=λe he v hv=>by
  rw[hes] at he;obtain⟨y,hy,rfl⟩:=bj.mp he;obtain⟨u,hu,rfl⟩:=bj.mp hv;exact adg ((zn y hy).2 u hu)
 have q:=z.fil s0 (s2.chg (S:=[la]));have noG:∀b,H b=none->∀i,Gs i b=none:=λb hb i=>((z.gs i).trans iK).free hb;have abx:fl≠la:=by intro e;have h1:=z.ob;rw[<-e,z.hf] at h1;cases h1
 have ob2:=s2 _ _ z.ob;have X_:but (exG Gs (vp F (nw H0 H2))) la fl=some (.lst jS):=q.f3 _ _ (s2 _ _ z.hf) z.nf abx z.gf;have RU:aC (nw H H2) (but (exG Gs (vp F (nw H0 H2))) la):=λb o e=>q.f3 _ _ (aT.mp e).2 (s0.free (aT.mp e).1) (by rintro rfl;have h:=(aT.mp e).1;rw[z.ob] at h;cases h) (noG b (aT.mp e).1);refine⟨_,Z,Z,ob2,T.fS,Z,Z,_,Z,Z,ob2,T.fS,Z,Z,Z,s2 _ _ (sF _ _ JR),T.dA,Z,Z,Z,s2 _ _ (sF _ _ WJ),T.xC,Z,Z,_,Z,?_⟩;refine⟨fl,ja,rp,_,_,Gs,st.form.rows,st.rows,jS,st.form.joint,es,kT,n,Z,q.fs,X_,q.f1 _ _ Qz,RU _ _ (aT.mpr ⟨nrp,hrp⟩),Paired.lR pr λx v u=>u.same RU,g.j3,by lia,by lia,by rw[g.jl,esl],esn,CD,λH3 yp WO JK fk hyp py=>?_⟩;obtain⟨r9,Qy⟩:=fk;have d0:=q.done ob2 r9 (aC.refl H3);have s3:=d0.s0;have eR:allR false st.form.rows st.rows es jS.length=oZ st es:=by
  unfold allR oZ aat;rw[jg,show jS.length=es.length from by lia];rfl
 rw[eR] at py;obtain⟨ys,hys⟩:∃ys,ys=ki zE st.form.joint (oZ st es):=⟨_,Z⟩;rw[<-hys] at py;have ysl:ys.length=st.form.rows.length:=by rw[hys,gG,vN,esl]
 have ysn:∀y∈ys,y.length=n:=by rw[hys];exact nj _ _ _ (AS so esl esn)
 have ysx:∀y∈ys,∀v∈y,Builtin.Int.intBits v<=100000:=λy hy v hv=>Oo (by rw[hys] at hy;exact NJ so esl (λe he=>by rw[esn e he];exact CD) esx y hy v hv);refine⟨_,Z,_,Z,Z,s3 _ _ hha,T.dS,Z,Z,yp,WO,ys,st.form.cut,Z,hyp,py,by lia,λy hy=>⟨by rw[ysn y hy];lia,ysx y hy⟩,by lia,λH4 sp qO s4 JT nsp ps=>?_⟩;have exs:(ys.map λy=>y.map λx=>x*2^st.form.cut)=mF st es:=by
  rw[hys];unfold mF;refine fM λy _=>fM λx _=>?_;unfold L8;simp
 rw[exs] at ps;have ps4:=Paired.lR ps λx v u=>IsL.same u (iK (H0:=H3) (H:=H4));have shl:(mF st es).length=st.form.rows.length:=by rw[<-exs,aB,ysl]
 have shn:∀x∈mF st es,x.length=n:=λx hx=>by
  rw[<-exs] at hx;obtain⟨y,hy,rfl⟩:=bj.mp hx;rw[aB];exact ysn y hy
 have s04:=s3.trans s4;refine⟨_,Z,_,Z,Z,s04 _ _ hha,T.dS,Z,Z,sp,qO,_,st.form.bits,n,Z,JT,ps4,shn,by lia,by lia,CD,by lia,by lia,λx hx=>?_,λhx H5 s5=>?_⟩
 .exact(kE 4 x (by rw[show xy st.form (mF st es) n=some x from by rw[Jf];exact hx])).mono s04.chg
 .have MU:xy st.form (mF st es) n=none:=by rw[Jf];exact hx
  rw[MU] at kQ;have s45:=s4.trans s5;have hy5:=s45 _ _ hyp;refine⟨_,Z,yp,Z,⟨WO,i2 hy5⟩,λD hD=>?_⟩;have yl:WO.length=st.form.rows.length:=by rw[<-dR py,ysl]
  refine nt (ys:=aM st.form.rows.length (.ref t.iV)) hD (by rw[aE];simp;lia) (i2 hy5) (by simp;lia) (λi u y H6 Q6 hu hy sm6 k6=>?_) λH6 e6 s6=>?_
  .have:y=.ref t.iV:=(fb.mp (az hy)).2;subst this;exact⟨Z,k6 _ (aC.refl _)⟩
  .have s36:=s45.trans s6;obtain⟨d1,dF,d2,d3,d4⟩:=q.done ob2 r9 s36;have ob6:=d4 _ ob2;have nD0:H0 D=none:=s3.free (s45.free hD);have Dla:D≠la:=bZ (s45 _ _ (d0.ka _ ob2)) hD;refine⟨_,Z,Z,ob6,T.fS,Z,Z,tH [("frame",.ref fa),("filters",.ref fl),("errors",.ref D)],_,Z,?_⟩;have dN:aC (but (vp F (nw H0 H6)) la) (vp F (nw H0 (upd H6 la (LnO t dx (.ref fa) fl D)))):=abo;have sF7:aC F (upd H6 la (LnO t dx (.ref fa) fl D)):=λb o e=>by rw[aF (aI e z.fa)];exact dF _ _ e
   have s07:aC H0 (upd H6 la (LnO t dx (.ref fa) fl D)):=λb o e=>by rw[aF (aI e z.na)];exact d1 _ _ e
   have aor:sp≠la:=bZ (d0.ka _ ob2) nsp;have up:∀b o,H6 b=some o->b≠la->upd H6 la (LnO t dx (.ref fa) fl D) b=some o:=λb o e n=>by rw[aF n];exact e
   refine kQ _ _ rfl (Du.read so esl esn MU) shl shn _ sp qO s07 sF7 ⟨la,dx,_,fl,D,jS,_,Z,Eo sF7 _ _ (aT.mpr ⟨z.na,aq⟩),dN _ _ (d2 _ _ X_),Eo sF7 _ _ (aT.mpr ⟨nD0,up _ _ e6 Dla⟩),z.fr.same Fm,g,WB,by rw[Bq];lia,by rw[ib];lia,λi rw l v h1 h2 h3=>?_,λi l e h1 h2=>?_⟩ (up _ _ (s6 _ _ (s5 _ _ JT)) aor) (Paired.lR ps λx v u=>?_)
   .have h1:st.form.rows[i]? =some rw:=h1;have hi:=fJ h1;obtain⟨l0,Ik⟩:=Mx.get_some (show i<st.rows.length by lia);obtain⟨e,he⟩:=Mx.get_some (show i<es.length by lia);rw[Bp h1 Ik he] at h2;cases h2;have rg:=(q.fs.at_ i rw l0 v h1 Ik h3).2;have r1:=Qy i rw l0 e v h1 Ik he h3;have Zi:=Nz (on:=false) rg e;exact⟨(r1.same (d2.trans dN) ((d3 i).trans dN)).eps,Zi.1,Zi.2.fx,Zi.2.la,Zi.2.sl,Zi.2.st,Z⟩
   .have hi:=fJ h1;rw[Bq] at hi;obtain⟨l0,Ik⟩:=Mx.get_some (show i<st.rows.length by lia);obtain⟨rw0,afz⟩:=Mx.get_some (show i<st.form.rows.length by lia);obtain⟨x,hx⟩:=Mx.get_some hi;rw[Bp afz Ik hx] at h1;cases h1;exact⟨_,(fb.mp (az h2)).2,.inr (T.Fh _)⟩
   .obtain⟨p,rfl,hp⟩:=u;obtain⟨q1,q2⟩:=aT.mp hp;exact⟨p,Z,up _ _ (s6 _ _ (s5 _ _ q2)) (bZ (d0.ka _ ob2) q1)⟩
structure JO (t:fP)(K:au)(Hb H:Hp)(a dx:lQ)(lv:V)(so:Option aW):Prop where
 ob:H a=some (JN t dx lv)
 ha:(Hb a).isSome=true
 dm:∀b,H b=none->Hb b=none
 lv_:LvA t K (nw Hb H) so lv
 ok:∀st,so=some st->Du st
theorem LvA.same {N':Hp}(h:LvA t K N so v)(s:aC N N'):LvA t K N' so v:=by
 cases so with
 |none=>exact h
 |some st=>exact LnP.same h s
def JO.chg (z:JO t K Hb H a dx lv so)(c:dE S H H')(hS:∀x∈S,x≠a/\(Hb x).isSome=true/\H' x≠none):JO t K Hb H' a dx lv so:=by
 refine⟨c _ _ z.ob (λm=>(hS a m).1 rfl),z.ha,λb hb=>z.dm b ?_,z.lv_.same (T8 c λx hx=>(hS x hx).2.1),z.ok⟩;cases e:H b with
 |none=>rfl
 |some o=>
  by_cases m:b∈S
  .exact absurd hb (hS b m).2.2
  .rw[c b o e m] at hb;cases hb
def JO.same (z:JO t K Hb H a dx lv so)(s:aC H H'):JO t K Hb H' a dx lv so:=z.chg (S:=[]) s.chg (by simp)
structure N5 (f:bN)(aS:bX)(xs:ly)(n:Nat):Prop where
 g:Mx.FG f
 s4:aS.length=4
 sr:∀v∈aS,-128<=v/\v<=127
 xl:xs.length=f.rows.length
 xn:∀x∈xs,x.length=n
 n1:1<=n
 CD:n<=64
 xf:∀x∈xs,∀v∈x,cB f v=true
def i6 (so:Option aW)(fA:Int)(f:bN):Option aW:=if fA=1 then some (km f) else match so with
 |none=>none
 |some st=>if cC st.form f=true then some st else none
def EA (g:Mx.FG f)(ok:∀st,so=some st->Du st)(h:i6 so fA f=some st):st.form=f/\Du st:=by
 unfold i6 at h;split at h
 .cases h;exact⟨Z,Du.new g⟩
 .split at h
  .cases h
  .split at h
   .rename_i q;cases h;exact⟨(C0 _ _).mp q,ok _ rfl⟩
   .cases h
def Ho {av:V}{aS:bX}{xs:ly}(Yg:LvA t K (nw Hb H) so lv)(JQ:AsA t fA f fv aS xs av H)(hf:Gz t f fv (nw Hb H))(g:Mx.FG f)(kN:i6 so fA f=none->S6 t.eM E [] H)
  (k:∀st v H',i6 so fA f=some st->aC H H'->UK t K (nw Hb H) H H' st v->Q v H'):Qi K t [lv,av] H Q E:=by
 refine⟨lv,av,so,nw Hb H,nw Hb H,fA,f,fv,aS,xs,Z,iK,iK,Yg,JQ,hf,g,λhk v H' s1 h1=>k _ v H' ?_ s1 h1,λhk=>?_⟩
 .unfold i6;rw[aj hk]
 .cases so with
  |none=>exact kN (by unfold i6;rw[ah hk])
  |some st=>
   refine⟨λq=>kN ?_,λq v H' s1 h1=>k st v H' ?_ s1 h1⟩
   .unfold i6;rw[ah hk];show(if cC st.form f=true then some st else none)=none;rw[q];rfl
   .unfold i6;rw[ah hk];show(if cC st.form f=true then some st else none)=some st;rw[aj q]
def N5.cut {aS:bX}{xs:ly}(z:N5 f aS xs n)(ok:∀st,so=some st->Du st)(h:i6 so fA f=some st):WU st f aS xs:=
 ⟨(EA z.g ok h).1,(EA z.g ok h).2,z.s4,z.sr,z.xl,λx hx=>by rw[z.xn x hx];have:=z.CD;lia,z.xf⟩
inductive acS (K:au)(t:fP)(vs:b_)(H:Hp)(Q:VK)(E:XK):Prop|i(a dx:lQ)(lv av:V)(so:Option aW)(Hb:Hp)(fA:Int)(f:bN)(fv:V)(aS:bX)(xs:ly)(n:Nat)(_:vs=[.ref a,av])(_:JO t K Hb H a dx lv so)(_:AsA t fA f fv aS xs av H)(_:Gz t f fv (nw Hb H))(_:N5 f aS xs n)(_:fA=0\/fA=1)(_:i6 so fA f=none->S6 t.eM E [] H)(_:∀st,i6 so fA f=some st->∀H' p Vx,dE [a] H H'->JO t K Hb H' a dx Vx (some (dt st (decide (fA=1)) aS xs n).2)->H' p=some (iL (0::((dt st (decide (fA=1)) aS xs n).1.length:Int)::br (dt st (decide (fA=1)) aS xs n).1))->H p=none->(dt st (decide (fA=1)) aS xs n).1.length<=10000->Q (.ref p) H')
def yD:T.mM.Ok P w mg rZ (tN P w t.bI) 12 (acS K t):=by
 refine T.mM.xA λnd H vs Q E hr h=>?_;obtain⟨a,dx,lv,av,so,Hb,fA,f,fv,aS,xs,n,rfl,z,JQ,hf,ai,hk,kN,k⟩:=h;refine .i (ao (fL 2 nd (ko T.lF (sX T) hr aY.passes (ak (cO (pv 0)) (ak (pv 1) ax))))
   (ao (fL 3 nd (ko T.AJ (PF T) hr bG (ak (pv 2) (ak (pv 1) ax))))
   (ao (kh (pv 0) (pv 2))
   (aH (bz (aX mP (eE (ak aJ (ak (Bn T.i_ (ak (pv 3) ax)) ax))) (pv 3))))))) ?_
 refine⟨_,Z,Z,z.ob,T.nB,Z,Z,_,Z,Ho z.lv_ JQ hf ai.g kN λst v H1 hb s1 h1=>?_⟩;have ci:=ai.cut z.ok hb;refine⟨_,Z,_,Z,v,av,H,nw Hb H,st,fA,f,fv,aS,xs,n,Z,s1,h1,JQ,ci,ai.xn,ai.n1,ai.CD,hk,λH2 p s2 hlp np hp iP=>?_⟩;have k:=k st hb;obtain⟨uO,est⟩:∃uO,uO=(dt st (decide (fA=1)) aS xs n).2:=⟨_,Z⟩;have sok:Du uO:=by rw[est];exact Du.written ci.so ci.s4 (by rw[ci.fe];exact ci.xl) (by rw[ci.fe];exact ci.xf)
 obtain⟨bs,ebs⟩:∃bs,bs=(dt st (decide (fA=1)) aS xs n).1:=⟨_,Z⟩;rw[<-est,<-ebs] at k;rw[<-est] at hlp;rw[<-ebs] at hp iP;have Bc:=s2 _ _ z.ob;have npa:p≠a:=bZ z.ob np;have bl:(br bs).length=bs.length:=eA bs;refine⟨_,Z,_,Z,Z,Bc,T.nB,Z,Z,tH [("learnt",v)],?_⟩;have c3:dE [a] H (upd H2 a (JN t dx v)):=s2.chg.d_ (by simp);have a3:upd H2 a (JN t dx v) a=some (JN t dx v):=aq;have p3:upd H2 a (JN t dx v) p=some (iL (br bs)):=by rw[aF npa];exact hp
 have l3:LnP t K (nw Hb (upd H2 a (JN t dx v))) uO v:=hlp.same λb o e=>by
  unfold vp at e;split at e
  .obtain⟨q1,q2⟩:=aT.mp e;exact aT.mpr ⟨q1,by rw[aF (by rintro rfl;have:=z.ha;rw[q1] at this;cases this)];exact s2 _ _ q2⟩
  .obtain⟨q1,q2⟩:=aT.mp e;exact aT.mpr ⟨z.dm b q1,by rw[aF (bZ z.ob q1)];exact q2⟩
 have d3:∀b,upd H2 a (JN t dx v) b=none->H b=none:=λb hb=>s2.free (bO hb).2;generalize upd H2 a (JN t dx v)=H3 at c3 a3 p3 l3 d3|-
 have z3:JO t K Hb H3 a dx v (some uO):=⟨a3,z.ha,λb hb=>z.dm b (d3 b hb),l3,λst e=>by cases e;exact sok⟩;refine⟨_,Z,p,_,Z,i3 p3,by rw[aE];simp,λL hL=>?_⟩;have s4:aC H3 (upd H3 L (.lst [.int 0,.int (((br bs).map V.int).length:Nat)])):=aC.upd hL;refine⟨_,Z,L,p,_,_,Z,Z,aq,s4 _ _ p3,by rw[aE,aB];simp only[aZ,dW];lia,λr nr=>?_⟩;have s5:=s4.trans (aC.upd (o:=.lst ([V.int 0,.int (((br bs).map V.int).length:Nat)]++(br bs).map V.int)) nr);refine k _ r v (c3.trans s5.chg) (z3.same s5) ?_ (d3 r (s4.free nr)) iP;rw[aq,aB,bl];rfl
theorem ym:∀{l:ly},(∀x∈l,x.length=n)->l.flatten.length=n*l.length
 |[],_=>rfl
 |a::l,h=>by rw[jX,aO,h a (aU ..),ym λx m=>h x (aP _ m),aZ,lG];lia
def nN (st:aW)(aS:bX)(xs:ly):bX:=(dH st aS xs).flatMap λ(c:bX×List Int)=>c.1.map (L8 st.form)
inductive acN (K:au)(t:fP)(vs:b_)(H:Hp)(Q:VK)(E:XK):Prop|i(a dx:lQ)(lv av:V)(so:Option aW)(Hb:Hp)(fA:Int)(f:bN)(fv:V)(aS:bX)(xs:ly)(n:Nat)(_:vs=[.ref a,av])(_:JO t K Hb H a dx lv so)(_:AsA t fA f fv aS xs av H)(_:Gz t f fv (nw Hb H))(_:N5 f aS xs n)(_:i6 so fA f=none->S6 t.eM E [] H)(_:∀st,i6 so fA f=some st->∀H' p,aC H H'->H' p=some (iL (0::((nN st aS xs).length:Int)::nN st aS xs))->H p=none->(nN st aS xs).length<=1000->Q (.ref p) H')
def CL:T.pT.Ok P w mg rZ (tN P w t.bI) 12 (acN K t):=by
 refine T.pT.xA λnd H vs Q E hr h=>?_;obtain⟨a,dx,lv,av,so,Hb,fA,f,fv,aS,xs,n,rfl,z,JQ,hf,ai,kN,k⟩:=h;refine .i (ao (fL 2 nd (ko T.tQ (CO T) hr bG (ak (ko T.lF (sX T) hr aY.passes (ak (cO (pv 0)) (ak (pv 1) ax))) (ak (pv 1) ax))))
   (ao (fL 3 nd (ko T.jE (pQ T) hr bG (ak (ko T.rM (As T) hr bG (ak (pv 2) (ak (cO (cO (pv 1))) ax))) ax)))
   (aH (bz (aX mP (eE (ak aJ (ak (Bn T.i_ (ak (pv 3) ax)) ax))) (pv 3)))))) ?_
 refine⟨_,Z,Z,z.ob,T.nB,Z,Z,_,Z,Ho z.lv_ JQ hf ai.g kN λst v H1 hb s1 h1=>?_⟩;have ci:=ai.cut z.ok hb;have k:=k st hb;have so':=ci.so;have r4:=so'.fg.r4;have xl:=ci.xl;have CD:=ai.CD;have fe:=ci.fe;have hc:=ai.g.c;have BE:=ai.g.b2;obtain⟨la,dl,fv0,fl,el,jS,xZ,Gs,rfl,zl⟩:=h1;obtain⟨aa,da,sa,ra,kT,rfl,haa,⟨fa,dfa,wv,rfl,JR,_⟩,hsa,qm,pr⟩:=id JQ;have WB:=zl.l1;have hl3:=zl.l3;refine⟨_,Z,la,dl,fv0,fl,el,xZ,.ref aa,fA,f,.ref fa,aS,xs,st,Z,zl.ob,zl.he,JQ.same s1,ci,by rw[hl3,<-WB,fe,xl],λi l e h1 h2=>(zl.er i l e h1 h2).same zl.fH,λH2 kp Rl cg Vb c2 _ _ _ nkp hkp pk _=>?_⟩;have s2:aC H H2:=dE.back s1 c2 (λq hq=>by rw[show q=la from by simpa using hq];exact zl.na);have pk2:=Paired.lR pk λc v u=>IsL.same u (iK (H0:=H1) (H:=H2));have cl:(dH st aS xs).length=xs.length:=i8 ..;refine⟨_,Z,_,Z,Z,s2 _ _ haa,T.jz,Z,Z,Z,s2 _ _ JR,T.dA,Z,Z,kp,cg,(dH st aS xs).map (λc=>c.1),f.cut,Z,hkp,?_,by rw[aB,cl,xl,<-fe];lia,λy hy=>?_,by lia,λH3 sp qO s3 JT nsp ps=>?_⟩
 .refine zi (by rw[aB];exact dR pk2) λi x v h1 h2=>?_;obtain⟨c,hc,hq⟩:=iR pk2 h2;rw[aw,hc] at h1;cases h1;exact hq
 .obtain⟨c,hc',rfl⟩:=bj.mp hy;obtain⟨i,hi⟩:=dJ.mp hc';have h0:=fJ hi;rw[cl] at h0;obtain⟨x,hx⟩:=Mx.get_some h0;obtain⟨l,hl⟩:=Mx.get_some (show i<st.rows.length by rw[so'.ln,fe];lia);obtain⟨lS,WH⟩:=Mx.get_some (show i<st.form.rows.length by rw[fe];lia);rw[qC hx hl] at hi;cases hi;refine⟨by rw[qj];exact ci.xn x (az hx),λv hv=>Oo ?_⟩;have b:=B0 so'.fg ci.s4 (so'.ok i lS l WH hl).2.1 x (by rw[fe];exact ci.xf x (az hx)) v hv;have lb:=IC so'.fg;exact u9 (B:=2^23) ⟨by lia,by lia⟩ (yO (by decide))
 .have ps3:=Paired.lR ps λx v u=>IsL.same u (iK (H0:=H2) (H:=H3));have ef:(((dH st aS xs).map (λc=>c.1)).map λy=>y.map λx=>x*2^f.cut).flatten=nN st aS xs:=by
   unfold nN;rw[jg,List.flatMap_def];refine congrArg List.flatten (fM λc _=>fM λx _=>?_);unfold L8;rw[fe];simp
  have fl':(((dH st aS xs).map (λc=>c.1)).map λy=>y.map λx=>x*2^f.cut).flatten.length<=1000:=by
   rw[ym (n:=n) λy hy=>?_]
   .rw[aB,aB,cl,xl,<-fe];have:=uV CD r4;lia
   .obtain⟨c0,hc0,rfl⟩:=bj.mp hy;obtain⟨c,hc',rfl⟩:=bj.mp hc0;obtain⟨i,hi,rfl⟩:=bj.mp hc';obtain⟨x,hx⟩:=Mx.get_some (cb.mp hi);rw[aB,qj,gu hx];exact ai.xn x (az hx)
  refine⟨sp,qO,_,Z,JT,ps3,by lia,λH4 np s4 hnp nnp=>?_⟩;rw[ef] at hnp fl';refine⟨_,Z,np,_,Z,i3 hnp,by rw[aE];simp,λL hL=>?_⟩;have s5:aC H4 (upd H4 L (.lst [.int 0,.int (((nN st aS xs).map V.int).length:Nat)])):=aC.upd hL;refine⟨_,Z,L,np,_,_,Z,Z,aq,s5 _ _ hnp,by rw[aE,aB];simp only[aZ,dW];lia,λr nr=>?_⟩;have s6:=s5.trans (aC.upd (o:=.lst ([V.int 0,.int (((nN st aS xs).map V.int).length:Nat)]++(nN st aS xs).map V.int)) nr);have s06:=s2.trans (s3.trans s4);refine k _ r (s06.trans s6) ?_ (s06.free (s5.free nr)) fl';rw[aq,aB];rfl
def QS (b:cf):eJ b=pN ((b.map λ(c:UInt8)=>c.toNat).take 12++[0,0,0,0]++(b.map λ(c:UInt8)=>c.toNat).drop 16):=by
 unfold eJ;rw[Xs _ (λx hx=>by obtain⟨c,_,rfl⟩:=bj.mp hx;exact c.toNat_lt),jU,jU,kg,lY,cD];rfl
def Hw (b:cf):br b=nI (b.map λ(c:UInt8)=>c.toNat):=by
 unfold br nI;rw[jg];rfl
def Ou (b:cf):∀x∈b.map (λ(c:UInt8)=>c.toNat),x<256:=λx hx=>by
 obtain⟨c,_,rfl⟩:=bj.mp hx;exact c.toNat_lt
def Ih {l:ie}(hl:l=b.map λ(c:UInt8)=>c.toNat){P1:Nat->Prop}{P2:Prop}{P3:rB->Prop}(h1:∀e,fh b=.error e->P1 e)(h2:∀x,fh b=.ok x->(fD b≠eJ b->P2)/\(fD b=eJ b->P3 (jv b x))):
  (∀e,wW (nI l)=.error e->P1 e)/\∀h,wW (nI l)=.ok h->(((pN (l.take 12++[0,0,0,0]++l.drop 16):Nat):Int)≠h.check->P2)/\(((pN (l.take 12++[0,0,0,0]++l.drop 16):Nat):Int)=h.check->P3 h):=by
 subst hl;rw[<-Hw,RF,<-QS];cases e:fh b with
 |error x=>exact⟨λe' q=>by cases q;exact h1 x e,λh q=>by cases q⟩
 |ok x=>
  refine⟨(λe' q=>by cases q),λh q=>?_⟩;cases q;have e1:(jv b x).check=((fD b:Nat):Int):=rfl;rw[e1];exact⟨λq=>(h2 x e).1 λu=>q (by rw[u]),λq=>(h2 x e).2 (by lia)⟩
def uu (so:Option aW)(h:pH)(fo:Option bN):Option aW:=match fo,so with
 |some f,_=>some (km f)
 |none,none=>none
 |none,some s=>if s.form.rows.length=h.rows/\s.form.bits=h.bits/\s.form.cut=h.cut/\s.form.lanes=h.lanes then some s else none
def UZ {h:pH}{fo:Option bN}(ho:QF b h fo p)(ok:∀st,so=some st->Du st)(e:uu so h fo=some st):(st.form.rows.length=h.rows/\st.form.bits=h.bits/\st.form.cut=h.cut/\st.form.lanes=h.lanes)/\Du st:=by
 cases fo with
 |some f=>
  cases e;cases hk:h.key with
  |false=>have:=ho.no hk;cases this
  |true=>
   obtain⟨f',e1,g,q1,q2,q3,q4⟩:=ho.yes hk;cases e1;exact⟨⟨q4,q1,q2,q3⟩,Du.new g⟩
 |none=>
  cases so with
  |none=>cases e
  |some s=>
   have e:(if s.form.rows.length=h.rows/\s.form.bits=h.bits/\s.form.cut=h.cut/\s.form.lanes=h.lanes then some s else none)=some st:=e;split at e
   .rename_i q;cases e;exact⟨q,ok _ rfl⟩
   .cases e
def QP {hv:V}{h:pH}{fo:Option bN}(ho:QF b h fo p)(dm:∀b,H b=none->Hb b=none)(Yg:LvA t K (nw Hb H) so lv)(hh:HdA t (jv b (h,fo,p)) hv (nw Hb H))(kN:uu so h fo=none->S6 t.eM E [] H)
  (k:∀st v H' F,uu so h fo=some st->aC H H'->aC F (nw Hb H')->UK t K F H H' st v->Q v H'):Qj K t [lv,hv] H Q E:=by
 have up:∀H',aC H H'->aC (vp (nw Hb H) (nw H H')) (nw Hb H'):=λH' s=>JC (wu s) (qt dm);refine⟨lv,hv,so,nw Hb H,nw Hb H,_,Z,iK,iK,Yg,hh,jF _,jF _,jF _,λhk=>?_,λhk=>?_⟩
 .have hk:(if h.key=true then(1:Int) else 0)=1:=hk;have hkt:h.key=true:=by
   cases q:h.key with
   |true=>rfl
   |false=>rw[q] at hk;cases hk
  obtain⟨f,rfl,g,q1,q2,q3,q4⟩:=ho.yes hkt;have ef:L6 (jv b (h,some f,p)) (f.rows,f.joint)=f:=by
   show(⟨((h.bits:Nat):Int).toNat,((h.cut:Nat):Int).toNat,((h.lanes:Nat):Int).toNat,f.rows,f.joint⟩:bN)=f;rw[bF,bF,bF,<-q1,<-q2,<-q3]
  refine⟨(f.rows,f.joint),Z,by rw[ef];exact g,λv H' F' s1 sF h1=>?_⟩;rw[ef] at h1;exact k _ v H' F' rfl s1 (sF.trans (up H' s1)) h1
 .have hk:(if h.key=true then(1:Int) else 0)≠1:=hk;have hkf:h.key=false:=by
   cases q:h.key with
   |false=>rfl
   |true=>rw[q] at hk;exact absurd rfl hk
  have:=ho.no hkf;subst this;cases so with
  |none=>exact kN rfl
  |some st=>
   have iff:QL st (jv b (h,none,p))↔(st.form.rows.length=h.rows/\st.form.bits=h.bits/\st.form.cut=h.cut/\st.form.lanes=h.lanes):=by
    show((st.form.rows.length:Int)=((h.rows:Nat):Int)/\(st.form.bits:Int)=((h.bits:Nat):Int)/\(st.form.cut:Int)=((h.cut:Nat):Int)/\(st.form.lanes:Int)=((h.lanes:Nat):Int))↔_;lia
   have eb:uu (some st) h none=if st.form.rows.length=h.rows/\st.form.bits=h.bits/\st.form.cut=h.cut/\st.form.lanes=h.lanes then some st else none:=rfl
   refine⟨λq=>kN ?_,λq v H' s1 h1=>k st v H' _ ?_ s1 (wu s1) h1⟩
   .rw[eb,ah λu=>q (iff.mpr u)]
   .rw[eb,aj (iff.mp q)]
inductive agC (K:au)(t:fP)(vs:b_)(H:Hp)(Q:VK)(E:XK):Prop|i(a dx:lQ)(lv:V)(so:Option aW)(Hb:Hp)(bk:lQ)(b:cf)(_:vs=[.ref a,.ref bk])(_:JO t K Hb H a dx lv so)(_:H bk=some (iL (br b)))(_:b.length<=4000)(_:∀e,fh b=.error e->Gx t E [] H 1 (e:Nat))(_:∀x,fh b=.ok x->(fD b≠eJ b->Gx t E [] H 2 12)/\(fD b=eJ b->(uu so x.1 x.2.1=none->S6 t.eM E [] H)/\∀st,uu so x.1 x.2.1=some st->(∀k q,iI st b x.2.2 x.1.count=.fault k q->Gx t E [] H (k:Nat) (q:Nat))/\∀xs uO,iI st b x.2.2 x.1.count=.done xs uO->∀H' r Vx,dE [a] H H'->JO t K Hb H' a dx Vx (some uO)->H' r=some (iL (0::(xs.length:Int)::(xs.flatten.length:Int)::xs.flatten))->H r=none->xs.flatten.length<=1000->Q (.ref r) H'))
def zX:T.nX.Ok P w mg rZ (tN P w t.bI) 12 (agC K t):=by
 refine T.nX.xA λnd H vs Q E hr h=>?_;obtain⟨a,dx,lv,so,Hb,bk,b,rfl,z,hbk,hb,kE,kQ⟩:=h;refine .i (ao (fL 2 nd (ko T.yS (IZ T) hr aY.passes (ak (pv 1) ax)))
   (ao (fL 3 nd (ko T.pU (CM T) hr aY.passes (ak (cO (pv 0)) (ak (pv 2) ax))))
   (ao (fL 4 nd (ko T.jE (pQ T) hr bG (ak (ko T.AM (PL T) hr aY.passes (ak (pv 3) (ak (pv 1) (ak (pv 2) ax)))) ax)))
   (ao (kh (pv 0) (pv 3))
   (aH (bz (aX mP (eE (ak aJ (ak (cO (pv 2)) (ak (Bn T.i_ (ak (pv 4) ax)) ax)))) (pv 4)))))))) ?_
 refine⟨_,Z,bk,_,Z,by rw[hbk,Hw],Ou b,by rw[aB];exact hb,Ih rfl kE λx hx=>⟨(kQ x hx).1,λhc v H1 s1 hv=>?_⟩⟩;obtain⟨kN,kQ⟩:=(kQ x hx).2 hc;obtain⟨hd,fo,p⟩:=x;have ho:=P_ hx;simp only at kN kQ;have z1:=z.same s1;have hv1:=hv.same (qt z.dm);obtain⟨ha,dh,wv,rfl,ai5,_⟩:=id hv;have hha:=iK _ _ ai5;refine⟨_,Z,Z,z1.ob,T.nB,Z,Z,_,Z,QP ho z1.dm z1.lv_ hv1 (λq=>(kN q).mono s1.chg) λst v H2 F uz s2 sF hln=>?_⟩;obtain⟨kF,kD⟩:=kQ st uz;obtain⟨⟨q1,q2,q3,q4⟩,sok⟩:=UZ ho z.ok uz;have r4:=ho.r4;have CD:=ho.n2;refine⟨_,Z,_,Z,_,Z,v,bk,ha,dh,_,wv,b,H1,F,st,hd.count,Z,s2,hln,sok,s1 _ _ hbk,hha,?_,?_,?_,?_,Z,ho.p1,by lia,ho.n1,ho.n2,λk q e=>(kF k q e).mono s1.chg,λxs uO e ap1 xl xn H3 sp qO s3 sF3 hlp JT ps=>?_⟩
 .show((hd.lanes:Nat):Int)=_;rw[q4]
 .show((hd.rows:Nat):Int)=_;rw[q1]
 .show((hd.bits:Nat):Int)=_;rw[q2]
 .show((hd.cut:Nat):Int)=_;rw[q3]
 have k:=kD xs uO e;have fl:xs.flatten.length<=1000:=by
  rw[ym xn,xl,q1];have:=uV CD r4;lia
 refine⟨sp,qO,xs,Z,JT,ps,by lia,λH4 np s4 hnp nnp=>?_⟩;have s14:=s3.trans s4;have s04:=s1.trans s14;refine⟨_,Z,_,Z,Z,s04 _ _ z.ob,T.nB,Z,Z,tH [("learnt",v)],?_⟩;have npa:np≠a:=bZ (s3 _ _ z1.ob) nnp;have nha:ha≠a:=(aI z.ob (aT.mp ai5).1).symm;have c5:dE [a] H (upd H4 a (JN t dx v)):=s04.chg.d_ (by simp);have a5:upd H4 a (JN t dx v) a=some (JN t dx v):=aq;have p5:upd H4 a (JN t dx v) np=some (iL xs.flatten):=by rw[aF npa];exact hnp
 have h5:upd H4 a (JN t dx v) ha=some (HdO t dh (jv b (hd,fo,p)) wv):=by rw[aF nha];exact s14 _ _ hha
 have l5:LnP t K (nw Hb (upd H4 a (JN t dx v))) uO v:=hlp.same λb o e=>by
  unfold vp at e;split at e
  .have f1:=(aT.mp (sF _ _ e)).1;exact aT.mpr ⟨f1,by rw[aF (by rintro rfl;have:=z.ha;rw[f1] at this;cases this)];exact s4 _ _ (sF3 _ _ e)⟩
  .obtain⟨q1,q2⟩:=aT.mp e;exact aT.mpr ⟨z1.dm b q1,by rw[aF (bZ z1.ob q1)];exact s4 _ _ q2⟩
 have d5:∀b,upd H4 a (JN t dx v) b=none->H b=none:=λb hb=>s04.free (bO hb).2;generalize upd H4 a (JN t dx v)=H5 at c5 a5 p5 h5 l5 d5|-
 have z5:JO t K Hb H5 a dx v (some uO):=⟨a5,z.ha,λb hb=>z.dm b (d5 b hb),l5,λst e=>by cases e;exact ap1⟩;refine⟨_,Z,Z,h5,T.dS,Z,Z,_,Z,np,_,Z,i3 p5,by rw[aE];simp,λL hL=>?_⟩;have er:(jv b (hd,fo,p)).rows=((xs.length:Nat):Int):=by show((hd.rows:Nat):Int)=_;rw[xl,q1]
 rw[er,aB];have s6:aC H5 (upd H5 L (.lst [.int 0,.int ((xs.length:Nat):Int),.int (xs.flatten.length:Nat)])):=aC.upd hL;refine⟨_,Z,L,np,_,_,Z,Z,aq,s6 _ _ p5,by rw[aE,aB];simp only[aZ,dW];lia,λr nr=>?_⟩;have s7:=s6.trans (aC.upd (o:=.lst ([V.int 0,.int ((xs.length:Nat):Int),.int (xs.flatten.length:Nat)]++xs.flatten.map V.int)) nr);refine k _ r v (c5.trans s7.chg) (z5.same s7) ?_ (d5 r (s6.free nr)) fl;rw[aq];rfl
end
open PySem PySem.Spec PyProof.Rows L2 Mx
theorem CT (ke:Nat):∀(n:Nat) (l:bX),QM ke n l=(aK n).map λr=>(l.drop (r*ke)).take ke
 |0,l=>rfl
 |n+1,l=>by
  show l.take ke::QM ke n (l.drop ke)=_;rw[CT ke n,qe,cz,jg,amC,iD];congr 1;refine fM λr _=>?_;show((l.drop ke).drop (r*ke)).take ke=(l.drop ((r+1)*ke)).take ke;rw[uK,K1,W6,UM]
def Xg {s x:bX}(g:Mx.FG f)(ok:K2 f s x):N5 f s (uH x f.rows.length) (x.length / f.rows.length):=by
 have r1:=g.r1;have hm:x.length=x.length / f.rows.length*f.rows.length:=by
  have:=aha x.length f.rows.length;rw[ok.xm] at this;rw[jk];lia
 refine⟨g,ok.s4,ok.sr,by simp[uH],λy hy=>?_,?_,ok.xt,λy hy v hv=>?_⟩
 .obtain⟨r,hr,rfl⟩:=bj.mp hy;rw[cN,dY];have h1:(r+1)*(x.length / f.rows.length)<=f.rows.length*(x.length / f.rows.length):=iJ _ (cb.mp hr);rw[jk f.rows.length,<-hm,K1,W6] at h1;lia
 .refine lN λe=>ok.x0 ?_;rw[hm,e,amC]
 .obtain⟨r,hr,rfl⟩:=bj.mp hy;exact Cq.mpr (ok.xb v (j5 (e_ hv)))
section
variable{so:Option aW}{k b c ln r:Int}{w s x:bX}
def Vm (nn:xB (k::b::c::ln::r::w)){e:Nat}(h:pY (k::b::c::ln::r::w)=.error e):gP so k.toNat b.toNat c.toNat ln.toNat r.toNat (dj w) s x=.error Wv:=by
 unfold gP;cases q:SoundCalls.formIn b.toNat c.toNat ln.toNat r.toNat (dj w) with
 |none=>rfl
 |some f=>
  simp only;have hk:1<k.toNat:=gI λn=>by
   have:=UU nn rfl h (by lia);rw[show Mx.nats w=dj w from rfl,q] at this;cases this
  rw[aj (.inl hk)]
def we (nn:xB (k::b::c::ln::r::w))(h:pY (k::b::c::ln::r::w)=.ok (fA,f)):Mx.AsT k b c ln r w fA f:=Xh rfl h
def YR (g:Mx.FG f)(hk:k<=1)(hR:f.rows.length=r.toNat):(1<k.toNat\/nJ s=false\/x.length%r.toNat≠0\/x.length / r.toNat<1\/adu<x.length / r.toNat\/x.all (cB f)=false)↔¬K2 f s x:=by
 have r1:=g.r1;have e1:nJ s=true↔s.length=4/\∀v∈s,-128<=v/\v<=127:=by
  unfold nJ;simp only[cM,beq_iff_eq,fz,decide_eq_true_eq]
 have e2:x.all (cB f)=true↔∀v∈x,ofBits f.bits v:=by
  rw[fz];exact⟨λh v hv=>Cq.mp (h v hv),λh v hv=>Cq.mpr (h v hv)⟩
 have e3:adu=64:=rfl;rw[<-hR,e3];constructor
 .rintro(h|h|h|h|h|h) ok
  .lia
  .rw[e1.mpr ⟨ok.s4,ok.sr⟩] at h;cases h
  .exact h ok.xm
  .have:=(Xg g ok).n1;lia
  .have:=ok.xt;lia
  .rw[e2.mpr ok.xb] at h;cases h
 .intro n;refine gI λq=>n ?_;have q1:nJ s=true:=by
   cases u:nJ s with
   |true=>rfl
   |false=>exact absurd (.inr (.inl u)) q
  have q2:x.length%f.rows.length=0:=gI λu=>q (.inr (.inr (.inl u)));have q3:¬x.length / f.rows.length<1:=λu=>q (.inr (.inr (.inr (.inl u))));have q4:¬64<x.length / f.rows.length:=λu=>q (.inr (.inr (.inr (.inr (.inl u)))));have q5:x.all (cB f)=true:=by
   cases u:x.all (cB f) with
   |true=>rfl
   |false=>exact absurd (.inr (.inr (.inr (.inr (.inr u))))) q
  exact⟨(e1.mp q1).1,(e1.mp q1).2,λe=>q3 (by rw[e,Nat.zero_div];lia),q2,by lia,e2.mp q5⟩
def Vn (nn:xB (k::b::c::ln::r::w))(h:pY (k::b::c::ln::r::w)=.ok (fA,f))(no:¬K2 f s x):gP so k.toNat b.toNat c.toNat ln.toNat r.toNat (dj w) s x=.error Wv:=by
 obtain⟨rfl,hk,g,hR,hf⟩:=we nn h;unfold gP;rw[hf];simp only;rw[aj ((YR g hk hR).mpr no)]
def XW (nn:xB (k::b::c::ln::r::w))(h:pY (k::b::c::ln::r::w)=.ok (fA,f))(ok:K2 f s x):gP so k.toNat b.toNat c.toNat ln.toNat r.toNat (dj w) s x=match i6 so fA f with
  |none=>.error SoundCalls.NOT
  |some st=>.ok (st,uH x f.rows.length,x.length / f.rows.length):=by
 have nk:0<=k:=nn k (by simp);obtain⟨rfl,hk,g,hR,hf⟩:=we nn h;unfold gP;rw[hf];simp only;rw[ah λu=>(YR g hk hR).mp u ok,CT,<-hR];unfold i6;by_cases h1:fA=1
 .rw[aj h1,aj (by lia)];rfl
 .rw[ah h1,ah (by lia)];cases so with
  |none=>rfl
  |some st=>
   simp only;by_cases h2:cC st.form f=true
   .rw[aj h2,aj h2];rfl
   .rw[ah h2,ah h2]
def Yx {k:Int}(h:0<=k):(k.toNat==1)=decide (k=1):=by
 by_cases q:k=1
 .subst q;rfl
 .rw[ae q];exact beq_eq_false_iff_ne.mpr (by lia)
def asks (wr:Bool)(k b c ln r:Int)(w s x:bX):ly:=[[if wr=true then 3 else 4,k,b,c,ln,r],w,s,x]
def C5 {wr:Bool}{a:SoundCalls.Answer}(h:gP so k.toNat b.toNat c.toNat ln.toNat r.toNat (dj w) s x=.error a):aQ so (asks wr k b c ln r w s x)=(so,a.code::a.told.flatMap kR):=by
 cases wr with
 |true=>
  have e:eu (asks true k b c ln r w s x)=some (.write k.toNat b.toNat c.toNat ln.toNat r.toNat (dj w) s x):=rfl;unfold aQ;rw[e];simp only[gC];rw[h]
 |false=>
  have e:eu (asks false k b c ln r w s x)=some (.cut k.toNat b.toNat c.toNat ln.toNat r.toNat (dj w) s x):=rfl;unfold aQ;rw[e];simp only[gC];rw[h]
def Sw {xs:ly}(h:gP so k.toNat b.toNat c.toNat ln.toNat r.toNat (dj w) s x=.ok (st,xs,n)):aQ so (asks true k b c ln r w s x)=(some (dt st (k.toNat==1) s xs n).2,0::((dt st (k.toNat==1) s xs n).1.length:Int)::br (dt st (k.toNat==1) s xs n).1):=by
 have e:eu (asks true k b c ln r w s x)=some (.write k.toNat b.toNat c.toNat ln.toNat r.toNat (dj w) s x):=rfl;unfold aQ;rw[e];simp only[gC];rw[h];simp[uN,kR,br]
def ZN {xs:ly}(h:gP so k.toNat b.toNat c.toNat ln.toNat r.toNat (dj w) s x=.ok (st,xs,n)):aQ so (asks false k b c ln r w s x)=(so,0::((nN st s xs).length:Int)::nN st s xs):=by
 have e:eu (asks false k b c ln r w s x)=some (.cut k.toNat b.toNat c.toNat ln.toNat r.toNat (dj w) s x):=rfl;unfold aQ;rw[e];simp only[gC];rw[h];simp[uN,kR,nN]
end
section
variable{P:bJ}{w:cA}{K:au}{mg:sM}{rZ:Heap}{t:fP}(T:Txt K mg t)
structure Wk (t:fP)(K:au)(H:Hp)(li dl ca:lQ)(p:Nat)(l:bX):Prop where
 ob:H li=some (GA t dl ca p)
 sq:nM K (but H li) ca (l.map V.int)
def Wk.next {p':Nat}(z:Wk t K H li dl ca p l)(c:dE [li] H H')(h:H' li=some (GA t dl ca p')):Wk t K H' li dl ca p' l:=⟨h,(Te c).seq z.sq⟩
def uZ {A B:bX}(h:l.drop p=A++B):l.drop (p+A.length)=B:=by
 rw[<-uK,h,ag5]
def drop_len {A B:bX}(h:l.drop p=A++B)(hA:A≠[]):p+A.length<=l.length:=by
 have:=congrArg lA h;rw[dY,aO] at this;have:A.length≠0:=λe=>hA (di e);lia
def Li {B:bX}{x:Int}(h:l.drop p=x::B):l[p]? =some x:=by
 have:=congrArg (λm=>m[0]?) h;simpa using this
def CG {σ:L2.St}{tl:bX}{x:Int}(z:Wk t K H li dl ca p l)(hd:l.drop p=x::tl)(k:∀H',dE [li] H H'->Wk t K H' li dl ca (p+1) l->l.drop (p+1)=tl->Q (.int x) H'):Gp σ H λvs H2=>Qk K t (.ref li::(vs++[])) H2 Q E:=
 ⟨li,dl,ca,p,l,x,Z,z.ob,z.sq,Li hd,λH' c h=>k H' c (z.next c h) (uZ (A:=[x]) hd)⟩
def CZ {σ:L2.St}{p:Nat}{l u tl:bX}(z:Wk t K H li dl ca p l)(hd:l.drop p=(u.length:Int)::(u++tl))(k:∀H' q,dE [li] H H'->Wk t K H' li dl ca (p+1+u.length) l->l.drop (p+1+u.length)=tl->H' q=some (iL u)->H q=none->Q (.ref q) H'):Gp σ H λvs H2=>Uq K t (.ref li::(vs++[])) H2 Q E:=by
 have d1:l.drop (p+1)=u++tl:=uZ (A:=[(u.length:Int)]) hd;have d2:=uZ d1;have hl:p+1+u.length<=l.length:=by
  have:=drop_len (A:=(u.length:Int)::u) (B:=tl) (p:=p) (l:=l) (by rw[hd];rfl) (by simp);rw[aZ] at this;lia
 refine⟨li,dl,ca,p,u.length,l,Z,z.ob,z.sq,Li hd,hl,λH' q c h hq nq=>k H' q c (z.next c h) d2 ?_ nq⟩;rw[hq,d1,NS]
def XI {σ:L2.St}{A tl:bX}(z:Wk t K H li dl ca p l)(hA:A.length=5)(hd:l.drop p=A++tl)(k:∀H' q,dE [li] H H'->Wk t K H' li dl ca (p+5) l->l.drop (p+5)=tl->H' q=some (iL A)->H q=none->Q (.ref q) H'):Jy (tC (.int 5)) Gp σ H λvs H2=>Ql K t (.ref li::(vs++[])) H2 Q E:=by
 have d2:=uZ hd;have hl:=drop_len hd (by intro e;rw[e] at hA;cases hA);rw[hA] at d2 hl;refine⟨li,dl,ca,p,5,l,Z,z.ob,z.sq,hl,λH' q c h hq nq=>k H' q c (z.next c h) d2 ?_ nq⟩;rw[hq,hd,<-hA,NS]
structure Out (t:fP)(K:au)(Hb H:Hp)(a dx li dl ca:lQ)(so:Option aW)(r:Option aW×List Int)(p:Nat)(Q:VK)(E:XK):Prop where
 na:r=(so,[-1])->∀H',dE [li] H H'->H' li=some (GA t dl ca p)->E (.ref t.iO) none H'
 nl:r=(so,[-4])->∀H',dE [li] H H'->H' li=some (GA t dl ca p)->E (.ref t.eM) none H'
 bf:∀k q:Nat,r=(so,[-8,(k:Int),(q:Int)])->∀H' dd fs,H' dd=some (.ext (GB dd fs))->fs.lookup ("kind":Str)=some (V.int (k:Int))->fs.lookup ("place":Str)=some (V.int (q:Int))->dE [li] H H'->H' li=some (GA t dl ca p)->E (.ref t.cH) (some dd) H'
 dn:∀H' q lv,dE [a,li] H H'->JO t K Hb H' a dx lv r.1->H' li=some (GA t dl ca p)->H' q=some (iL r.2)->H q=none->r.2.length<=12000->Q (.ref q) H'
def Out.step {r:Option aW×List Int}(z:Out t K Hb H a dx li dl ca so r p Q E)(c:dE [li] H H1)(h:H1 li=some o):Out t K Hb H1 a dx li dl ca so r p Q E:=
 ⟨λe H' c'=>z.na e H' (c.trans c'),λe H' c'=>z.nl e H' (c.trans c'),λk q e H' dd fs x y u c'=>z.bf k q e H' dd fs x y u (c.trans c'),λH' q lv c' s1 s2 s3 n=>z.dn H' q lv ((c.more (by simp)).trans c') s1 s2 s3 (fU c h n)⟩
inductive Zn (K:au)(t:fP)(vs:b_)(H:Hp)(Q:VK)(E:XK):Prop|i(a dx:lQ)(lv:V)(so:Option aW)(Hb:Hp)(li dl ca:lQ)(p:Nat)(l:bX)(wr:Bool)(k b c ln r:Int)(w s x tl:bX)(_:vs=[.ref a,.ref li,.int (if wr=true then 3 else 4)])(_:JO t K Hb H a dx lv so)(_:Wk t K H li dl ca p l)(_:a≠li)(_:(Hb li).isSome=true)(_:l.drop p=k::b::c::ln::r::(w.length:Int)::(w++((s.length:Int)::(s++((x.length:Int)::(x++tl))))))(_:xB (k::b::c::ln::r::w))(_:w.length<=60)(_:s.length<=4)(_:x.length<=256)(_:Out t K Hb H a dx li dl ca so (aQ so (asks wr k b c ln r w s x)) (p+5+1+w.length+1+s.length+1+x.length) Q E)
def Ed:T.qT.Ok P w mg rZ (tN P w t.bI) 13 (Zn K t):=by
 refine T.qT.xA λnd H vs Q E hr h=>?_;obtain⟨a,dx,lv,so,Hb,li,dl,ca,p,l,wr,k,b,c,ln,r,w',s',x,tl,rfl,zs,zl,YK,WC,hd,nn,w60,s4,ac7,qH⟩:=h;refine .i (ao (fL 3 nd (qN (pv 1) T.ku T.iH (me T) hr bG (ak aJ ax)))
   (ao (fL 4 nd (Fe (pv 1) T.ku T.iC (kf T) hr bG))
   (ao (fL 5 nd (Fe (pv 1) T.ku T.iC (kf T) hr bG))
   (ao (fL 6 nd (Fe (pv 1) T.ku T.iC (kf T) hr bG))
   (ao (fL 7 nd (ko T.AI (PD T) hr aY.passes (ak (pv 3) (ak (pv 4) (ak (pv 5) (ak (pv 6) ax))))))
   (ao (gj (rb lp (pv 2) (fF T.abZ)) (aH (bz (qN (pv 0) T.nB T.mM (yD T) hr aY.passes (ak (pv 7) ax)))) cQ)
   (aH (bz (qN (pv 0) T.nB T.pT (CL T) hr aY.passes (ak (pv 7) ax)))))))))) ?_
 refine⟨_,Z,li,_,_,Z,zl.ob,Z,XI (A:=[k,b,c,ln,r]) zl rfl hd λH1 q1 c1 z1 d1 h1 n1=>?_⟩;refine⟨_,Z,li,_,_,Z,z1.ob,Z,CZ z1 d1 λH2 q2 c2 z2 d2 h2 n2=>?_⟩;refine⟨_,Z,li,_,_,Z,z2.ob,Z,CZ z2 d2 λH3 q3 c3 z3 d3 h3 n3=>?_⟩;refine⟨_,Z,li,_,_,Z,z3.ob,Z,CZ z3 d3 λH4 q4 c4 z4 d4 h4 n4=>?_⟩;have c34:=c3.trans c4;have c24:=c2.trans c34;have c14:=c1.trans c24;have e1:q1≠li:=bZ zl.ob n1;have e2:q2≠li:=bZ z1.ob n2;have e3:q3≠li:=bZ z2.ob n3;have af7:=qH.step c14 z4.ob;have zs4:JO t K Hb H4 a dx lv so:=zs.chg c14 λq hq=>by rw[show q=li from by simpa using hq];exact⟨YK.symm,WC,by rw[z4.ob];simp⟩
 have zZ:∀H',dE [] H4 H'->dE [li] H4 H'/\H' li=some (GA t dl ca (p+5+1+w'.length+1+s'.length+1+x.length)):=λH' c'=>⟨c'.more (by simp),c'.same _ _ z4.ob⟩;refine⟨_,Z,_,Z,_,Z,_,Z,q1,q2,q3,q4,[k,b,c,ln,r],w',s',x,Z,c24.one h1 e1,c34.one h2 e2,c4.one h3 e3,h4,by simp,by lia,by lia,by lia,λfA f e=>by obtain⟨_,_,g,_⟩:=we nn e;exact g,λe he H' c'=>?_,λfA f he=>⟨λno H' c'=>?_,λok v fv H5 s5 JQ NX=>?_⟩⟩
 .exact af7.na (C5 (Vm nn he)) H' (zZ H' c').1 (zZ H' c').2
 .exact af7.na (C5 (Vn nn he no)) H' (zZ H' c').1 (zZ H' c').2
 .obtain⟨ek,hk1,g,hR,hf⟩:=we nn he;have nk:0<=k:=nn k (by simp);have ai:=Xg g ok;have gv:=XW (so:=so) nn he ok;have zs5:=zs4.same s5;have ai2:Gz t f fv (nw Hb H5):=NX.same (qt zs4.dm);have VG:=af7.step s5.chg (s5 _ _ z4.ob);have li5:=s5 _ _ z4.ob;have Ur:∀H',dE [] H5 H'->dE [li] H5 H'/\H' li=some (GA t dl ca (p+5+1+w'.length+1+s'.length+1+x.length)):=λH' c'=>⟨c'.more (by simp),c'.same _ _ li5⟩;subst ek;cases wr with
  |true=>
   refine⟨_,Z,Z,_,Z,?_⟩;rw[n_,ag (show(if true=true then(3:Int) else 4)=3 from rfl)];refine eY ⟨_,Z,a,_,_,Z,zs5.ob,Z,_,Z,a,dx,lv,v,so,Hb,fA,f,fv,s',_,_,Z,zs5,JQ,ai2,ai,by lia,λhb H' c'=>?_,λst hb H6 p6 Vx c6 z6 h6 n6 wl=>?_⟩
   .rw[hb] at gv;exact VG.nl (C5 gv) H' (Ur H' c').1 (Ur H' c').2
   .rw[hb] at gv;have es:=Sw gv;rw[Yx nk] at es;rw[es] at VG;refine VG.dn H6 p6 Vx (c6.more (by simp)) z6 (c6.one li5 YK.symm) h6 n6 ?_;show(br _).length+1+1<=_;rw[eA];lia
  |false=>
   refine⟨_,Z,Z,_,Z,?_⟩;rw[n_,ae (show¬(if false=true then(3:Int) else 4)=3 by decide)];refine fK ⟨_,Z,a,_,_,Z,zs5.ob,Z,_,Z,a,dx,lv,v,so,Hb,fA,f,fv,s',_,_,Z,zs5,JQ,ai2,ai,λhb H' c'=>?_,λst hb H6 p6 s6 h6 n6 wl=>?_⟩
   .rw[hb] at gv;exact VG.nl (C5 gv) H' (Ur H' c').1 (Ur H' c').2
   .rw[hb] at gv;have es:=ZN gv;rw[es] at VG;refine VG.dn H6 p6 lv s6.chg (zs5.same s6) (s6 _ _ li5) h6 n6 ?_;show(nN _ _ _).length+1+1<=_;lia
def ze {u:bX}{hi:Int}(h:jr u n lo hi=true):u.length<=n/\∀z∈u,lo<=z/\z<=hi:=by
 unfold jr at h;rw[cM,decide_eq_true_eq,fz] at h;exact⟨h.1,λz hz=>by have:=h.2 z hz;rw[cM,decide_eq_true_eq,decide_eq_true_eq] at this;exact this⟩
def sV {z:Int}(h:gZ z n=true):0<=z:=by
 unfold gZ at h;rw[cM,decide_eq_true_eq] at h;exact h.1
def Hv {u:bX}(h:∀z∈u,0<=z/\z<=255):br (aV u)=u:=by
 unfold br aV;rw[jg]
 conv=>rhs;rw[<-List.map_id u]
 refine fM λz hz=>?_;obtain⟨h1,h2⟩:=h z hz;show(((AQ z.toNat).toNat:Nat):Int)=z;rw[show(AQ z.toNat).toNat=z.toNat from by rw[Xc];exact n9 (by show z.toNat<256;lia)];lia
def S_ {wr:Bool}{k b c ln r:Int}{w s x:bX}(h:jN (asks wr k b c ln r w s x)=true):xB (k::b::c::ln::r::w)/\w.length<=60/\s.length<=4/\x.length<=256:=by
 have h:(gZ k 53&&(gZ b 53&&(gZ c 53&&(gZ ln 53&&(gZ r 53&&(jr w 60 0 9007199254740991&&(jr s 4 (-9007199254740991) 9007199254740991&&jr x 256 (-9007199254740991) 9007199254740991)))))))=true:=by
  cases wr<;>exact h
 simp only[cM] at h;obtain⟨h1,h2,h3,h4,h5,h6,h7,h8⟩:=h;refine⟨λz hz=>?_,(ze h6).1,(ze h7).1,(ze h8).1⟩;simp only[bo] at hz;rcases hz with e|e|e|e|e|e
 .rw[e];exact sV h1
 .rw[e];exact sV h2
 .rw[e];exact sV h3
 .rw[e];exact sV h4
 .rw[e];exact sV h5
 .exact((ze h6).2 z e).1
section
variable{so:Option aW}{u:bX}
def V0 {e:Nat}(h:fh (aV u)=.error e):aQ so [[1],u]=(so,[-8,((1:Nat):Int),(e:Int)]):=by
 have q:eu [[1],u]=some (.head (aV u)):=rfl;unfold aQ;rw[q];simp only[gC];rw[h];rfl
def V1 {x:pH×Option bN×Nat}(h:fh (aV u)=.ok x)(hc:fD (aV u)≠eJ (aV u)):aQ so [[1],u]=(so,[-8,((2:Nat):Int),((12:Nat):Int)]):=by
 have q:eu [[1],u]=some (.head (aV u)):=rfl;unfold aQ;rw[q];simp only[gC];rw[h];simp only;rw[ah hc];rfl
def ZM {x:pH×Option bN×Nat}(h:fh (aV u)=.ok x)(hc:fD (aV u)=eJ (aV u)):aQ so [[1],u]=(so,[0,(jv (aV u) x).key,(jv (aV u) x).rows,(jv (aV u) x).bits,(jv (aV u) x).cut,(jv (aV u) x).lanes,(jv (aV u) x).times]):=by
 have q:eu [[1],u]=some (.head (aV u)):=rfl;unfold aQ;rw[q];simp only[gC];rw[h];simp only;rw[aj hc];have e:(jv (aV u) x).key=((if x.1.key=true then 1 else 0:Nat):Int):=by
  show(if x.1.key=true then(1:Int) else 0)=_;cases x.1.key<;>rfl
 rw[e];rfl
def V2 {e:Nat}(h:fh (aV u)=.error e):aQ so [[2],u]=(so,[-8,((1:Nat):Int),(e:Int)]):=by
 have q:eu [[2],u]=some (.read (aV u)):=rfl;unfold aQ;rw[q];simp only[gC];rw[h];rfl
def V3 {x:pH×Option bN×Nat}(h:fh (aV u)=.ok x)(hc:fD (aV u)≠eJ (aV u)):aQ so [[2],u]=(so,[-8,((2:Nat):Int),((12:Nat):Int)]):=by
 have q:eu [[2],u]=some (.read (aV u)):=rfl;unfold aQ;rw[q];simp only[gC];rw[h];simp only;rw[aj hc];rfl
def Jx {x:pH×Option bN×Nat}(h:fh (aV u)=.ok x)(hc:fD (aV u)=eJ (aV u)):aQ so [[2],u]=match uu so x.1 x.2.1 with
  |none=>(so,[-4])
  |some st=>match iI st (aV u) x.2.2 x.1.count with
   |.fault k q=>(so,[-8,(k:Int),(q:Int)])
   |.done xs uO=>(some uO,0::(xs.length:Int)::(xs.flatten.length:Int)::xs.flatten):=by
 have q:eu [[2],u]=some (.read (aV u)):=rfl;unfold aQ;rw[q];simp only[gC];rw[h];obtain⟨hd,fo,p⟩:=x;simp only;rw[ah (by simpa using hc)];cases fo with
 |some f=>
  have eb:uu so hd (some f)=some (km f):=rfl;rw[eb];simp only;cases iI (km f) (aV u) p hd.count with
  |fault k q=>rfl
  |done xs uO=>simp[Og,uN,kR]
 |none=>
  cases so with
  |none=>rfl
  |some st=>
   by_cases hq:st.form.rows.length=hd.rows/\st.form.bits=hd.bits/\st.form.cut=hd.cut/\st.form.lanes=hd.lanes
   .have eb:uu (some st) hd none=some st:=aj hq;rw[eb];simp only;rw[aj hq];cases iI st (aV u) p hd.count with
    |fault k q=>rfl
    |done xs uO=>simp[Og,uN,kR]
   .have eb:uu (some st) hd none=none:=ah hq;rw[eb];simp only;rw[ah hq];rfl
end
inductive ago (K:au)(t:fP)(vs:b_)(H:Hp)(Q:VK)(E:XK):Prop|i(a dx:lQ)(lv:V)(so:Option aW)(Hb:Hp)(li dl ca:lQ)(p:Nat)(l:bX)(c:ly)(tl:bX)(_:vs=[.ref a,.ref li])(_:JO t K Hb H a dx lv so)(_:Wk t K H li dl ca p l)(_:a≠li)(_:(Hb li).isSome=true)(_:ub (l.drop p) c tl)(_:jN c=true)(_:∀p',l.drop p'=tl->p<p'->p'<=l.length->Out t K Hb H a dx li dl ca so (aQ so c) p' Q E)
def Gx.of {k q:Int}(h:∀H' dd fs,H' dd=some (.ext (GB dd fs))->fs.lookup ("kind":Str)=some (V.int k)->fs.lookup ("place":Str)=some (V.int q)->aC H H'->E (.ref t.cH) (some dd) H'):Gx t E [] H k q:=λH' dd fs a b c d=>h H' dd fs a b c d.same
def IV:T.ug.Ok P w mg rZ (tN P w t.bI) 14 (ago K t):=by
 refine T.ug.xA λnd H vs Q E hr h=>?_;obtain⟨a,dx,lv,so,Hb,li,dl,ca,p,l,c,tl,rfl,zs,zl,YK,WC,hc,JQ,qH⟩:=h;refine .i (ao (fL 2 nd (Fe (pv 1) T.ku T.kz (rD T) hr bG))
   (ao (gj (rb lp (pv 2) (fF T.afM)) (aH (bz (Fe (pv 0) T.nB T.nW (zW T) hr bG))) cQ)
   (ao (gj (rb lp (pv 2) (fF T.afL)) (aH (bz (qN (pv 0) T.nB T.oP (Bj T) hr aY.passes (ak (Fe (pv 1) T.ku T.iC (kf T) hr bG) ax)))) cQ)
   (ao (gj (rb lp (pv 2) (fF T.afN)) (aH (bz (qN (pv 0) T.nB T.nX (zX T) hr aY.passes (ak (Fe (pv 1) T.ku T.iC (kf T) hr bG) ax)))) cQ)
   (aH (bz (ko T.qT (Ed T) hr aY.passes (ak (pv 0) (ak (pv 1) (ak (pv 2) ax)))))))))) ?_
 have sds:∀H',dE [li] H H'->H' li≠none->JO t K Hb H' a dx lv so:=λH' c' n=>zs.chg c' λq hq=>by rw[show q=li from by simpa using hq];exact⟨YK.symm,WC,n⟩
 have Y_:∀A:bX,A≠[]->l.drop p=A++tl->l.drop (p+A.length)=tl/\p<p+A.length/\p+A.length<=l.length:=λA hA e=>⟨uZ e,by have:A.length≠0:=λe=>hA (di e);lia,drop_len e hA⟩;generalize hL:l.drop p=L at hc;cases hc with
 |open_=>
  refine⟨_,Z,li,_,_,Z,zl.ob,Z,CG zl hL λH1 c1 z1 d1=>?_⟩;obtain⟨u1,u2,u3⟩:=Y_ [0] (by simp) hL;have Eg:=(qH _ u1 u2 u3).step c1 z1.ob;have Z9:=sds H1 c1 (by rw[z1.ob];simp);refine⟨_,Z,Z,_,Z,?_⟩;rw[n_,ag rfl];refine eY ⟨_,Z,a,_,_,Z,Z9.ob,Z,a,dx,lv,Z,Z9.ob,λH2 q c2 h2 hq nq=>?_⟩;refine Eg.dn H2 q .gQ (c2.more (by simp)) ⟨h2,zs.ha,λb hb=>Z9.dm b (fU c2 h2 hb),Z,λ_ e=>by cases e⟩ (c2.one z1.ob YK.symm) hq nq (by show[(0:Int)].length<=12000;decide)
 |head u=>
  obtain⟨hu1,hu2⟩:=ze (show jr u 4000 0 255=true from JQ);refine⟨_,Z,li,_,_,Z,zl.ob,Z,CG zl hL λH1 c1 z1 d1=>?_⟩;obtain⟨u1,u2,u3⟩:=Y_ (1::(u.length:Int)::u) (by simp) (by rw[hL];rfl);have Eg:=(qH _ u1 u2 u3).step c1 z1.ob;have Z9:=sds H1 c1 (by rw[z1.ob];simp);refine⟨_,Z,Z,_,Z,?_⟩;rw[n_,ae (by decide)];refine fK ⟨_,Z,Z,_,Z,?_⟩;rw[n_,ag rfl];refine eY ⟨_,Z,a,_,_,Z,Z9.ob,Z,_,Z,li,_,_,Z,z1.ob,Z,CZ z1 d1 λH2 q2 c2 z2 d2 h2 n2=>?_⟩;have ep:p+(1::(u.length:Int)::u).length=p+1+1+u.length:=by simp;lia
  rw[ep] at Eg;have Jd:=Eg.step c2 z2.ob;have zs2:=sds H2 (c1.trans c2) (by rw[z2.ob];simp);refine⟨a,q2,_,Z,by rw[h2,<-Hw,Hv hu2],Ou (aV u),by rw[aB,aV,aB];exact hu1,Ih (b:=aV u) rfl (λe he=>Gx.of λH' dd fs x y z' s'=>?_) λx hx=>⟨λGI=>Gx.of λH' dd fs x y z' s'=>?_,λheq H3 p3 s3 h3 n3=>?_⟩⟩
  .exact Jd.bf 1 e (V0 he) H' dd fs x y z' s'.chg (s' _ _ z2.ob)
  .exact Jd.bf 2 12 (V1 hx GI) H' dd fs x y z' s'.chg (s' _ _ z2.ob)
  .rw[ZM hx heq] at Jd;exact Jd.dn H3 p3 lv s3.chg (zs2.same s3) (s3 _ _ z2.ob) h3 n3 (by simp)
 |read u=>
  obtain⟨hu1,hu2⟩:=ze (show jr u 4000 0 255=true from JQ);refine⟨_,Z,li,_,_,Z,zl.ob,Z,CG zl hL λH1 c1 z1 d1=>?_⟩;obtain⟨u1,u2,u3⟩:=Y_ (2::(u.length:Int)::u) (by simp) (by rw[hL];rfl);have Eg:=(qH _ u1 u2 u3).step c1 z1.ob;have Z9:=sds H1 c1 (by rw[z1.ob];simp);refine⟨_,Z,Z,_,Z,?_⟩;rw[n_,ae (by decide)];refine fK ⟨_,Z,Z,_,Z,?_⟩;rw[n_,ae (by decide)];refine fK ⟨_,Z,Z,_,Z,?_⟩;rw[n_,ag rfl];refine eY ⟨_,Z,a,_,_,Z,Z9.ob,Z,_,Z,li,_,_,Z,z1.ob,Z,CZ z1 d1 λH2 q2 c2 z2 d2 h2 n2=>?_⟩;have ep:p+(2::(u.length:Int)::u).length=p+1+1+u.length:=by simp;lia
  rw[ep] at Eg;have Jd:=Eg.step c2 z2.ob;have zs2:=sds H2 (c1.trans c2) (by rw[z2.ob];simp);refine⟨a,dx,lv,so,Hb,q2,aV u,Z,zs2,by rw[h2,Hv hu2],by rw[aV,aB];exact hu1,λe he=>Gx.of λH' dd fs x y z' s'=>?_,λx hx=>⟨λGI=>Gx.of λH' dd fs x y z' s'=>?_,λheq=>⟨λhb H' c'=>?_,λst hb=>⟨λk q hf=>Gx.of λH' dd fs x y z' s'=>?_,λxs uO hf H3 r Vx c3 z3 h3 n3 fl=>?_⟩⟩⟩⟩
  .exact Jd.bf 1 e (V2 he) H' dd fs x y z' s'.chg (s' _ _ z2.ob)
  .exact Jd.bf 2 12 (V3 hx GI) H' dd fs x y z' s'.chg (s' _ _ z2.ob)
  .have es:=Jx (so:=so) hx heq;rw[hb] at es;exact Jd.nl es H' (c'.more (by simp)) (c'.same _ _ z2.ob)
  .have es:=Jx (so:=so) hx heq;rw[hb] at es;simp only at es;rw[hf] at es;exact Jd.bf k q es H' dd fs x y z' s'.chg (s' _ _ z2.ob)
  .have es:=Jx (so:=so) hx heq;rw[hb] at es;simp only at es;rw[hf] at es;rw[es] at Jd;refine Jd.dn H3 r Vx (c3.more (by simp)) z3 (c3.one z2.ob YK.symm) h3 n3 ?_;show xs.flatten.length+1+1+1<=_;lia
 |write k b c ln r w' s' x=>
  obtain⟨nn,w60,s4,ac7⟩:=S_ (wr:=true) JQ;refine⟨_,Z,li,_,_,Z,zl.ob,Z,CG zl hL λH1 c1 z1 d1=>?_⟩;obtain⟨u1,u2,u3⟩:=Y_ (3::k::b::c::ln::r::(w'.length:Int)::(w'++((s'.length:Int)::(s'++((x.length:Int)::x))))) (by simp) (by rw[hL];simp);have Eg:=(qH _ u1 u2 u3).step c1 z1.ob;have Z9:=sds H1 c1 (by rw[z1.ob];simp);refine⟨_,Z,Z,_,Z,?_⟩;rw[n_,ae (by decide)];refine fK ⟨_,Z,Z,_,Z,?_⟩;rw[n_,ae (by decide)];refine fK ⟨_,Z,Z,_,Z,?_⟩;rw[n_,ae (by decide)];have ep:p+(3::k::b::c::ln::r::(w'.length:Int)::(w'++((s'.length:Int)::(s'++((x.length:Int)::x))))).length=p+1+5+1+w'.length+1+s'.length+1+x.length:=by simp;lia
  rw[ep] at Eg;exact fK ⟨_,Z,_,Z,_,Z,a,dx,lv,so,Hb,li,dl,ca,p+1,l,true,k,b,c,ln,r,w',s',x,tl,Z,Z9,z1,YK,WC,d1,nn,w60,s4,ac7,Eg⟩
 |cut k b c ln r w' s' x=>
  obtain⟨nn,w60,s4,ac7⟩:=S_ (wr:=false) JQ;refine⟨_,Z,li,_,_,Z,zl.ob,Z,CG zl hL λH1 c1 z1 d1=>?_⟩;obtain⟨u1,u2,u3⟩:=Y_ (4::k::b::c::ln::r::(w'.length:Int)::(w'++((s'.length:Int)::(s'++((x.length:Int)::x))))) (by simp) (by rw[hL];simp);have Eg:=(qH _ u1 u2 u3).step c1 z1.ob;have Z9:=sds H1 c1 (by rw[z1.ob];simp);refine⟨_,Z,Z,_,Z,?_⟩;rw[n_,ae (by decide)];refine fK ⟨_,Z,Z,_,Z,?_⟩;rw[n_,ae (by decide)];refine fK ⟨_,Z,Z,_,Z,?_⟩;rw[n_,ae (by decide)];have ep:p+(4::k::b::c::ln::r::(w'.length:Int)::(w'++((s'.length:Int)::(s'++((x.length:Int)::x))))).length=p+1+5+1+w'.length+1+s'.length+1+x.length:=by simp;lia
  rw[ep] at Eg;exact fK ⟨_,Z,_,Z,_,Z,a,dx,lv,so,Hb,li,dl,ca,p+1,l,false,k,b,c,ln,r,w',s',x,tl,Z,Z9,z1,YK,WC,d1,nn,w60,s4,ac7,Eg⟩
inductive ap4 (K:au)(t:fP)(vs:b_)(H:Hp)(Q:VK)(E:XK):Prop|i(a dx:lQ)(lv:V)(so:Option aW)(Hb:Hp)(li dl ca:lQ)(p:Nat)(l:bX)(c:ly)(tl:bX)(_:vs=[.ref a,.ref li])(_:JO t K Hb H a dx lv so)(_:Wk t K H li dl ca p l)(_:a≠li)(_:(Hb li).isSome=true)(_:ub (l.drop p) c tl)(_:jN c=true)(_:∀p',l.drop p'=tl->p<p'->p'<=l.length->∀H' q Vx,dE [a,li] H H'->JO t K Hb H' a dx Vx (aQ so c).1->H' li=some (GA t dl ca p')->H' q=some (iL (aQ so c).2)->H q=none->(aQ so c).2.length<=12000->Q (.ref q) H')
def yE:T.mO.Ok P w mg rZ jf 15 (ap4 K t):=by
 refine T.mO.ok λnd H vs Q E hr h=>?_;obtain⟨a,dx,lv,so,Hb,li,dl,ca,p,l,c,tl,rfl,zs,zl,YK,WC,hc,JQ,k⟩:=h;obtain⟨xk,hxk⟩:∃xk:XK,xk=λC d H1=>∃p',l.drop p'=tl/\p<p'/\p'<=l.length/\dE [li] H H1/\H1 li=some (GA t dl ca p')/\((C=.ref t.iO/\d=none/\aQ so c=(so,[-1]))\/(C=.ref t.eM/\d=none/\aQ so c=(so,[-4]))\/∃(k q:Nat) (dd:lQ) (fs:List (Str×V)),C=.ref t.cH/\d=some dd/\H1 dd=some (.ext (GB dd fs))/\fs.lookup ("kind":Str)=some (V.int (k:Int))/\fs.lookup ("place":Str)=some (V.int (q:Int))/\aQ so c=(so,[-8,(k:Int),(q:Int)])):=⟨_,Z⟩;refine .i (aH (R_ (Mf:=t.bI) (Ex:=xk) rfl rfl rfl (λ_ _ hB=>(aH (bz (ko T.ug (IV T) hr hB.passes (ak (pv 0) (ak (pv 1) ax))))))
   (Nn T.oX rfl T.ql (λok e=>(aH (bz (eE (ak (t5 pw aJ) ax)))))
   (Nn T.oo rfl T.rR (λok e=>(aH (bz (eE (ak (t5 pw aJ) ax)))))
   (PY (i:=2) T.iN rfl T.gm nd rfl rfl (λok e=>(aH (bz (eE (ak (t5 pw aJ) (ak (Nm (Mf:=t.bI) (pv 2) rfl) (ak (Nm (Mf:=t.bI) (pv 2) rfl) ax)))))))
   R7))))) ?_
 refine⟨?_,λe C d H1 nE hx=>?_⟩
 .refine⟨_,Z,_,Z,a,dx,lv,so,Hb,li,dl,ca,p,l,c,tl,Z,zs,zl,YK,WC,hc,JQ,λp' e1 e2 e3=>⟨λer H' c' h'=>?_,λer H' c' h'=>?_,λkk q er H' dd fs x y z c' h'=>?_,λH' q Vx c' s' h' hq nq hl=>?_⟩⟩
  .rw[hxk];exact⟨p',e1,e2,e3,c',h',.inl ⟨Z,Z,er⟩⟩
  .rw[hxk];exact⟨p',e1,e2,e3,c',h',.inr (.inl ⟨Z,Z,er⟩)⟩
  .rw[hxk];exact⟨p',e1,e2,e3,c',h',.inr (.inr ⟨kk,q,dd,fs,Z,Z,x,y,z,er⟩)⟩
  .exact k p' e1 e2 e3 H' q Vx c' s' h' hq nq hl
 .rw[hxk] at hx;obtain⟨p',e1,e2,e3,c1,h1,hx⟩:=hx;have k:=k p' e1 e2 e3;obtain⟨df1,df2,df3,df4,df5,df6⟩:=T.diff;have fin:∀(o:HO) (q:lQ) (ans:bX),aQ so c=(so,ans)->ans.length<=12000->upd H1 e o q=none->Q (.ref q) (upd (upd H1 e o) q (iL ans)):=λo q ans es hl nq=>by
   have s1:aC H1 (upd (upd H1 e o) q (iL ans)):=(aC.upd nE).trans (aC.upd nq);have c2:dE [li] H (upd (upd H1 e o) q (iL ans)):=c1.trans s1.chg;rw[es] at k;refine k _ q lv (c2.more (by simp)) (zs.chg c2 λb hb=>?_) (s1 _ _ h1) aq (fU c1 h1 (bO nq).2) hl;rw[show b=li from by simpa using hb];exact⟨YK.symm,WC,by rw[s1 _ _ h1];simp⟩
  rcases hx with⟨rfl,rfl,es⟩|⟨rfl,rfl,es⟩|⟨kk,q,dd,fs,rfl,rfl,hd,f1,f2,es⟩
  .refine⟨_,_,Z,T.oX,λ_=>?_,λz=>absurd rfl z⟩;exact⟨_,Z,by rw[aE];simp,λq nq=>fin _ q [-1] es (by decide) nq⟩
  .refine⟨_,_,Z,T.oo,λz=>absurd z.symm df4,λ_=>⟨_,_,Z,T.oo,λ_=>?_,λz=>absurd rfl z⟩⟩;exact⟨_,Z,by rw[aE];simp,λq nq=>fin _ q [-4] es (by decide) nq⟩
  .refine⟨_,_,Z,T.iN,λz=>absurd z.symm df5,λ_=>⟨_,_,Z,T.iN,λz=>absurd z.symm df6,λ_=>⟨_,_,Z,T.iN,λ_=>?_,λz=>absurd rfl z⟩⟩⟩;have hd':∀o,upd H1 e o dd=some (.ext (GB dd fs)):=λo=>by rw[aF (aI hd nE)];exact hd
   refine⟨_,Z,_,Z,e,t.cH,_,dd,fs,_,Z,T.iN,T.tE,aq,hd' _,f1,_,Z,e,t.cH,_,dd,fs,_,Z,T.iN,T.rG,aq,hd' _,f2,by rw[aE];simp,λq' nq=>fin _ q' [-8,(kk:Int),(q:Int)] es (by simp) nq⟩
def l4 (so:Option aW)(cs:List (ly)):bX:=Ae (BS aQ so cs)
def Mc (so:Option aW)(c:ly)(cs:List (ly)):l4 so (c::cs)=((aQ so c).2.length:Int)::((aQ so c).2++l4 (aQ so c).1 cs):=by
 unfold l4;rw[P0,V5]
def Oi (so:Option aW):l4 so []=[]:=rfl
inductive Zm (K:au)(vs:b_)(H:Hp)(Q:VK)(E:XK):Prop|i(ca:lQ)(l:bX)(cs:List (ly))(_:vs=[.ref ca])(_:nM K H ca (l.map V.int))(_:qx l cs)(_:∀c∈cs,jN c=true)(_:cs.length<=200)(_:NL H Q (l4 none cs))
def RX:T.yR.Ok P w mg rZ jf 16 (Zm K):=by
 refine T.yR.ok λnd H vs Q E hr h=>?_;obtain⟨ca,l,cs,rfl,hca,hcs,Vp,anu,k⟩:=h;refine .i (ao (fL 1 nd (JW T.aeL T.abC T.xE (Nc T) hr bG (ak (pv 0) ax)))
   (ao (fL 2 nd (PV T.aa8 (KC T) (hr.mono (by decide)) rfl T.XR T.vy.b .nil bG))
   (ao (fL 3 nd (eE ax))
   (ao (CV PassesOwn.never (Bo (Fe (pv 1) T.ku T.qP (D_ T) hr bG)) (ao (fL 4 nd (ko T.mO (yE T) hr bG (ak (pv 2) (ak (pv 1) ax))))
   (ao (cP (pap (pv 3) (ak (Bn T.i_ (ak (pv 4) ax)) ax)))
   (aH (cP (Ax df dC dD mE (pv 3) (ak (pv 4) ax)))))))
   (aH (bz (pv 3))))))) ?_
 refine⟨_,Z,λli dl m1 m2 m3=>⟨li,dl,[.ref ca],Z,Z,aq,⟨Z,?_⟩⟩⟩;rw[eG];have s1:aC H (upd (upd H dl (.own li)) li (GA t dl ca 0)):=gA m1 m2;have l1:upd (upd H dl (.own li)) li (GA t dl ca 0) li=some (GA t dl ca 0):=aq;have sb1:aC H (but (upd (upd H dl (.own li)) li (GA t dl ca 0)) li):=λb o e=>dQ.mpr ⟨aI e m1,s1 _ _ e⟩;show _;obtain⟨H1,eH1⟩:∃H1,H1=upd (upd H dl (.own li)) li (GA t dl ca 0):=⟨_,Z⟩;rw[<-eH1] at s1 l1 sb1;have gH1:upd (upd H dl (.own li)) li (HO.ins t.uw dl (IG ["calls","place"] ([V.ref ca]++[V.int 0])))=H1:=eH1.symm;rw[gH1];refineλa dx o1 o2 o3=>⟨a,dx,[],Z,Z,aq,⟨Z,?_⟩⟩;rw[eG];have s2:aC H1 (upd (upd H1 dx (.own a)) a (JN t dx .gQ)):=gA o1 o2;have a2:upd (upd H1 dx (.own a)) a (JN t dx .gQ) a=some (JN t dx .gQ):=aq;have ao9:a≠li:=bZ l1 o1;generalize upd (upd H1 dx (.own a)) a (JN t dx .gQ)=H2 at s2 a2|-
 refine⟨by rw[aE];simp,λan nan=>?_⟩;have s3:aC H2 (upd H2 an (.lst [])):=aC.upd nan;obtain⟨Hb,eHb⟩:∃Hb,Hb=upd H2 an (.lst []):=⟨_,Z⟩;have an3:Hb an=some (.lst []):=by rw[eHb,aq]
 rw[<-eHb] at s3|-
 have s02:=s1.trans s2;have ad0:H li=none:=m1;have ao5:H a=none:=s1.free o1;have adZ:H an=none:=s02.free nan;have ajV:an≠a:=bZ a2 nan;have ajW:an≠li:=bZ (s2 _ _ l1) nan;have zs0:JO t K Hb Hb a dx .gQ none:=⟨s3 _ _ a2,by rw[s3 _ _ a2];rfl,λb h=>h,Z,λ_ e=>by cases e⟩;have hbl:(Hb li).isSome=true:=by rw[s3 _ _ (s2 _ _ l1)];rfl
 obtain⟨W,hW⟩:∃W:Nat->L2.St->Hp->Prop,W=λm σ Hc=>∃(p:Nat) (rs:List (ly)) (so:Option aW) (lv:V) (qH:bX) (y4:Option V),m=rs.length/\σ=[some (.ref ca),some (.ref li),some (.ref a),some (.ref an),y4]/\qx (l.drop p) rs/\p<=l.length/\(∀c∈rs,jN c=true)/\JO t K Hb Hc a dx lv so/\Hc li=some (GA t dl ca p)/\aC H Hc/\Hc an=some (iL qH)/\qH++l4 so rs=l4 none cs/\qH.length+12001*rs.length<=12001*200:=⟨_,Z⟩;refine⟨W,⟨cs.length,?_⟩,λm σ Hc hI=>?_⟩
 .rw[hW];have:=oE 12001 anu;exact⟨0,cs,none,.gQ,[],none,Z,Z,by rw[iD];exact hcs,eT _,Vp,zs0,s3 _ _ (s2 _ _ l1),s02.trans s3,an3,Z,by simpa using this⟩
 .rw[hW] at hI;obtain⟨p,rs,so,lv,qH,y4,rfl,rfl,hrs,hp,Vp,zs,WC,sm,han,MU,hsz⟩:=hI;have sqb:nM K (but Hc li) ca (l.map V.int):=aC.seq (λb o e=>dQ.mpr ⟨aI e ad0,sm _ _ e⟩) hca;have sq:nM K Hc ca (l.map V.int):=AW.seq sqb;refine⟨_,Z,li,_,_,Z,WC,Z,li,dl,ca,p,l,Z,WC,sq,?_⟩;generalize hL:l.drop p=L at hrs;cases hrs with
  |nil=>
   have ot:¬p<l.length:=λu=>by
    have:=congrArg lA hL;rw[dY] at this;simp at this;lia
   rw[ae ot];rw[Oi,fX] at MU;subst MU;exact⟨_,Z,fK ⟨_,Z,k Hc an sm han adZ⟩⟩
  |cons hc hr=>
   rename_i tl c rest;have ot:p<l.length:=by
    refine gI λu=>?_;rw[gJ (by lia)] at hL;subst hL;cases hc
   rw[ag ot];refine⟨_,Z,eY ⟨λgz H'=>∃m',m'<(c::rest).length/\W m' gz H',λ_ _ h=>h,?_⟩⟩;refine⟨_,Z,_,Z,a,dx,lv,so,Hb,li,dl,ca,p,l,c,tl,Z,zs,⟨WC,sqb⟩,ao9,hbl,by rw[hL];exact hc,Vp c (aU ..),λp' e1 e2 e3 H3 q Vx c3 z3 h3 hq nq iP=>?_⟩;have anS:an∉[a,li]:=by simp[ajV,ajW]
   have aim:=c3 _ _ han anS;have AA:aC H H3:=dE.back sm c3 λb hb=>by
    rcases bo.mp hb with e|e
    .rw[e];exact ao5
    .rw[gc.mp e];exact ad0
   have qan:q≠an:=bZ han nq;have avB:qH.length+12001*(rest.length+1)<=12001*200:=hsz;refine⟨_,Z,LS aim,_,Z,q,_,Z,i3 hq,an,_,_,Z,Z,aim,by rw[aE,aB];lia,?_⟩;rw[aB];have an4:upd H3 an (.lst (qH.map V.int++[.int ((aQ so c).2.length:Nat)])) an=some (.lst (qH.map V.int++[.int ((aQ so c).2.length:Nat)])):=aq;have q4:upd H3 an (.lst (qH.map V.int++[.int ((aQ so c).2.length:Nat)])) q=some (iL (aQ so c).2):=by rw[aF qan];exact hq
   refine⟨_,Z,LS an4,_,Z,an,q,_,_,Z,Z,an4,q4,by rw[aE,aO,aB,aB];simp only[aZ,dW];lia,?_⟩;rw[eG];have can:dE [an] H3 (upd H3 an (.lst (qH.map V.int++[.int ((aQ so c).2.length:Nat)]++(aQ so c).2.map V.int))):=dE.refl.d_ (by simp);refine⟨rest.length,ij _,?_⟩;rw[hW];refine⟨p',rest,(aQ so c).1,Vx,qH++(((aQ so c).2.length:Int)::(aQ so c).2),some (.ref q),Z,Z,by rw[e1];exact hr,e3,λc' m=>Vp c' (aP _ m),z3.chg can λb hb=>?_,?_,λb o e=>?_,?_,?_,?_⟩
   .rw[show b=an from by simpa using hb];exact⟨ajV,by rw[an3];rfl,by rw[aq];simp⟩
   .rw[aF ajW.symm];exact h3
   .rw[aF (aI e adZ)];exact AA _ _ e
   .rw[aq];simp
   .rw[Mc] at MU;rw[<-MU];simp
   .rw[aO,aZ];lia
end
open PySem PySem.Spec PyProof.Rows L2
def exi {α:Type}{p:α->Prop}{a:α}(h:p a):∃x,p x:=⟨a,h⟩
def ul0 {p:gS->Prop}(h:p []):∀us:gS,us.length=0->p us
 |[],_=>h
def ulS {p:gS->Prop}{n:Nat}(h:∀a,∀us:gS,us.length=n->p (a::us)):∀us:gS,us.length=n+1->p us
 |a::us,e=>h a us (adx e)
def XB {K:au}{x eU:Str}{st:Stmt}{f:lQ}{ps ls:mX}{oc:kc}{od:Option lQ}{kV Tn pm:kc}{an:Option lQ}{sP ct:kc}{YX:Array (Option kc)}(h1:K.lookup f=some ⟨oc,od,.func (sL x eU (GH st) (rQ st) (dZ st) .none kV Tn pm an sP ct),YX⟩)(h2:J7 K sP eU=true)(h3:il K (.ref f)=true)(b:Binds K (sL x eU (GH st) (rQ st) (dZ st) .none kV Tn pm an sP ct) ps [])(S:vJ (ps++ls) ps (dZ st)):Dx K x eU st f (sL x eU (GH st) (rQ st) (dZ st) .none kV Tn pm an sP ct) ps ls:=
 ⟨⟨⟨oc,od,kV,Tn,pm,an,sP,ct,YX,Z,h1,h2⟩,h3⟩,b,S⟩
def aes {K:au}{C N:lQ}{nm q bs sn sub ab col dd k0 k1 k2 k3 k5}(g:K.lookup C=some (fW nm q C N bs bmE true sn sub ab col dd k0 k1 k2 k3 k5 "Exception.__new__"))(a:abd K N=true)(b:fi K N "__setattr__"=some none)(c:fi K N "__getattribute__"=some none)(d:fi K N "__getattr__"=some none)(e:il K (.ref C)=true):tL K C N:=⟨⟨nm,q,bs,sn,sub,ab,col,dd,k0,k1,k2,k3,k5,g⟩,a,b,c,d,e⟩
def akB {K:au}{p:lQ}{xs:b_}{o:Obj}{dg:Array kc}{n:Nat}(a:K.lookup p=some o)(b:o.cls=.type "tuple")(c:o.data=.seq dg n)(d:dg.size<=bu)(e:Vals xs dg.toList)(H:Hp):Mb K H p xs:=.inr ⟨o,dg,n,a,b,c,d,e⟩
def aiu {K:au}{mg:sM}{x:Str}{st:Stmt}{f:lQ}{fd:eN}{ps ls:mX}(g:mg x=some (.ref f))(h:Dx K x x st f fd ps ls):Df K mg x st f fd ps ls:=⟨h,g⟩
def aiw {K:au}{C:lQ}{x eU:Str}{st:Stmt}{f:lQ}{fd:eN}{ps ls:mX}(m:Meth K C x f)(h:Dx K x eU st f fd ps ls):Dm K C x eU st f fd ps ls:=⟨h,m⟩
def aeT {P:bJ}{w:cA}{K:au}{mg:sM}{fa:lQ}(JR:mg "answers"=some (.ref fa))(h:∃t,Txt K mg t):∃fd:eN,(∀(s:aL) (us:gS),us.length=(["calls"]:mX).length->LZ s fd ⟨us,[]⟩ ((["calls"]:mX).zip us))/\∀rZ:Heap,K.In rZ->rZ.Ns mn mg->lx P w K mg rZ jf 16 fa fd ["calls"] (Zm K):=by
 obtain⟨t,T⟩:=h;have e:=JR.symm.trans T.yR.g;cases e;obtain⟨oc,od,kV,Tn,pm,an,sP,ct,YX,e,_⟩:=T.yR.F.ex;refine⟨t.Lc,λs us hu=>?_,λrZ _ _=>RX T⟩;rw[e];exact match us,hu with|[_],_=>.of_eq rfl
end Bs
open PySem PySem.W PyProof.Rows Bs L2 Mx
set_option maxRecDepth 100000 in
set_option maxHeartbeats 0 in
theorem PySem.Challenge.cw_bitsound_s01_answers_holds : PySem.Challenge.rw_bitsound_s01_answers.Holds := by
 have kW1:=kW1;w_on;k_headS;(case hw=>exact⟨[.list [.int 0]],by decide+kernel,by decide+kernel⟩)
 k_fillS
 refine SM (r:=aih) (k:=16) (CX:=jf) (ps:=["calls"]) (sp:=Zm) (by decide+kernel) rfl rfl ⟨Z,by decide,by decide⟩ (λw h Y=>PySem.W.kIn_of Y) ?F ?S (λ_ _ _ _ z=>z)
 case F=>
  intro w mg fa h Y KX G hmg;refine aeT hmg ?_;refine'⟨fP.mk,?T⟩
  case T=>
   constructor
   all_goals(try dsimp only)
   all_goals(try first|(refine' mg_of KX G ?a;(case a=>k_is);done)|(refine' mg_none_of KX G ?a;(case a=>k_is);done)|(refine' exi (mg_of KX G ?a);(case a=>k_is);done))
   all_goals(try first|(refine'⟨?a,?b,?c,?d⟩;(case a=>k_is);(case b=>k_is);(case c=>k_is);(case d=>k_is))|(refine' aes ?g ?a ?b ?c ?d ?e;(case g=>k_is);(case a=>kernel_rfl);(case b=>k_is);(case c=>k_is);(case d=>k_is);(case e=>k_is))|(refine'⟨aes ?g ?a ?b ?c ?d ?e,?i,?j⟩;(case g=>k_is);(case a=>kernel_rfl);(case b=>k_is);(case c=>k_is);(case d=>k_is);(case e=>k_is);(case i=>k_is);(case j=>k_is))|(refine'⟨?a,?b⟩;(case a=>k_is);(case b=>first|exact ac8|exact Z3))|k_is)
   all_goals(try first|(refine' aiu (mg_of KX G ?g) (XB ?l ?c ?k ?_ ⟨Z,Z,Z,by decide+kernel,Z,by decide+kernel,by decide+kernel⟩);(case g=>k_is);(case l=>k_is);(case c=>k_is);(case k=>k_is))|(refine' aiw ⟨?g,?h,?i⟩ (XB ?l ?c ?k ?_ ⟨Z,Z,Z,by decide+kernel,Z,by decide+kernel,by decide+kernel⟩);(case g=>k_is);(case h=>k_is);(case i=>k_is);(case l=>k_is);(case c=>k_is);(case k=>k_is))|(refine'(XB ?l ?c ?k ?_ ⟨Z,Z,Z,by decide+kernel,Z,by decide+kernel,by decide+kernel⟩);(case l=>k_is);(case c=>k_is);(case k=>k_is)))
   all_goals(try(refine'⟨⟨?_,?_,?_,?_⟩,?_⟩<;>first|k_is|(repeat' (first|exact List.forall_mem_nil _|refine' jY.mpr ⟨?_,?_⟩|(show ik _ _ _=_;k_is)))))
   all_goals(try(refine' akB ?a ?b ?c ?d ?e;(case a=>k_is);(case b=>rfl);(case c=>rfl);(case d=>decide);(case e=>repeat' (first|exact .nil|refine' .cons ⟨_,Z⟩ ?_))))
   all_goals(try(refine'⟨?_,?_,?_,?_,?_,?_⟩<;>decide))
   all_goals(try(refine' .all ?_;repeat' first|exact ul0 rfl|refine' ulS λ_=>?_))
 case S=>
  intro K H xs a hO hwi Vp hx;cases hx with
  |cons h1 h2=>
   cases h2;cases h1 with
   |lst hs ha=>
    have e:=TM a.1 _ ha;subst e;obtain⟨cs,c1,c2,c3,c4⟩:=QO (l:=a.1) Vp;refine⟨_,a.1,cs,Z,hs,c1,c2,c3,λH' p sm hp np=>?_⟩;show Dw K H' (.ref p) (.list ((Ew a.1).map .int));rw[c4];exact .lst (nM.of hp) (Tq _)
