import PyProof.Rows.All
import Wide.All
import OpenK.AllK
import Open.SpecLaws
import KE.OsHead
import KE.OsGo
import KE.KSortTupUse
import KE.KSortKeySt
import PySem.Challenge.RW_commabook_s01_answers
set_option Elab.async false
set_option linter.all false
set_option maxRecDepth 100000
set_option maxHeartbeats 4000000
set_option genSizeOf false
structure PySem.W.Fast:Prop where(tw14980777713680515661 tw13292931192815218648 tw4974783933516356485 tw16853897132994490798 tw13892787516350886499 tw8179120561001439405 tw16627104155705974253 tw15047556396460950929 tw3048651923589090188 tw764935716475941737 tw10150309225978810417 tw17166719485692469074 tw15749953604661743823 tw17007392042239325828 tw7088026683602040366 tw3420539144696858344 tw7065543602784674126 tw15659597385403875219 tw995045624837982541 tw3167291247553303400 tw1656505356515836375 tw14187119448607098690 tw2072986663541458929 tw7787234557507201776 tw14598766567531095700 tw10609005651900033668 tw13334194557722275602 tw15954050063567051766 tw7367022014668218739 tw4398933513037624225 tw6379028765273860597 tw12005479496061465157 tw6016045851328024088 tw14884933685772857957 tw11944581912487722492 tw14145645476251401528 tw9891578672444297780 tw16936781471940325105 tw11943993856389554456 tw10554472076682568289 tw17263566049958891336 tw4568377509860533689 tw5105514335952429384 tw11603784451410770769 tw3889021043490804625 tw8797204710420999269 tw8710891572262094823 tw11451335485815223657 tw893738018376868659 tw1655831594112558480 tw5068825412509771347 tw4054939543875936460 tw3649636993358979713 tw7298126300104331911 tw17958212862495696926 tw11537830568482358015 tw5513278755389561092 tw16321428766343903535 tw5653108927286930396 tw3163780780979163635 tw10400049962876180747 tw2019195987919722179 tw11822848278207492661 tw5677827146118939974 tw10317455873903930933 tw5606394112517835334 tw262841172414635442 tw6365519096697995396 tw15334110636383522325 tw8276884858194284742 tw2479968293418085619 tw12361415426905159472 tw17355878306128157475 tw16017992826375529158 tw16973003467076744069 tw9431179737418680081 tw18358862756356169787 tw18245544067394076190 tw15083180001926361778 tw8271103873382177459 tw13006668342418997411 tw17030768214448504970 tw10234311266945654536 tw14491278361086042221 tw10238182418544730874 tw14405424557292984916 tw7907757442992435953 tw9339080097705913930 tw11739131722721420747 tw15448893825925752618 tw17604133461927297488 tw8219895218119335255 tw9497587014329502931 tw8035970354907448462 tw11741596574630029441 tw14053409050004340101 tw13088056331068391495 tw10066313134425357921 tw4859620058020004092 tw7984997045442433355 tw575133786516867290 tw11958265013002887469 tw16626957429250464954 tw8752188045934906336 tw15135834132900283566 tw753968374276314939 tw5158906579726244543 tw8340798284299665015 tw11472135041808439275 tw9920023821325435809 tw6570109085011585090 tw4271077028192696618 tw12499339439447526569 tw17711685395674639378 tw6300476643657260324 tw16668005089670749906 tw7749960163144822084 tw15408904531232709428 tw6435998431224054299 tw14810672503302096658 tw10476434574817849258 tw8708734344180584559 tw33390356473617615 tw15415081234722823224 tw13587615307036265222 tw7654422249013414672 tw9144547082801782690 tw6833394246711466314 tw15040694052315308311 tw16181805151144219699 tw17631577502372236079 tw5495405640679891259 tw9291193992261575727 tw1703622107827647956 tw8480841973462073310 tw15572437022787411673 tw10023433201961809691 tw13605436538490078028 tw7431039056074491991 tw4567891079039108375 tw14751704200246600791 tw13029673476465477616 tw17229787020879250350 tw15935343249392646537 tw3160988060406959653 tw15631065960485640447 tw15728526309335586564 tw206379428989666140 tw9527934080386215605 tw10104245833099229946 tw9291956193345764529 tw3582225841890234784 tw2592046582163845913 tw1666169794614977660 tw11289187510572459679 tw12520806766563262044 tw8442640143630018092 tw5169211861329762192 tw3322524940494083831 tw6838234812170077242 tw14325580232329949881 tw6054999770268336823 tw6208836506399113929 tw15601935117487970379 tw4972818450927732727 tw1697234066386563922 tw1135875561112251295 tw10341996373117007728 tw4297727919006353413 tw2702259332231506277 tw12517928474046591585 tw9044881331055443791 tw9244685684023153177 tw5123828265840486449 tw16658105351720253250 tw3444146148187871252 tw2035496954606381270 tw7229033446543839148 tw17560597719771301269 tw7469617788827168869 tw13815583282949612780 tw12504908716539876468 tw5402307503283159417 tw5316198165967099394 tw15765903855695463236 tw7793601277077108587 tw7767521469786431479 tw5184960519211739528 tw12498969526591321915 tw5497073583395244155 tw11520454295550754910 tw9644077657784722932 tw2096557453647586874 tw2193298770429820184 tw156011312245217419 tw3202518742414519925 tw5405757054521421676 tw8932308171338197833 tw7055487259999649241 tw669676141559712492 tw11540846709171464846 tw15956199344960939621 tw16322522528896247963 tw623630859532389413 tw1431390089383271126 tw4875429301094023090 tw4287434372110553969 tw12593951671659781290 tw3778930177350830474 tw12703479130734749373 tw13805583875164488173 tw15009580537797252219 tw8170100960675285868 tw14137749625015535850 tw16277083438176274601 tw1450028630722539486 tw7046905781917070829 tw8878508266274523298 tw7212455892549285728 tw6138658097672846389 tw4127455543414129569 tw10902620622123217029 tw9936331147021879144 tw6896618955186623977 tw7127493593466502454 tw10157037422673235482 tw14733099996608166199 tw973411847093470736 tw7679169594751263966 tw6615040188083160515 tw11213412069727265621 tw1184888877702427456 tw7380066701431621587 tw13014123785207621782 tw7727940731705267685 tw16920566215142502462 tw18090152511836993672 tw11829801119566350376 tw347624002414108162 tw14637974740139356732 tw12682460471437036776 tw11073004239900628635 tw1053071125208174503 tw6160280590352012058 tw17980275309388944137 tw10016449445731387164 tw3812628707037043315 tw16694234451052412289 tw11076051547651690719 tw8516735556843050647 tw7025849646530925018 tw16350383129470875272 tw10726414101207440608 tw7382200886534578128 tw6034388184270402099 tw14845434752097599863 tw3826198748726268791 tw17074515576901580964 tw14231279265561466635 tw8870075395688234588 tw8822523167703768004 tw3532135332543146308 tw4730962443154059564 tw9384401769928502771 tw13260927366200253806 tw12718954229367161302 tw18193628688198405670 tw9224388387860160739 tw17794739863418963714 tw2585855427773970469 tw620718548254668311 tw9916863662363952959 tw11010420841007776306 tw3649392294984085042 tw14313254027615728247 tw17319688030478455435 tw17990214702960007603 tw9683649358152838250 tw18372166268946114807 tw8674414561784776611 tw6009296900470284642 tw3158591475578189333 tw6640303279884093346 tw171458631195666846 tw9281683028255322310 tw6345777182483574693 tw9316547893452359075 tw17263094565323605779 tw8413569007524405334 tw8457646560737852695 tw1621424818613226524 tw5724027836949660758 tw7760838451174758041 tw12789224896871779873 tw14339768282321656635 tw10913928452676942328 tw441405079118016473 tw622506493284070805 tw17138531514978967143 tw11325287216437933016 tw7811052574720395424 tw9534760844666891671 tw3569141495935900012 tw16892535154115309175 tw18371947342400631056 tw15886148664647043171 tw17936756808999070847 tw9828102535734390292 tw6888462636229968277 tw6967497551922319101 tw7512899424289676728 tw10758496484059841627 tw11192336137392240620 tw5732586737784824231 tw12176832644379472774 tw7103728050135945729 tw8210178451354562914 tw2298658296663333950 tw25658968549663396 tw17054154638508436935 tw53924899446756426 tw4889996203801981479 tw14968804153002198160 tw10326179679291351898 tw6234845224104931460 tw5664557937915090253 tw2011244295094365536 tw16740027970643408329 tw1698681226503008045 tw7902411987363509207 tw1916196600764867633 tw5821354663755223637 tw9511991254791899354 tw23648913237214467 tw14344379960526911101 tw11853086643662380087 tw7533948985630417508 tw5912165375566608665 tw11172783988151616183 tw3820755155358247251 tw1428849694461867139 tw16553514249766756971 tw3294049008651651518 tw12103422993355678517 tw5205933655889197990:True)
section
open PySem PySem.W PyProof.Rows
structure DL.hdBx (R : Prop) : Prop where
  out : R
def DL.hdWh {R : Prop} (_ : DL.hdBx R) := @WalkOS
theorem DL.hdWs : PySem.Challenge.rw_commabook_s01_answers.wellSaid = true := by decide +kernel
local macro_rules | `(tactic| o_headS ($_h:ident $k $a $e)) => `(tactic| o_headS (PySem.W.kmHook $k $a $e [114, 308]))
set_option maxHeartbeats 0 in
noncomputable def DL.headR : PSigma λR : Prop => DL.hdBx R -> PySem.Challenge.rw_commabook_s01_answers.Holds := ⟨_, by
  intro h
  have w := DL.hdWs
  have z := @holds_os
  rw [show @WalkOS = DL.hdWh h from rfl] at z
  revert z
  intro PySem.W.holds_os
  w_on; k_headS; (case hw => exact ⟨[.list []], by decide +kernel, by decide +kernel⟩)
  k_fillS
  delta DL.hdWh
  exact h.out⟩
end
open Array renaming getElem?_eq_getElem->eG,getElem?_eq_none->gM,getElem?_toList->fM,length_toList->br,toList_push->Jh
open Bool renaming and_comm->Ru,and_eq_true->aa,and_eq_true_iff->E6,and_false->qs,beq_eq_decide_eq->C6,eq_false_iff->cK,eq_iff_iff->b0,false_eq_true->jh,false_ne_true->c9,noConfusion->cY,not_eq_true->kl,not_eq_true'->jJ,or_eq_true->dM,true_and->Av
open Cb renaming BAD->cC,Bytes->kr,DIGITS->Zl,FAR->rb,FIVE_FOUR->gL,NOSCALE->tZ,Row->bP,Scale->jY,Stairs->Rt,UNSOUND->pN,across->bK,alike->U9,allRows->de,apart->kX,below->gK,between->kE,candidates->cG,chord->c5,decimal->Ax,degree->aL,den->cO,divide->Dg,ex->a0,floorOf->ck,fraction->iM,isBlank->d9,isDigit->pM,lead->y8,less->cf,lower->bD,mapped->xf,measure->cn,mode->lW,more->rz,movement->iL,nat->cP,nats->aO,noStairs->Zk,num->bQ,ofScale->M2,ofTold->QF,ofWeight->jx,once->nD,ordered->jZ,period->bJ,periods->UD,prime->eQ,rank->Yy,readScale->iE,round->Ak,rowOf->u6,rowTold->Ay,rowsFrom->iO,shape->Aw,signed->Di,sound->az,stairsOf->xn,step->c7,steps->Ji,stepsUp->Rr,sum->hX,tellFrom->nE,tempers->tY,times->bp,timesIn->tX,toldScale->YO,unit->kK,val->kD,whole->iA,within->aW,written->iN,zeros->bI
open CbNeutral renaming asked1->mq,callOf->jy,long->G9,step->gk,whole60->CH
open Classical renaming byContradiction->bq,not_not->cV
open Exists renaming choose_spec->E8
open False renaming elim->eK
open Int renaming add_comm->VA,add_mul->xb,add_mul_ediv_right->CU,ediv_eq_zero_of_lt->CV,ediv_le_ediv->Ny,emod_def->uA,emod_eq_of_lt->eZ,emod_lt_of_pos->fP,emod_neg->Vy,emod_nonneg->ff,fdiv_eq_ediv_of_nonneg->dH,fmod->RH,fmod_eq_emod_of_nonneg->yY,le_antisymm->xm,le_refl->xh,le_trans->VM,lt_or_gt_of_ne->mh,lt_or_le->VB,mul_assoc->U6,mul_comm->lL,mul_ediv_cancel_left->nB,mul_eq_zero->kZ,mul_le_mul->mo,mul_le_mul_of_nonneg_left->kH,mul_neg->Yx,mul_nonpos_of_nonneg_of_nonpos->sJ,mul_one->Yz,natAbs->mj,natAbs_dvd_natAbs->E3,natAbs_mul->cZ,natAbs_natCast->bC,natAbs_neg->mf,natCast_add->pK,natCast_dvd_natCast->CB,natCast_ediv->Nv,natCast_mul->eE,ofNat_le->oG,ofNat_lt->uI,one_mul->G7,pow_succ->uH,sub_emod_right->sH,toNat->lY,toNat_natCast->bH,toNat_of_nonneg->rm
open List renaming Nodup->Ja,all_cons->eS,all_eq_true->aN,all_map->iJ,any_cons->rq,any_eq_true->eO,any_map->ou,append_assoc->bu,append_nil->bM,dropLast_eq_take->Dh,drop_drop->jC,drop_eq_getElem_cons->mE,drop_eq_nil_of_le->om,drop_length->MU,drop_of_length_le->gR,drop_zero->x5,eq_nil_of_length_eq_zero->c8,eraseIdx_eq_take_drop_succ->uG,ext_getElem->nR,ext_getElem?->eW,filter->Vz,filter_congr->dC,filter_cons->bU,filter_eq_nil_iff->oA,filter_eq_self->G8,filter_filter->lR,filter_map->oE,find?_cons->oH,flatMap_cons->eB,flatMap_map->nY,flatMap_nil->nZ,flatten_cons->mL,foldl->Yw,foldl_cons->cA,forIn_cons->xg,forIn_nil->xY,getD_eq_getElem?_getD->aA,getElem?_append_left->f7,getElem?_append_right->x3,getElem?_cons_succ->AH,getElem?_drop->lX,getElem?_eq_getElem->ai,getElem?_eq_none->bF,getElem?_eq_none_iff->f9,getElem?_eq_some_iff->aQ,getElem?_map->aP,getElem?_range->dh,getElem?_set_ne->aU,getElem?_set_self->gQ,getElem?_take_of_lt->m9,getElem?_zipIdx->E9,getElem?_zip_eq_some->yX,getElem_cons_drop->jH,getElem_map->MX,getElem_mem->nV,getElem_of_mem->dj,getElem_range->Jg,getElem_zip->MW,getLast?_eq_none_iff->y6,getLast?_map->JB,getLastD_eq_getLast?->y4,head?_drop->Nf,isEmpty_iff->km,length->mG,length_append->bo,length_cons->aI,length_drop->cX,length_eraseIdx_of_lt->xZ,length_filter_le->dA,length_map->ak,length_nil->kW,length_range->dD,length_set->cb,length_take->kh,length_zip->gc,lookup->qp,lookup_cons->nU,map_append->bW,map_congr_left->dS,map_cons->aX,map_drop->fD,map_flatMap->nX,map_id->VP,map_map->aV,map_take->d7,mem_append->cz,mem_append_left->gg,mem_append_right->cS,mem_cons->aD,mem_cons_of_mem->af,mem_cons_self->ag,mem_filter->bV,mem_filterMap->lS,mem_flatMap->ki,mem_flatten->M1,mem_map->bg,mem_map_of_mem->cU,mem_of_getElem?->cx,mem_of_mem_drop->qt,mem_of_mem_take->Fb,mem_range->gA,mem_singleton->bB,nil_append->eC,nodup_cons->ia,nodup_range->MR,not_mem_nil->kj,of_mem_zip->df,pairwise_append->E4,pairwise_cons->a8,pairwise_flatMap->pJ,pairwise_iff_getElem->iQ,pairwise_lt_range->jD,pairwise_map->mK,pairwise_singleton->nT,perm_ext_iff_of_nodup->xW,perm_middle->M0,range->aj,range'->fE,range'_succ->nW,range_succ->xc,range_succ_eq_map->ot,replicate->iF,singleton_append->ik,size_toArray->bx,sum_cons->rA,take_append_drop->Dd,take_of_length_le->jE,take_range->Nz,take_sublist->Ju,toList_toArray->G3,zipIdx_cons->MT,zipIdx_nil->Nl,zip_map->U7
open List.Pairwise renaming imp->VC,imp_of_mem->dN,sublist->u4
open Nat renaming Coprime->qz,add_assoc->U5,add_comm->VO,add_sub_cancel_left->CG,add_zero->lO,div_eq_of_lt->NA,div_le_self->ls,div_lt_iff_lt_mul->il,div_mul_cancel->Jp,div_pos->xa,dvd_trans->U8,eq_of_mul_eq_mul_left->mF,eq_zero_or_pos->gX,gcd->jL,gcd_pos_of_pos_left->Cz,le_add_right->ku,le_div_iff_mul_le->E2,le_mul_of_pos_left->CT,le_mul_of_pos_right->fb,le_of_dvd->sy,le_of_eq->uD,le_of_lt->eU,le_of_mul_le_mul_left->Aj,le_of_mul_le_mul_right->md,le_of_not_lt->Nd,le_of_succ_le->uE,le_refl->aB,le_succ->m8,le_trans->aM,log2_lt->gj,log2_self_le->oa,lt_irrefl->fI,lt_log2_self->vi,lt_of_le_of_lt->bO,lt_of_lt_of_le->aJ,lt_of_mul_lt_mul_left->iS,lt_of_not_le->n9,lt_or_ge->lN,lt_succ_of_lt->fc,lt_succ_self->gC,lt_trans->gi,lt_two_pow_self->Jb,min_eq_left->lj,min_eq_right->Nw,mod_eq_of_lt->oh,mod_lt->oF,mul_add->xi,mul_add_div->QC,mul_add_mod->QE,mul_assoc->cR,mul_comm->cN,mul_div_cancel_left->gF,mul_le_mul->cE,mul_le_mul_left->cW,mul_le_mul_right->aZ,mul_lt_mul_of_lt_of_le->dG,mul_lt_mul_of_pos_left->yZ,mul_one->kI,mul_pos->kG,mul_pow->eV,mul_zero->VN,ne_of_gt->gS,ne_of_lt->a7,one_mul->qy,pos_of_ne_zero->mm,pow_add->gP,pow_le_pow_left->dw,pow_le_pow_right->dI,pow_lt_pow_left->rl,pow_lt_pow_right->qH,pow_mul->qA,pow_one->GX,pow_pos->dZ,pow_succ->gh,pow_zero->Df,strongRecOn->QB,succ_le_succ->Nm,zero_add->fA,zero_le->fJ
open Nat.Coprime renaming dvd_of_dvd_mul_left->Zi,dvd_of_dvd_mul_right->Zj,eq_one_of_dvd->tT,mul_right->ao,pow_right->Zh
open Ne renaming symm->dQ
open Option renaming all_some->Jr,getD_none->Jd,isNone_iff_eq_none->xB,map_eq_some_iff->et,map_some->oe
open Option.some renaming inj->bA,injEq->Zm
open PyFlat renaming call->CA,calls->jr,played->qJ,row->UE,rows->iz,told->uJ
open PyProof.Rows renaming AllBare->xo,Call_->Zp,News->Zn,Subscript_->vk,arrOf->UX,boot_range->Rz,callWith_builtin1->YB,callWith_kw->YG,callWith_type1->d4,entry_list_iadd'->VL,entry_list_sort->YJ,entry_proto_collect'->Np,envOfC->sQ,firstMet->gY,firstMet_length_le->vo,firstMet_zero->G6,int_text_len_1921->YF,joinParts_cons->C7,join_list->YD,join_tuple->YE,seqObj->kv,slot_list_sort->ZA,slot_tuple_getitem->RB,sortedAll_at->YH,sortedAll_old->YI,step_dedup->iY,subscriptTail_builtinR->qF
open PyProof.Rows.F renaming entry_set_update_loop->ni,plain_set_update_loop->ib
open PyProof.Rows.G renaming tupKeyC->sC,tupKeyC_of->Zz
open PySem renaming Addr->aE,BindsTo->UK,Builtin->jG,ElemsOf->U0,IsPair->gW,IsZip->oy,ItemsOf->UY,PassesOwn->yS,Result->Zq,Spec->aC,Within->AF,again->An,argBest->tU,argsOk->Jz,assign->qD,assignEach->iX,attributeBase->fV,backTo->dU,backToKw->gT,binaryOp->qg,bindArgs->xr,bindC->Nh,bootBuiltins->iq,builtinLookup_eq_fast->MZ,builtinsNs->vj,callWith->xt,call_meets->C3,callerA->Va,cellsFrom->dX,closureFor->vm,codeAny->iI,codeAny_builtin->dR,codeAny_mono->mH,codeAny_of_tree->YL,collect->UZ,compEnvC->cJ,compPost->Zu,compareOp->cQ,entryFor->ZC,entryFor_alias->ZD,eval->cq,evalPart->C0,field->Nj,firstArgMember->ny,fits_of_scanBound->xy,foldedSetIterable->cH,getD_mem->ju,getItem->Jv,getMethod->m7,holding->fw,intItems->nu,intItems_at->Aq,intKind->mJ,intKind_is->RF,isSubtype_stop->sU,isSubtype_type->C9,isTrue->qB,keywordEach->eA,lastMarks->yU,letOwnedTupleGo->qY,mainGlobals->cD,mem_getD->C5,mem_of_lookup->bS,methodCallForm->ZF,model->aT,newExc->Zv,newFunctionEnv->Zs,newList->UP,newTuple->Zw,notedBy->CC,numAt->UN,numAt_eq->xu,numsOf->Zr,nums_intItems->uY,plainId_quiet->jw,pushCells->ng,pushCells_keeps->qZ,pyIter->yT,pyNext->jk,raiseNew->Zx,rawInt->cg,recursionLimit->CY,rule->GZ,scanBound->nh,seqIndex?->VF,seqIndex_neg->Jw,seqIndex_of->Ni,seqItems?->tV,setEntries->Dc,setField->ZE,setItem->UG,setNext->tW,setsByText->De,sizeLine->aG,sizeLine_eq->sP,sliceBounds->oo,slot_list_getitem->UM,standAt->lJ,starEach->aH,strLen_append->gz,subscripted->Ap,swapsWith->fz,swapsWithSole->GY,sysModules->CW,typeLookup->RA,typeLookup_type->YM,unaryOp->UJ,unsupported->oz,updateSeq->Jf,wpAny->aK,wpAny_Call_Name_kw->gb,wpAny_Compare1->Zo,wpAny_Constant_int->Rv,wpAny_Name->qC,wpAny_askSetting->je,wpAny_assign_Name->UH,wpAny_attempt->jv,wpAny_bind->ab,wpAny_call->CZ,wpAny_callSpecial?_slot->c6,wpAny_call_entry->dE,wpAny_execs_cons->VD,wpAny_execs_nil->qX,wpAny_field->fj,wpAny_fieldsOf->sW,wpAny_handled->G5,wpAny_holding->eX,wpAny_isInstance->lh,wpAny_isTrue_Compare1->MS,wpAny_ite_split->YN,wpAny_letGo->lM,wpAny_load->Rx,wpAny_loadName_free->Qw,wpAny_loadName_local->sO,wpAny_mono->fB,wpAny_newList->u1,wpAny_newObj_type->eh,wpAny_newTuple->Zy,wpAny_of_eq->sS,wpAny_onRaise->uZ,wpAny_passesOwn->iB,wpAny_pure->aq,wpAny_pyIter_enum->UQ,wpAny_pyIter_list->oq,wpAny_pyIter_range->Ry,wpAny_pyIter_rangeiter->Jt,wpAny_pyIter_slot->U2,wpAny_pyIter_tuple->RE,wpAny_pyIter_zip->VI,wpAny_pyNext_range_end->Js,wpAny_rule->nv,wpAny_runValue->C8,wpAny_seqItems->dB,wpAny_setEntries_of->jm,wpAny_setEpoch_of->U4,wpAny_setField->gU,wpAny_setField_rec->ir,wpAny_setState_of->iK,wpAny_specialOf->YC,wpAny_standAt->uX,wpAny_storeSet_of->U1,wpAny_throw->Nk,wpAny_truthy_bool->ef,wpAny_tryCatch->nA,wpAny_updateSeq->jI,wpAny_updateSeq_pair->sT
open PySem.Around renaming under_plainId->dF
open PySem.AutoSeq1 renaming idx_int->UR,sub_list_list->UT,sub_list_tuple->UW,sub_tuple_list->UU,sub_tuple_tuple->US,wpAny_loadPart'->pL
open PySem.Builtin.Builtins renaming bindParams->qj
open PySem.Builtin.Frozenset renaming newClass->Nq,sizeOf->Nu,updateFrom->Nr
open PySem.Builtin.Int renaming intBits->dJ
open PySem.Builtin.List renaming listExtendWith->gD,listLengthHint->gE,listSameRef->j0,listTooLong->fL,listTouch->u5
open PySem.Builtin.Range renaming rangeFitsLong->VJ,rangeSize->dW,small->jF
open PySem.Builtin.SmallTypes renaming nextOf->cy,ownedTupleHandOut->lV,ownedTupleIsFree->eL
open PySem.Calls renaming Name_function_global->xq,callWith_builtin->og,evalArgs_plain->C2,spliced_cons->G2,spliced_nil->Jc
open PySem.Challenge renaming pw_commabook_s01_answers->RG,rw_commabook_s01_answers->en
open PySem.Code renaming quiet_builtin->sD
open PySem.F renaming args_list_extend_2->Jy,args_tuple_iterator_next_1->yW,args_zip_next_1->Qy,called_set->eJ,entry_list_extend->MV,entry_max_loop->oC,entry_tuple_iterator_next->Ar,entry_zip_next->RD,plainAttrs_list->mI,plain_max_loop->ft,plain_set_new->As,slot_enumerate_next->Je,slot_list_append->C4,slot_list_extend->qG,slot_list_index->xX,slot_set_iter->Au,slot_tuple_iterator_next->iP,slot_zip_next->qr
open PySem.Heap renaming ExtBut->VH,SameBut->iH,get?_none_of_le->E5,get?_push_of_some->ae,get?_push_size->ay,get?_update_other->a9,get?_update_self->d6,lt_size->aF,size_push->bR
open PySem.Heap.IsSliceOf renaming new->UL
open PySem.Heap.SameBut renaming refl->YK,update->jN
open PySem.IsRange renaming new->Qx
open PySem.Obj renaming data_mapFields->Jx,mapFields->U3,mapSeq->jl,putSet->sV
open PySem.Paired renaming length->Ng
open PySem.PassesOwn renaming never->E7
open PySem.PyData renaming canLayAll0->sA,depth->Qz,depthAll->u0,eqv->UO,eqvAll->Nn
open PySem.SeqAt renaming EqAt->VG,shaped->sR
open PySem.SeqAt.EqAt renaming int_str->Al,str_int->Am
open PySem.SetTable renaming below->bY,grown->ij,has->MY,slot->JA
open PySem.SetTable.below renaming go->kx
open PySem.SetTable.probe renaming go->xx
open PySem.Shared renaming heap->CD
open PySem.Str renaming empty->lU,join->qI,ofString->aR,ofString_eq_toList->oI
open PySem.Txt renaming join->kJ
open PySem.Value renaming isInt->uW
open PySem.W renaming Frag->ah,WRecords->G4,callWith_K->qE,callWith_K0->qi,cellsFrom_some->yV,codeHdIn->jO,codeHd_of_K->CF,codeIn->lg,emptyDict->fX,findIn->da,fnOf->fg,handedIn->G1,hasDictIn->lT,instObj->iT,isFn->nr,keepIn->b8,kla_fn->vn,kla_obj->iU,length_le_weightAllW->uF,lookIn->oB,makesIn->uC,methodCall_KW->Ao,mg_of->qu,nsIn->nF,plainGet->jM,plainGet_of->qh,plainOver->rn,tabObj->oD,takerIn->uB
open PySem.W.Codec renaming encAll->RC
open PySem.W.Looks renaming here->VE
open PySem.W.WData renaming weightAll->ox
open PySem.Walks renaming list->xw,range->UI
open PySem.Within renaming cons->YA
open PySem.pickOrder renaming go->xA
open PyWqaaax renaming answers->sE,answers_asked->x8,shape->ji,whole->u7
open String renaming ofList->Nt
def YQ:=@beq_eq_false_iff_ne
def fQ:=@beq_iff_eq
def Dj:=@beq_self_eq_true
def ip:=@congrArg
def nq:=@decide_eq_false
def QA:=@decide_eq_false_iff_not
def fC:=@decide_eq_true
def aw:=@decide_eq_true_eq
def bz:=@decide_eq_true_iff
def x4:=@forall_congr'
def AG:=@if_false
def ax:=@if_neg
def au:=@if_pos
def sG:=@if_true
def sM:=@not_or
def gN:=@of_decide_eq_true
def Jq:=@or_false
local macro_rules|`(command|def $i:declId$s:optDeclSig$v:declVal)=>`(command|noncomputable def $i:declId$s:optDeclSig$v:declVal)|`(command|abbrev $i:declId$s:optDeclSig$v:declVal)=>`(command|noncomputable abbrev $i:declId$s:optDeclSig$v:declVal)
noncomputable section
theorem JN{p:Prop}[Decidable p](h:decide p=true:=by rfl):p:=of_decide_eq_true h
theorem zv{p:Prop}(h:p:=by decide+kernel):p:=h
theorem Eg{p:Prop}(h:p:=by simp_all):p:=h
namespace CM
open Cb
def pw(f:Nat->Nat):Nat:=2^f 0*3^f 1*5^f 2*7^f 3*11^f 4*13^f 5
theorem gG(x):num x=pw λi=>(ex x i).toNat:=by show product [2^_,3^_,5^_,7^_,11^_,13^_]=_;simp only[product,Yw,pw,qy]
theorem i5(x):den x=pw λi=>(-(ex x i)).toNat:=by show product [2^_,3^_,5^_,7^_,11^_,13^_]=_;simp only[product,Yw,pw,qy]
def mw(f g):pw (λi=>f i+g i)=pw f*pw g:=by simp only[pw,gP];ac_rfl
theorem eD(h:∀i,i<6->f i=g i):pw f=pw g:=by simp_all [pw]
def zR(f):0<pw f:=by unfold pw;have h:∀p k:Nat,0<p->0<p^k:=λp k c=>dZ c;simp_all
def j3(x):0<num x:=by rw[gG];exact zR _
def JP(x):0<den x:=by rw[i5];exact zR _
theorem dc(m n)(a b){i}(h:i<6):ex (sum m a n b) i=m*ex a i+n*ex b i:=by unfold ex sum;rw[aA,aP,dh h];rfl
theorem bZ(m n)(a b):(sum m a n b).length=6:=by simp[sum]
theorem ej(g:a.length=6)(k:b.length=6)(h:∀i,i<6->ex a i=ex b i):a=b:=by apply nR Eg;intro i j l;have:=h i Eg;grind [ex,aA,ai]
theorem gr(a b){i}(h:i<6):ex (less a b) i=ex a i -ex b i:=by unfold less;rw[dc _ _ _ _ h];lia
def zM(a b){i}(h:i<6):ex (more a b) i=ex a i+ex b i:=by unfold more;rw[dc _ _ _ _ h];simp_all
theorem cT(h:i<6):ex zeros i=0:=by match i,h with|0,_=>rfl|1,_=>rfl|2,_=>rfl|3,_=>rfl|4,_=>rfl|5,_=>rfl
def nt(x:Int):(x.toNat:Int)=x+(-x).toNat:=by have:=Int.toNat_sub_toNat_neg x;lia
def nn(x y:Int):(x-y).toNat+((-x).toNat+y.toNat)=(-(x-y)).toNat+(x.toNat+(-y).toNat):=by have a:=nt x;have b:=nt y;have c:=nt (x-y);generalize(x-y).toNat=d at*;generalize x.toNat=d at*;generalize y.toNat=d at*;generalize(-x).toNat=d at*;generalize(-y).toNat=d at*;generalize(-(x-y)).toNat=d at*;lia
def jx5(a b):num (less a b)*(den a*num b)=den (less a b)*(num a*den b):=by simp only[gG,i5,<-mw];apply eD;intro i h;rw[gr a b h];exact nn _ _
theorem i9(a b):lower a b=true↔num a*den b<num b*den a:=by unfold lower;rw[bz];have e:=jx5 a b;have o:=JP a;have n:=j3 a;have l:=JP b;have m:=j3 (less a b);rw[cN (num b)];constructor;{intro h;apply n9;intro j;have:=dG h j (kG n l);simp_all};.intro h;apply n9;intro j;have:=Nat.mul_lt_mul_of_le_of_lt j h m;simp_all
theorem j9(a b:Row):lower a b=false↔num b*den a<=num a*den b:=by rw[<-kl,i9,Nat.not_lt]
theorem jP(i:1<p):∀{a b m n},qz p m->qz p n->p^a*m=p^b*n->a=b/\m=n|0,0,m,n,_,_,h=>by simp_all|0,b+1,m,n,g,_,h=>by have d:p∣m:=⟨p^b*n,by grind⟩;have:=tT g d;omega|a+1,0,m,n,_,f,h=>by have d:p∣n:=⟨p^a*m,by grind⟩;have:=tT f d;omega|a+1,b+1,m,n,g,f,h=>by have h':p*(p^a*m)=p*(p^b*n):=by{grind};have:=jP i g f (mF (by lia) h');simp_all
def jj(k)(h:qz p q):qz p (q^k):=Zh k h
theorem Dk{f g:Nat->Nat}(h:pw f=pw g):∀i,i<6->f i=g i:=by unfold pw at h;simp only[cR] at h;obtain⟨h0,h⟩:=jP JN (ao (jj _ JN) (ao (jj _ JN) (ao (jj _ JN) (ao (jj _ JN) (jj _ JN))))) (ao (jj _ JN) (ao (jj _ JN) (ao (jj _ JN) (ao (jj _ JN) (jj _ JN))))) h;obtain⟨h1,h⟩:=jP JN (ao (jj _ JN) (ao (jj _ JN) (ao (jj _ JN) (jj _ JN)))) (ao (jj _ JN) (ao (jj _ JN) (ao (jj _ JN) (jj _ JN)))) h;obtain⟨h2,h⟩:=jP JN (ao (jj _ JN) (ao (jj _ JN) (jj _ JN))) (ao (jj _ JN) (ao (jj _ JN) (jj _ JN))) h;obtain⟨h3,h⟩:=jP JN (ao (jj _ JN) (jj _ JN)) (ao (jj _ JN) (jj _ JN)) h;obtain⟨h4,h⟩:=jP JN (jj _ JN) (jj _ JN) h;obtain⟨h5,_⟩:=jP (p:=13) (m:=1) (n:=1) JN JN JN (by simpa using h);intro i hi;match i,hi with|0,_=>exact h0|1,_=>exact h1|2,_=>exact h2|3,_=>exact h3|4,_=>exact h4|5,_=>exact h5
theorem jx6{a b:Row}(f:a.length=6)(e:b.length=6)(h:num a*den b=num b*den a):a=b:=by rw[gG,i5,gG,i5,<-mw,<-mw] at h;exact ej f e λi hi=>by have:=Dk h i hi;have:=nt (ex a i);have:=nt (ex b i);generalize(ex a i).toNat=d at*;generalize(ex b i).toNat=d at*;generalize(-ex a i).toNat=d at*;generalize(-ex b i).toNat=d at*;lia
def EO(h:num x=den x):∀i,i<6->ex x i=0:=by grind [gG,i5,Dk]
theorem jd(g:lower a b=true)(f:lower b c=true):lower a c=true:=by rw[i9] at*;have h:=JP c;have i:=dG g (aB (den c)) h;have j:=dG f (aB (den a)) (JP a);apply Nat.lt_of_mul_lt_mul_right (a:=den b);grind
theorem le_trans{a b c}(g:lower b a=false)(f:lower c b=false):lower c a=false:=by
 rw[j9] at*;apply md _ (JP b);calc num a*den c*den b=num a*den b*den c:=by ac_rfl
  _<=num b*den a*den c:=aZ _ g
  _=num b*den c*den a:=by ac_rfl
  _<=num c*den b*den a:=aZ _ f
  _=num c*den a*den b:=by ac_rfl
theorem l6(h:lower a b=true):lower b a=false:=by rw[i9] at h;rw[j9];lia
def Bs(d:a.length=6)(g:b.length=6)(f:lower a b=false)(e:lower b a=false):a=b:=by grind [j9,jx6]
theorem fZ{a b c d:Row}(h:∀i,i<6->ex a i -ex b i=ex c i -ex d i):lower a b=lower c d:=by have e:∀i,i<6->ex (less a b) i=ex (less c d) i:=λi hi=>by{rw[gr _ _ hi,gr _ _ hi,h i hi]};have:less a b=less c d:=ej (bZ _ _ _ _) (bZ _ _ _ _) e;unfold lower;rw[this]
def jx7:lower zeros x=true↔den x<num x:=by rw[i9];have:num zeros=1:=rfl;have:den zeros=1:=rfl;simp[*]
def Vp(p n k:Nat):Prop:=∃m,n=p^k*m/\¬p∣m
def Vp.uniq(u:1<p)(w:Vp p n a)(s:Vp p n b):a=b:=by have r:∀{x y:Nat},Vp p n x->Vp p n y->x<=y:=by{rintro x y ⟨m,e,v⟩ ⟨t,e',l⟩;apply Nd;intro q;obtain⟨c,rfl⟩:∃c,x=y+1+c:=⟨x -(y+1),by grind⟩;apply l;have h:0<p^y:=dZ (by lia);refine⟨p^c*m,?_⟩;apply mF h;grind};grind
def Vp.zero(h:¬p∣n):Vp p n 0:=⟨n,by simp,h⟩
def Vp.succ{p n k:Nat}(h:Vp p n k):Vp p (p*n) (k+1):=by obtain⟨m,e,hm⟩:=h;exact⟨m,by rw[e,gh];ac_rfl,hm⟩
def Vp.mul(f:qz p a)(h:Vp p n k):Vp p (a*n) k:=by obtain ⟨m,e,g⟩:=h;exact⟨a*m,by grind,λd=>g (Zi f d)⟩
theorem r8(o:1<p):∀(f n),0<n->n<p^f->Vp p n (times p f n)|0,n,m,h=>by simp_all|f+1,n,m,h=>by unfold times;by_cases j:n % p=0;{rw[au ⟨by lia,j⟩];have e:=by{have:=Nat.div_add_mod n p;omega};have k:0<n/p:=by{grind};have l:n/p<p^f:=Nat.div_lt_of_lt_mul (by lia);have r:=(r8 o f (n/p) k l).succ;simp_all};.rw[ax Eg];exact .zero λd=>j (Nat.mod_eq_zero_of_dvd d)
def oU(h:i<6):1<prime i:=by match i,h with|0,_=>decide|1,_=>decide|2,_=>decide|3,_=>decide|4,_=>decide|5,_=>decide
def um(n:Nat)(f:Nat->Nat)(R:Nat):Prop:=n=pw f*R/\∀i,i<6->¬prime i∣R
def um.vp{f}(h:um n f R){i}(hi:i<6):Vp (prime i) n (f i):=by obtain⟨e,hr⟩:=h;have z:Vp (prime i) (prime i^f i*R) (f i):=⟨R,rfl,hr i hi⟩;unfold pw at e;match i,hi with|0,_=>rw[show n=(3^f 1*5^f 2*7^f 3*11^f 4*13^f 5)*(prime 0^f 0*R) by rw[e];ac_rfl];exact z.mul (ao (ao (ao (ao (jj _ JN) (jj _ JN)) (jj _ JN)) (jj _ JN)) (jj _ JN))|1,_=>rw[show n=(2^f 0*5^f 2*7^f 3*11^f 4*13^f 5)*(prime 1^f 1*R) by rw[e];show _=_*(3^f 1*R);ac_rfl];exact z.mul (ao (ao (ao (ao (jj _ JN) (jj _ JN)) (jj _ JN)) (jj _ JN)) (jj _ JN))|2,_=>rw[show n=(2^f 0*3^f 1*7^f 3*11^f 4*13^f 5)*(prime 2^f 2*R) by rw[e];show _=_*(5^f 2*R);ac_rfl];exact z.mul (ao (ao (ao (ao (jj _ JN) (jj _ JN)) (jj _ JN)) (jj _ JN)) (jj _ JN))|3,_=>rw[show n=(2^f 0*3^f 1*5^f 2*11^f 4*13^f 5)*(prime 3^f 3*R) by rw[e];show _=_*(7^f 3*R);ac_rfl];exact z.mul (ao (ao (ao (ao (jj _ JN) (jj _ JN)) (jj _ JN)) (jj _ JN)) (jj _ JN))|4,_=>rw[show n=(2^f 0*3^f 1*5^f 2*7^f 3*13^f 5)*(prime 4^f 4*R) by rw[e];show _=_*(11^f 4*R);ac_rfl];exact z.mul (ao (ao (ao (ao (jj _ JN) (jj _ JN)) (jj _ JN)) (jj _ JN)) (jj _ JN))|5,_=>rw[show n=(2^f 0*3^f 1*5^f 2*7^f 3*11^f 4)*(prime 5^f 5*R) by rw[e];show _=_*(13^f 5*R);ac_rfl];exact z.mul (ao (ao (ao (ao (jj _ JN) (jj _ JN)) (jj _ JN)) (jj _ JN)) (jj _ JN))
def nL(hi:i<6):2<=prime i:=by have:=oU hi;lia
def um.times{f}(h:um n f R)(b:0<n){k}(a:n<2^k){i}(hi:i<6):bp (prime i) k n=f i:=(r8 (oU hi) k n b (aJ a (dw (nL hi) k))).uniq (oU hi) (h.vp hi)
def fG(n d:Nat):Row:=PRIMES.map λ(p:Nat)=>(bp p 200 n:Int) -(bp p 200 d:Int)
def w9(n d):(fG n d).length=6:=rfl
def jx8(n d){i}(hi:i<6):ex (fG n d) i=(bp (prime i) 200 n:Int) -(bp (prime i) 200 d:Int):=by match i,hi with|0,_=>rfl|1,_=>rfl|2,_=>rfl|3,_=>rfl|4,_=>rfl|5,_=>rfl
def B3{n d R S}{f g}(m:um n f R)(l:um d g S)(n0:0<n)(d0:0<d)(s:n<2^200)(t:d<2^200):rowOf n d=if R=S then some (fG n d) else none:=by show(if n*den (fG n d)=d*num (fG n d) then some (fG n d) else none)=_;have e:n*den (fG n d)=d*num (fG n d)↔R=S:=by{have u:=m.1;have v:=l.1;have o:pw f*den (fG n d)=pw g*num (fG n d):=by{rw[i5,gG,<-mw,<-mw];apply eD;intro i hi;rw[jx8 n d hi,m.times n0 s hi,l.times d0 t hi];lia};have r:n*den (fG n d)=pw f*den (fG n d)*R:=by{grind};have p:d*num (fG n d)=pw g*num (fG n d)*S:=by{grind};rw[r,p,o];have:0<pw g*num (fG n d):=kG (zR _) (j3 _);exact⟨λq=>mF this q,λq=>by rw[q]⟩};simp_all
def Fl(U V:Nat)(k:Int):Prop:=∃a b:Nat,k=(a:Int) -(b:Int)/\V*2^a<=U*2^b/\U*2^b<V*2^(a+1)
def Fl.le(j:Fl U V k)(q:Fl U V l):k<=l:=by obtain⟨a,b,rfl,r,_⟩:=j;obtain⟨c,d,rfl,_,i⟩:=q;have o:V*2^(a+d)<=U*2^(b+d):=by{rw[gP,gP,<-cR,<-cR];exact aZ _ r};have n:U*2^(b+d)<V*2^(c+1+b):=by{have:=dG i (aB (2^b)) (dZ JN);grind};have p:=bO o n;have m:=iS p;have s:=(Nat.pow_lt_pow_iff_right JN).mp m;lia
def Fl.uniq(a:Fl U V k)(b:Fl U V l):k=l:=xm (a.le b) (b.le a)
def bl(n:Nat):Nat:=if n=0 then 0 else n.log2+1
def F1(h:0<n):2^(bl n -1)<=n/\n<2^bl n/\1<=bl n:=by unfold bl;rw[ax (by omega)];exact⟨oa (by omega),vi,by simp_all⟩
def sd(U V:Nat):Int:=
 let o:Int:=(bl U:Int) -(bl V:Int)
 if(if 0<=o then decide (V*2^o.toNat<=U) else decide (V<=U*2^(-o).toNat))=true then o else o -1
def jx9(hU:0<U)(hV:0<V):Fl U V (sd U V):=by obtain⟨x,u2,u3⟩:=F1 hU;obtain⟨y,v2,v3⟩:=F1 hV;have up:U*2^bl V<V*2^(bl U+1):=by{have a1:U*2^bl V<2^bl U*2^bl V:=dG u2 (aB _) (dZ JN);have a2:2^(bl V -1)*2^(bl U+1)<=V*2^(bl U+1):=aZ _ y;have a3:2^bl U*2^bl V=2^(bl V -1)*2^(bl U+1):=by{rw[<-gP,<-gP];congr 1;grind};omega};have dn:V*2^(bl U -1)<=U*2^bl V:=by{have a1:V*2^(bl U -1)<=2^bl V*2^(bl U -1):=aZ _ (eU v2);have a2:2^(bl U -1)*2^bl V<=U*2^bl V:=aZ _ x;rw[cN (2^bl V)] at a1;exact aM a1 a2};unfold sd;dsimp only;have key:(if(0:Int)<=(bl U:Int) -(bl V:Int) then decide (V*2^((bl U:Int) -(bl V:Int)).toNat<=U) else decide (V<=U*2^(-((bl U:Int) -(bl V:Int))).toNat))=true↔V*2^bl U<=U*2^bl V:=by{by_cases h:(0:Int)<=(bl U:Int) -(bl V:Int);{rw[au h,bz];have e:bl U=((bl U:Int) -(bl V:Int)).toNat+bl V:=Eg;generalize ((bl U:Int) -(bl V:Int)).toNat=o at*;rw[e,gP,<-cR];exact⟨λq=>aZ _ q,λq=>md q (dZ JN)⟩};.rw[ax h,bz];have e:bl V=(-((bl U:Int) -(bl V:Int))).toNat+bl U:=by{lia};generalize (-((bl U:Int) -(bl V:Int))).toNat=o at*;rw[e,gP,<-cR];exact⟨λq=>aZ _ q,λq=>md q (dZ JN)⟩};by_cases h:V*2^bl U<=U*2^bl V;{rw[au (key.mpr h)];exact⟨bl U,bl V,rfl,h,up⟩};.rw[ax (λq=>h (key.mp q))];refine⟨bl U -1,bl V,by grind,dn,?_⟩;rw[show bl U -1+1=bl U by simp_all];simp_all
def zK(f)(k):pw f^k=pw λi=>f i*k:=by unfold pw;simp only[eV,<-qA]
def jz0(k):2^k=pw λi=>if i=0 then k else 0:=by unfold pw;simp
def xP(x:Row){n}(hn:1<=n):steps x n=(sd (num x^(2*n)) (den x^(2*n))+1)/2:=by have hU:0<num x^(2*n):=dZ (j3 x);have hV:0<den x^(2*n):=dZ (JP x);have F:=jx9 hU hV;unfold steps Rr;by_cases h:num x<den x;{rw[au h];have hUV:num x^(2*n)<den x^(2*n):=rl h (by lia);have hq:den x^(2*n)/num x^(2*n)≠0:=by{have:=xa (eU hUV) hU;lia};generalize hL:(den x^(2*n)/num x^(2*n)).log2=L;have l1:2^L<=den x^(2*n)/num x^(2*n):=by{rw[<-hL];exact oa hq};have l2:den x^(2*n)/num x^(2*n)<2^(L+1):=by{rw[<-hL];exact vi};have m1:num x^(2*n)*2^L<=den x^(2*n):=by{rw[cN];exact(E2 hU).mp l1};have m2:den x^(2*n)<num x^(2*n)*2^(L+1):=by{rw[cN (num x^(2*n))];exact(il hU).mp l2};by_cases e:num x^(2*n)*2^L=den x^(2*n);{have G:Fl (num x^(2*n)) (den x^(2*n)) (-(L:Int)):=⟨0,L,by simp_all,by simp_all,by rw[e];simp_all⟩;rw[F.uniq G];have ev:L % 2=0:=by{rw[gG,i5,zK,zK,jz0,<-mw] at e;have:=Dk e 0 JN;simp only[sG] at this;have q1:(ex x 0).toNat*(2*n)=2*((ex x 0).toNat*n):=by{ac_rfl};have q2:(-(ex x 0)).toNat*(2*n)=2*((-(ex x 0)).toNat*n):=by{ac_rfl};rw[q1,q2] at this;lia};lia};.have G:Fl (num x^(2*n)) (den x^(2*n)) (-((L:Int)+1)):=⟨0,L+1,by simp_all,by lia,by rw[gh,<-cR];simp;lia⟩;rw[F.uniq G];lia};.rw[ax h];have hUV:den x^(2*n)<=num x^(2*n):=dw Eg _;have hq:num x^(2*n)/den x^(2*n)≠0:=by{have:=xa hUV hV;lia};generalize hL:(num x^(2*n)/den x^(2*n)).log2=L;have l1:2^L<=num x^(2*n)/den x^(2*n):=by{rw[<-hL];exact oa hq};have l2:num x^(2*n)/den x^(2*n)<2^(L+1):=by{rw[<-hL];exact vi};have m1:den x^(2*n)*2^L<=num x^(2*n):=by{rw[cN];exact(E2 hV).mp l1};have m2:num x^(2*n)<den x^(2*n)*2^(L+1):=by{rw[cN (den x^(2*n))];exact(il hV).mp l2};have G:Fl (num x^(2*n)) (den x^(2*n)) (L:Int):=⟨L,0,by simp_all,by simp_all,by simp_all⟩;rw[F.uniq G];simp_all
class inductive fN(S:Row->Prop):Row->Prop
 |zero:fN S zeros
 |step {a b:Row} (m:Int):fN S a->S b->fN S (sum 1 a m b)
def fN.len(h:fN S x):x.length=6:=by cases h with|zero=>rfl|step m _ _=>exact bZ _ _ _ _
def yJ(a)(m)(c:a.length=6):sum 1 a m zeros=a:=ej (bZ _ _ _ _) c λi hi=>by rw[dc _ _ _ _ hi,cT hi];simp_all
def jz1(b)(c:b.length=6):sum 1 zeros 1 b=b:=ej (bZ _ _ _ _) c λi hi=>by rw[dc _ _ _ _ hi,cT hi];simp_all
def fN.mem(h:S b)(c:b.length=6):fN S b:=by rw[<-jz1 b c];exact .step 1 .zero h
def fN.add{S:Row->Prop}{a b:Row}(m:Int)(ha:fN S a)(hb:fN S b):fN S (sum 1 a m b):=by induction hb with|zero=>rw[yJ a m ha.len];exact ha|@step b' c k _ hc ih=>have e:sum 1 a m (sum 1 b' k c)=sum 1 (sum 1 a m b') (m*k) c:=ej (bZ _ _ _ _) (bZ _ _ _ _) λi hi=>by{simp only[dc _ _ _ _ hi];grind};rw[e];exact .step _ ih hc
def fN.Wl(m n)(f:fN S a)(g:fN S b):fN S (sum m a n b):=by have e:sum m a n b=sum 1 (sum 1 zeros m a) n b:=ej (bZ _ _ _ _) (bZ _ _ _ _) λi hi=>by{simp_all [dc,cT]};rw[e];exact .add n (.add m .zero f) g
def fN.sub(h:∀b,S b->fN T b){x}(e:fN S x):fN T x:=by induction e with|zero=>exact .zero|step m _ f g=>exact .add m g (h _ f)
def fN.col(g:fN S x){j}(f:j<6)(h:∀b,S b->ex b j=0):ex x j=0:=by induction g with|zero=>exact cT f|step m _ i l=>rw[dc _ _ _ _ f,h _ i];simp_all
def lC(c:Nat)(x:Row):Prop:=∀j,j<c->ex x j=0
def lC.sum(m n)(h:c<=6)(g:lC c a)(f:lC c b):lC c (hX m a n b):=λj e=>by rw[dc _ _ _ _ (by lia),g j e,f j e];simp_all
theorem lC.zeros(c)(b:c<=6):lC c zeros:=λj d=>cT (by lia)
def lC.all(a:x.length=6)(h:lC 6 x):x=bI:=ej a rfl λi hi=>by rw[h i hi,cT hi]
def lC.up(h:lC c x)(e:ex x c=0):lC (c+1) x:=λj g=>by by_cases q:j=c;{simp_all};.exact h j (by lia)
def lC.dn{x}(h:lC c x)(e:d<=c):lC d x:=λj b=>h j (by lia)
def EA:Nat->Nat|0=>8|c+1=>2*(EA c*EA c)
def jz2(h:c<=5):EA c<=2^127:=(show∀c<6,EA c<=2^127 by decide) c (Nat.lt_succ_of_le h)
theorem FN:∀c,1<=EA c|0=>by decide|c+1=>by have:=FN c;have:=cE this this;show 1<=2*(EA c*EA c);lia
def FV{x y:Int}{B}(c:x.natAbs<=B)(b:y.natAbs<=B):(x*y).natAbs<=B*B:=by rw[cZ];exact cE c b
structure Lj(S:Row->Prop)(c:Nat)(E:Row->Prop):Prop where
 CJ:∀u,E u->fN S u
 M5:∀u,E u->lC c u
 bd:∀u,E u->∀i,i<6->(ex u i).natAbs<=EA c
 all:∀w,fN S w->lC c w->∃m:Int,m≠0/\fN E (sum m w 0 zeros)
def jz3(f:∀u,S u->u.length=6)(l:∀u,S u->∀i,i<6->(ex u i).natAbs<=8):Lj S 0 S where
 CJ:=λu c=>.mem c (f u c)
 M5:=λu _ j n=>by simp_all
 bd:=l
 all:=λw k _=>⟨1,by decide,by
  have e:=yJ w 0 k.len
  simp_all⟩
def Lj.next{c}(hc:c<6)(h:Lj S c E):∃E',Lj S (c+1) E':=by by_cases hp:∃p,E p/\ex p c≠0;{obtain⟨p,hE,hpc⟩:=hp;refine⟨λv=>∃u,E u/\v=sum (ex p c) u (-(ex u c)) p,?_,?_,?_,?_⟩;{rintro v ⟨u,hu,rfl⟩;exact .Wl _ _ (h.CJ u hu) (h.CJ p hE)};{rintro v ⟨u,hu,rfl⟩;apply lC.up (lC.sum _ _ (by lia) (h.M5 u hu) (h.M5 p hE));rw[dc _ _ _ _ hc];grind};{rintro v ⟨u,hu,rfl⟩ i hi;rw[dc _ _ _ _ hi];have a1:=FV (h.bd p hE c hc) (h.bd u hu i hi);have a2:=FV (x:= -(ex u c)) (y:=ex p i) (B:=EA c) (by rw[mf];exact h.bd u hu c hc) (h.bd p hE i hi);show _<=2*(EA c*EA c);omega};.intro w J hf;obtain⟨m,hm,hL⟩:=h.all w J (hf.dn (by omega));refine⟨ex p c*m,?_,?_⟩;{simp_all};.have K:∀z,fN E z->fN (λv=>∃u,E u/\v=sum (ex p c) u (-(ex u c)) p) (sum (ex p c) z (-(ex z c)) p):=by{intro z hz;induction hz with|zero=>have e:sum (ex p c) zeros (-(ex zeros c)) p=zeros:=ej (bZ _ _ _ _) rfl λi hi=>by{rw[dc _ _ _ _ hi,cT hi,cT hc];simp_all};rw[e];exact .zero|@step a b k _ hb ih=>have e:sum (ex p c) (sum 1 a k b) (-(ex (sum 1 a k b) c)) p=sum 1 (sum (ex p c) a (-(ex a c)) p) k (sum (ex p c) b (-(ex b c)) p):=ej (bZ _ _ _ _) (bZ _ _ _ _) λi hi=>by{simp only[dc _ _ _ _ hi,dc _ _ _ _ hc];grind};rw[e];exact .step k ih ⟨b,hb,rfl⟩};have z:=K _ hL;have e:sum (ex p c) (sum m w 0 zeros) (-(ex (sum m w 0 zeros) c)) p=sum (ex p c*m) w 0 zeros:=ej (bZ _ _ _ _) (bZ _ _ _ _) λi hi=>by{simp only[dc _ _ _ _ hi,dc _ _ _ _ hc,cT hi,cT hc,hf c Eg];grind};rw[e] at z;exact z};.refine⟨E,h.CJ,?_,?_,λw J hf=>h.all w J (hf.dn (by omega))⟩;{intro u hu;apply(h.M5 u hu).up;apply bq;intro q;exact hp ⟨u,hu,q⟩};.intro u hu i hi;have:=h.bd u hu i hi;have q:=FN c;show _<=2*(EA c*EA c);have:EA c*1<=EA c*EA c:=cE (aB _) q;lia
theorem FT(e:∀u,S u->u.length=6)(d:∀u,S u->∀i,i<6->(ex u i).natAbs<=8):∀c,c<=6->∃E,Lj S c E|0,_=>⟨S,jz3 e d⟩|c+1,h=>by obtain ⟨E,f⟩:=FT e d c (by lia);exact f.next (by lia)
def small(hl:∀u,S u->u.length=6)(hb:∀u,S u->∀i,i<6->(ex u i).natAbs<=8){c}(hc:c<6){w}(hw:fN S w)(hf:lC c w)(hn:ex w c≠0):∃u,fN S u/\lC c u/\ex u c≠0/\(ex u c).natAbs<=2^127:=by obtain⟨E,hE⟩:=FT hl hb c (by lia);obtain⟨m,hm,hL⟩:=hE.all w hw hf;apply bq;intro q;have z:∀u,E u->ex u c=0:=λu hu=>by{apply bq;intro r;exact q ⟨u,hE.CJ u hu,hE.M5 u hu,r,aM (hE.bd u hu c hc) (jz2 (by lia))⟩};have:=hL.col hc z;rw[dc _ _ _ _ hc,cT hc] at this;simp_all [ex,kZ]
def Of(R:Nat->Option Row)(c:Nat):Row->Prop:=λr=>∃d,c<=d/\d<6/\R d=some r
def Good(R:Nat->Option Row):Prop:=∀c r,c<6->R c=some r->r.length=6/\lC c r/\ex r c≠0
def Of.M5(G:Good R){c}{r}(h:Of R c r):lC c r:=by obtain ⟨d,f,e,b⟩:=h;exact(G d r e b).2.1.dn f
def Gn(G:Good R){c}(f:c<=6){w}(h:fN (Of R c) w):lC c w:=λj e=>h.col (by lia) λb d=>d.M5 G j e
def Of.up{c d}(h:c<=d){r}(q:Of R d r):Of R c r:=by obtain ⟨e,i,g,f⟩:=q;exact⟨e,by lia,g,f⟩
def Of.len(G:Good R){c}{r}(h:Of R c r):r.length=6:=by obtain ⟨d,f,e,b⟩:=h;exact(G d r e b).1
def LZ{c d}(h:c<=d){w}(q:fN (Of R d) w):fN (Of R c) w:=by induction q with|zero=>exact .zero|step m _ g f=>exact .step m f (g.up h)
def pS(e:R c=none){w}(h:fN (Of R c) w):fN (Of R (c+1)) w:=by induction h with|zero=>exact .zero|step m _ n j=>obtain ⟨d,o,l,k⟩:=n;refine .step m j ⟨d,?_,l,k⟩;grind
def mS{R:Nat->Option Row}(G:Good R){c:Nat}(hc:c<6){r:Row}(e:R c=some r){w:Row}(h:fN (Of R c) w):∃q:Int,fN (Of R (c+1)) (sum 1 w (-q) r)/\ex w c=q*ex r c:=by induction h with|zero=>refine⟨0,?_,by rw[cT hc];omega⟩;have:sum 1 zeros (-0) r=zeros:=ej (bZ _ _ _ _) rfl λi hi=>by{rw[dc _ _ _ _ hi,cT hi];omega};rw[this];exact .zero|@step a b m _ hb ih=>obtain⟨q,ih1,ih2⟩:=ih;obtain⟨d,h1,h2,h3⟩:=hb;by_cases hd:d=c;{subst hd;rw[e] at h3;cases h3;refine⟨q+m,?_,?_⟩;{have:sum 1 (sum 1 a m r) (-(q+m)) r=sum 1 a (-q) r:=ej (bZ _ _ _ _) (bZ _ _ _ _) λi hi=>by{simp only[dc _ _ _ _ hi];grind};rw[this];exact ih1};.rw[dc _ _ _ _ hc,ih2];grind};.refine⟨q,?_,?_⟩;{have:sum 1 (sum 1 a m b) (-q) r=sum 1 (sum 1 a (-q) r) m b:=ej (bZ _ _ _ _) (bZ _ _ _ _) λi hi=>by{simp only[dc _ _ _ _ hi];grind};rw[this];exact .step m ih1 ⟨d,by omega,h2,h3⟩};.rw[dc _ _ _ _ hc,ih2,(G d b h2 h3).2.1 c (by omega)];omega
def B4(w r)(b:w.length=6):sum 1 w (-0) r=w:=ej (bZ _ _ _ _) b λi hi=>by rw[dc _ _ _ _ hi];simp_all
theorem DX(G:Good R){w}(h:fN (Of R 0) w):∀c,c<=6->lC c w->fN (Of R c) w|0,_,_=>h|c+1,o,l=>by have i:=DX G h c (by lia) (l.dn (by omega));cases e:R c with|none=>exact pS e i|some r=>obtain ⟨q,k,j⟩:=mS G (by lia) e i;rw[l c Eg] at j;have q0:q=0:=by{rcases kZ.mp j.symm with z|z;{exact z};.exact absurd z (G c r (by lia) e).2.2};subst q0;rw[B4 w r h.len] at k;exact k
theorem HZ(G:Good R){c}(j:c<6):(R c).isSome=true↔∃w,fN (Of R 0) w/\lC c w/\ex w c≠0:=by constructor;{intro h;cases e:R c with|none=>rw[e] at h;cases h|some r=>exact⟨r,.mem ⟨c,by simp_all,j,e⟩ (G c r j e).1,(G c r j e).2.1,(G c r j e).2.2⟩};.rintro⟨w,m,o,n⟩;cases e:R c with|some r=>rfl|none=>exfalso;have a:=pS e (DX G m c (by lia) o);exact n (Gn G (by lia) a c Eg)
def jz4{R T:Nat->Option Row}(G:Good R)(G':Good T)(h:∀w,fN (Of R 0) w↔fN (Of T 0) w){c:Nat}(hc:c<6):(R c).isSome=(T c).isSome:=by apply b0.mpr;rw[HZ G hc,HZ G' hc];exact⟨λ⟨w,a,b⟩=>⟨w,(h w).mp a,b⟩,λ⟨w,a,b⟩=>⟨w,(h w).mpr a,b⟩⟩
def jz5(G:Good R){S}(s:∀u,S u->u.length=6)(p:∀u,S u->∀i,i<6->(ex u i).natAbs<=8)(h:∀w,fN (Of R 0) w↔fN S w) {c} (b:c<6) {r} (e:R c=some r):(ex r c).natAbs<=2^127:=by have d:=G c r b e;have n:=(h r).mp (.mem ⟨c,by simp_all,b,e⟩ d.1);obtain ⟨u,o,m,u3,l⟩:=small s p b n d.2.1 d.2.2;obtain ⟨q,_,k⟩:=mS G b e (DX G ((h u).mpr o) c (by lia) m);apply aM _ l;rw[k,cZ];have:q.natAbs≠0:=λz=>Eg;exact CT _ Eg
def jz6(G:Good R){c}(j:c<6){v}(p:lC c v)(e:ex v c=0):fN (Of R c) v↔fN (Of R (c+1)) v:=by refine⟨λh=>?_,LZ Eg⟩;cases q:R c with|none=>exact pS q h|some r=>obtain ⟨k,l,m⟩:=mS G j q h;rw[e] at m;have n:k=0:=by{rcases kZ.mp m.symm with z|z;{exact z};.exact absurd z (G c r j q).2.2};subst n;rw[B4 v r h.len] at l;exact l
theorem jz7(G:Good R){c}(b:c<6){v}(e:ex v c≠0)(q:R c=none):¬fN (Of R c) v:=λh=>e (Gn G (by lia) (pS q h) c Eg)
def jz8(G:Good R){c}(hc:c<6){v r}(q:R c=some r){k}(hv:v.length=6)(e:ex v c=k*ex r c):fN (Of R c) v↔fN (Of R (c+1)) (sum 1 v (-k) r):=by constructor;{intro h;obtain ⟨k',h1,h2⟩:=mS G hc q h;have:k'=k:=by{rw[h2] at e;exact Int.eq_of_mul_eq_mul_right (G c r hc q).2.2 e};simp_all};.intro h;have a:fN (Of R c) (sum 1 (sum 1 v (-k) r) k r):=.step k (LZ Eg h) ⟨c,by simp_all,hc,q⟩;grind [ej,bZ,dc]
abbrev tr(j:Int)(v:Row):Row:=sum j v 0 zeros
theorem gI(j)(v){i}(hi:i<6):ex (tr j v) i=j*ex v i:=by rw[dc _ _ _ _ hi];simp_all
def jz9{v}{c}(a:c<=6)(h:lC c v):lC c (tr j v):=h.sum _ _ a (lC.zeros c a)
def ui(y:r≠0)(w:a≠0):0<r.natAbs/jL r.natAbs a.natAbs/\r∣((r.natAbs/jL r.natAbs a.natAbs:Nat):Int)*a/\∀j q:Int,j*a=q*r->((r.natAbs/jL r.natAbs a.natAbs:Nat):Int)∣j:=by have s:0<r.natAbs:=Eg;have n:0<jL r.natAbs a.natAbs:=Cz _ s;have d1:=Nat.gcd_dvd_left r.natAbs a.natAbs;have d2:=Nat.gcd_dvd_right r.natAbs a.natAbs;have p:=Jp d1;have o:=Jp d2;have v:=Nat.coprime_div_gcd_div_gcd n;generalize r.natAbs/jL r.natAbs a.natAbs=t at*;generalize a.natAbs/jL r.natAbs a.natAbs=u at*;generalize jL r.natAbs a.natAbs=g at*;refine⟨?_,?_,?_⟩;{lia};{apply E3.mp;rw[cZ,bC,<-o,<-p];exact⟨u,by ac_rfl⟩};.intro j q h;apply E3.mp;have h':j.natAbs*a.natAbs=q.natAbs*r.natAbs:=by{rw[<-cZ,<-cZ,h]};rw[<-p,<-o] at h';have x:j.natAbs*u=q.natAbs*t:=by{apply Nat.eq_of_mul_eq_mul_right n;rw[cR,cR];exact h'};apply Zj v;exact⟨q.natAbs,by grind⟩
def Told(S:Row->Prop)(v:Row):Option Nat->Prop|none=>∀j:Int,fN S (tr j v)->j=0|some k=>0<k/\fN S (tr k v)/\∀j:Int,fN S (tr j v)->(k:Int)∣j
theorem kS(G:Good λc=>s.getD c none):∀(f c) (v),f+c=6->v.length=6->lC c v->Told (Of (λc=>s.getD c none) c) v (timesIn f c v s)|0,c,v,hc,hv,hf=>by have:c=6:=Eg;subst this;have z:v=zeros:=lC.all hv hf;subst z;refine⟨by decide,?_,λj _=>Int.one_dvd j⟩;have:tr (1:Nat) zeros=zeros:=rfl;rw[this];exact .zero|f+1,c,v,hc,hv,hf=>by unfold timesIn;have hc':c<6:=by{lia};by_cases e:ex v c=0;{rw[au e];have ih:=kS G f (c+1) v (by lia) hv (hf.up e);have key:∀j:Int,fN (Of (λc=>s.getD c none) c) (tr j v)↔fN (Of (λc=>s.getD c none) (c+1)) (tr j v):=λj=>jz6 G hc' (jz9 (by grind) hf) (by rw[gI _ _ hc',e];simp_all);generalize timesIn f (c+1) v s=o at*;match o,ih with|none,ih=>exact λj h=>ih j ((key j).mp h)|some k,⟨h1,h2,h3⟩=>exact⟨h1,(key _).mpr h2,λj h=>h3 j ((key j).mp h)⟩};.rw[ax e];cases q:s.getD c none with|none=>dsimp only;intro j h;apply bq;grind [jz7,gI,kZ]|some r=>dsimp only;have hr:=G c r hc' q;obtain⟨t0,t1,t2⟩:=ui hr.2.2 e;generalize ht:(ex r c).natAbs/jL (ex r c).natAbs (ex v c).natAbs=t at*;have ex1:(t:Int)*ex v c=((t:Int)*ex v c/ex r c)*ex r c:=(Int.ediv_mul_cancel t1).symm;generalize hk:((t:Int)*ex v c/ex r c)=k at*;have hf':lC (c+1) (sum (t:Int) v (-k) r):=by{apply(hf.sum _ _ (by grind) hr.2.1).up;rw[dc _ _ _ _ hc',ex1];grind};have ih:=kS G f (c+1) (sum (t:Int) v (-k) r) (by lia) (bZ _ _ _ _) hf';have key:∀j:Int,fN (Of (λc=>s.getD c none) c) (tr (j*t) v)↔fN (Of (λc=>s.getD c none) (c+1)) (tr j (sum (t:Int) v (-k) r)):=λj=>by{rw[jz8 G hc' q (k:=j*k) (bZ _ _ _ _) (by rw[gI _ _ hc'];grind)];have:sum 1 (tr (j*t) v) (-(j*k)) r=tr j (sum (t:Int) v (-k) r):=ej (bZ _ _ _ _) (bZ _ _ _ _) λi hi=>by{rw[dc _ _ _ _ hi,gI _ _ hi,gI _ _ hi,dc _ _ _ _ hi];grind};rw[this]};have dv:∀j:Int,fN (Of (λc=>s.getD c none) c) (tr j v)->(t:Int)∣j:=λj h=>by{obtain⟨w,_,h2⟩:=mS G hc' q h;rw[gI _ _ hc'] at h2;exact t2 j w h2};generalize timesIn f (c+1) (sum (t:Int) v (-k) r) s=o at*;match o,ih with|none,ih=>show ∀j:Int,_->j=0;intro j h;obtain⟨w,rfl⟩:=dv j h;rw[lL] at h;have:=ih w ((key w).mp h);rw[this];simp_all|some n,⟨h1,h2,h3⟩=>refine⟨kG t0 h1,?_,?_⟩;{grind};.intro j h;obtain⟨w,rfl⟩:=dv j h;rw[lL] at h;obtain⟨x,rfl⟩:=h3 w ((key w).mp h);exact⟨x,by rw[eE];ac_rfl⟩
def eu:Nat->Int->Int->Int×Int|0,a,b=>(a,b)|f+1,a,b=>if b=0 then(a,b) else eu f b (a % b)
theorem vC(i:c<6):∀(f) (a b),(ex (euclid c f a b).1 c,ex (euclid c f a b).2 c)=eu f (ex a c) (ex b c)|0,a,b=>rfl|f+1,a,b=>by unfold euclid eu;by_cases h:ex b c=0;{simp_all};.rw[ax h,vC i f];rw[dc _ _ _ _ i,uA];grind
def Pn:Nat->Nat×Nat|0=>(0,1)|k+1=>((Pn k).2,(Pn k).1+(Pn k).2)
def CL(k:Nat):Nat:=(Pn k).1
def NQ(k):CL (k+2)=CL k+CL (k+1):=rfl
def PL(f)(a):(eu f a 0).2=0:=by cases f with|zero=>rfl|succ f=>unfold eu;simp_all
theorem Ep:∀(f) (a b:Int),0<=b->b<CL (f+1)->(eu f a b).2=0|0,a,b,o,h=>by have:CL (0+1)=1:=rfl;have:b=0:=by{lia};subst this;rfl|1,a,b,o,h=>by have:CL (1+1)=1:=rfl;have:b=0:=by{lia};subst this;rfl|f+2,a,b,o,h=>by by_cases n:b=0;{subst n;exact PL _ _};.unfold eu;rw[ax n];have q:=ff a n;have z:=fP a (show 0<b by lia);by_cases p:a % b<CL (f+2);{exact Ep (f+1) b (a % b) q p};.have e:=NQ (f+1);have e':CL (f+2+1)=CL (f+1)+CL (f+2):=e;unfold eu;by_cases hz:a % b=0;{simp_all};.rw[ax hz];have v:=ff b hz;apply Ep f;{exact v};.have d:b %(a % b)<=b -a % b:=by{have u:=by{have:=Int.le_ediv_of_mul_le (show 0<a % b by lia) (a:=1) (b:=b) (by lia);exact this};have x:b %(a % b)=b -(a % b)*(b/(a % b)):=uA _ _;have w:(a % b)*1<=(a % b)*(b/(a % b)):=kH u (by omega);simp_all};omega
def O9:2^127+1<CL 198:=by decide+kernel
theorem A6:∀(k d),CL k<=CL (k+d)|k,0=>aB _|k,d+1=>by have j:=A6 k d;cases h:k+d with|zero=>have:d=0:=Eg;subst_vars;decide|succ m=>have e:CL (k+(d+1))=CL m+CL (m+1):=by{rw[show k+(d+1)=m+2 by lia];rfl};grind
def qa(i:197<=f){a b}(e:0<=b)(h:b<=2^127):(eu f a b).2=0:=by apply Ep f a b e;have:=A6 198 (f+1 -198);rw[show 198+(f+1 -198)=f+1 by grind] at this;have:=O9;lia
theorem SJ(B:a.natAbs<=2^127):(eu 200 a b).2=0:=by unfold eu;by_cases hb:b=0;{simp_all};rw[ax hb];have r:=ff a hb;have D:=Int.emod_lt a hb;by_cases z:b.natAbs<=a.natAbs;{exact qa JN r (by lia)};by_cases o:0<=a;{have:a % b=a:=by{rcases mh hb with h|h;{rw[<-Vy];exact eZ o (by omega)};.exact eZ o (by omega)};rw[this];exact qa JN o (by lia)};have t:a % b=a+b.natAbs:=by{have q:(a+(b.natAbs:Int)) % b=a % b:=by{grind [mh,sH,Int.add_emod_right]};rw[<-q];rcases mh hb with h|h;{rw[<-Vy];exact eZ (by omega) (by omega)};.exact eZ (by omega) (by omega)};rw[t];generalize A:a+(b.natAbs:Int)=s at*;have l:0<s:=by{grind};unfold eu;rw[ax (by omega)];have w:=ff b (show s≠0 by omega);have t1:=fP b l;by_cases C:s<=a.natAbs;{exact qa JN w (by grind)};rcases mh hb with h|h;{have p:b % s=s+a:=by{have:b % s=(b+s+s) % s:=Eg;rw[this];rw[show b+s+s=s+a by grind];exact eZ (by grind) (by grind)};rw[p];unfold eu;by_cases hz:s+a=0;{rw[au hz];exact hz};rw[ax hz];have u:=ff s hz;have y:=fP s (show 0<s+a by omega);by_cases x:s+a<=a.natAbs;{exact qa JN u (by grind)};have v:s %(s+a)= -a:=by{have:s %(s+a)=(s -(s+a)) %(s+a):=(sH _ _).symm;rw[this,show s -(s+a)= -a by lia];exact eZ (by grind) (by grind)};rw[v];exact qa JN (by grind) (by grind)};.have p:b % s= -a:=by{have:b % s=(b -s) % s:=(sH _ _).symm;rw[this,show b -s= -a by grind];exact eZ (by grind) (by grind)};rw[p];exact qa JN (by grind) (by grind)
theorem vV(v:c<6):∀(f) (a b),a.length=6->b.length=6->lC c a->lC c b->(euclid c f a b).1.length=6/\(euclid c f a b).2.length=6/\lC c (euclid c f a b).1/\lC c (euclid c f a b).2/\(∀S,fN S a->fN S b->fN S (euclid c f a b).1/\fN S (euclid c f a b).2)/\(∀S,fN S (euclid c f a b).1->fN S (euclid c f a b).2->fN S a/\fN S b)/\(ex a c≠0\/ex b c≠0->ex (euclid c f a b).1 c≠0\/ex (euclid c f a b).2 c≠0)|0,a,b,m,o,fa,k=>⟨m,o,fa,k,λS x y=>⟨x,y⟩,λS x y=>⟨x,y⟩,λz=>z⟩|f+1,a,b,m,o,fa,k=>by unfold euclid;by_cases h:ex b c=0;{simp_all};.rw[ax h];obtain ⟨B,D,C,u,t,w,s⟩:=vV v f b (sum 1 a (-(ex a c/ex b c)) b) o (bZ _ _ _ _) k (fa.sum _ _ (by lia) k);refine⟨B,D,C,u,λS x y=>t S y (.Wl _ _ x y),λS x y=>?_,λ_=>s (.inl h)⟩;obtain ⟨p,q⟩:=w S x y;refine⟨?_,p⟩;have:a=sum 1 (sum 1 a (-(ex a c/ex b c)) b) (ex a c/ex b c) b:=ej m (bZ _ _ _ _) λi hi=>by{simp only[dc _ _ _ _ hi];grind};rw[this];exact .Wl _ _ q p
abbrev at_(s:Rt):Nat->Option Row:=λc=>s.getD c none
def qP(s)(b:s.length=6){c}(e:c<6)(o)(d):at_ (s.set c o) d=if d=c then o else at_ s d:=by grind
def Cc(i:s.length=6)(G:Good (at_ s)){c}(j:c<6){r}(l:r.length=6)(n:lC c r)(m:ex r c≠0):Good (at_ (s.set c (some r))):=λd q k e=>by rw[qP s i j] at e;by_cases h:d=c;{simp_all};.rw[ax h] at e;exact G d q k e
theorem vz:∀(f c) (v) (s),f+c=6->v.length=6->lC c v->s.length=6->Good (at_ s)->(∀d r,c<=d->d<6->at_ s d=some r->(ex r d).natAbs<=2^127)->(climb f c v s).length=6/\Good (at_ (climb f c v s))/\∀x,fN (Of (at_ (climb f c v s)) 0) x↔fN (λy=>Of (at_ s) 0 y\/y=v) x
 |0,c,v,s,hc,hv,hf,hs,G,_=>by have:c=6:=Eg;subst this;have z:v=zeros:=lC.all hv hf;subst z;refine⟨hs,G,λx=>⟨λh=>h.sub λb hb=>.mem (.inl hb) (hb.len G),λh=>h.sub λb hb=>?_⟩⟩;rcases hb with hb|rfl;{exact .mem hb (hb.len G)};.exact .zero
 |f+1,c,v,s,hc,hv,hf,hs,G,hb=>by
  have hc':c<6:=by{lia};unfold climb;by_cases e:ex v c=0;{rw[au e];exact vz f (c+1) v s (by lia) hv (hf.up e) hs G λd r hd=>hb d r (by grind)}
  .rw[ax e];cases q:s.getD c none with
    |none=>dsimp only;have G':=Cc hs G hc' hv hf e;refine⟨by rw[cb];exact hs,G',λx=>⟨λh=>h.sub λb hb=>?_,λh=>h.sub λb hb=>?_⟩⟩;{obtain⟨d,h1,h2,h3⟩:=hb;rw[qP s hs hc'] at h3;by_cases h:d=c;{rw[au h] at h3;obtain rfl:=bA h3;exact .mem (.inr rfl) hv};.rw[ax h] at h3;exact .mem (.inl ⟨d,h1,h2,h3⟩) (G d b h2 h3).1};.rcases hb with⟨d,h1,h2,h3⟩|rfl;{refine .mem ⟨d,h1,h2,?_⟩ (G d b h2 h3).1;grind};.exact .mem ⟨c,by simp_all,hc',by rw[qP s hs hc',au rfl]⟩ hv
    |some r=>dsimp only;have hr:=G c r hc' q;obtain⟨z1,z2,z3,z4,z5,z6,z7⟩:=vV hc' 200 r v hr.1 hv hr.2.1 hf;have ec:=vC hc' 200 r v;have e2:ex (euclid c 200 r v).2 c=0:=by{grind [SJ]};have e1:ex (euclid c 200 r v).1 c≠0:=Eg;generalize euclid c 200 r v=z at*;have G':=Cc hs G hc' z1 z3 e1;have hs':(s.set c (some z.1)).length=6:=by{rw[cb];exact hs};obtain ⟨y1,y2,y3⟩:=vz f (c+1) z.2 (s.set c (some z.1)) (by lia) z2 (z4.up e2) hs' G' λd r' hd hd6 hdr=>by{rw[qP s hs hc',ax (by omega)] at hdr;exact hb d r' (by grind) hd6 hdr};refine⟨y1,y2,λx=>(y3 x).trans ⟨λh=>h.sub λb hb=>?_,λh=>h.sub λb hb=>?_⟩⟩;{have both:=z5 (λy=>Of (at_ s) 0 y\/y=v) (.mem (.inl ⟨c,by omega,hc',q⟩) hr.1) (.mem (.inr rfl) hv);rcases hb with⟨d,h1,h2,h3⟩|rfl;{rw[qP s hs hc'] at h3;by_cases h:d=c;{grind};.rw[ax h] at h3;exact .mem (.inl ⟨d,h1,h2,h3⟩) (G d b h2 h3).1};.exact both.2};.have both:=z6 (λy=>Of (at_ (s.set c (some z.1))) 0 y\/y=z.2) (.mem (.inl ⟨c,by omega,hc',by rw[qP s hs hc',au rfl]⟩) z1) (.mem (.inr rfl) z2);rcases hb with⟨d,h1,h2,h3⟩|rfl;{by_cases h:d=c;{grind};.exact .mem (.inl ⟨d,h1,h2,by rw[qP s hs hc',ax h];exact h3⟩) (G d b h2 h3).1};.exact both.2
def Sm(l:List Row):Prop:=∀u,u∈l->u.length=6/\∀i,i<6->(ex u i).natAbs<=8
theorem kb:∀(l done:List Row) (s:Rt),Sm done->Sm l->s.length=6->Good (at_ s)->(∀x,fN (Of (at_ s) 0) x↔fN (·∈done) x)->
  let t:=l.foldl (λ(s:Rt) (v:Row)=>climb 6 0 v s) s
  t.length=6/\Good (at_ t)/\∀x,fN (Of (at_ t) 0) x↔fN (·∈done++l) x
 |[],done,s,_,_,hs,G,h=>⟨hs,G,by rw[bM];exact h⟩
 |v::l,done,s,hd,hl,hs,G,h=>by
  have hv:=hl v (by simp)
  obtain⟨a1,a2,a3⟩:=vz 6 0 v s rfl hv.1 (λj hj=>by simp_all) hs G λd r _ hd6 e=>
   jz5 G (S:=(·∈done)) (λu hu=>(hd u hu).1) (λu hu=>(hd u hu).2) h hd6 e
  have:=kb l (done++[v]) (climb 6 0 v s) (λu hu=>by
   rcases cz.mp hu with q|q
   ·exact hd u q
   ·rw[bB.mp q];exact hv) (λu hu=>hl u (by simp[hu])) a1 a2 (λx=>(a3 x).trans ⟨λz=>z.sub λb hb=>?_,λz=>z.sub λb hb=>?_⟩)
  ·rw[bu] at this
   exact this
  ·rcases hb with hb|rfl
   ·have:fN (·∈done) b:=(h b).mp (.mem hb (hb.len G))
    exact this.sub λc hc=>.mem (by simp[hc]) (hd c hc).1
   ·exact .mem (by simp) hv.1
  ·rcases cz.mp hb with hb|hb
   ·have:fN (Of (at_ s) 0) b:=(h b).mpr (.mem hb (hd b hb).1)
    exact this.sub λc hc=>.mem (.inl hc) (hc.len G)
   ·rw[bB.mp hb]
    exact .mem (.inr rfl) hv.1
def ud(c:Nat):at_ Zk c=none:=by unfold at_ Zk;match c with|0=>rfl|1=>rfl|2=>rfl|3=>rfl|4=>rfl|5=>rfl|c+6=>rfl
def oS{l:List Row}(h:Sm l):(xn l).length=6/\Good (at_ (xn l))/\∀x,fN (Of (at_ (xn l)) 0) x↔fN (·∈l) x:=by have:=kb l [] Zk (λu hu=>by cases hu) h rfl (λc r _ e=>by rw[ud] at e;cases e) (λx=>⟨λz=>z.sub λb hb=>?_,λz=>z.sub λb hb=>by cases hb⟩);{exact this};.obtain⟨d,_,_,e⟩:=hb;rw[ud] at e;cases e
def DU{l:List Row}(h:Sm l){x:Row}(hx:x.length=6):Told (·∈l) x (round l x):=by obtain⟨_,G,e⟩:=oS h;have:=kS G 6 0 x rfl hx (λj hj=>by simp_all);unfold round;generalize timesIn 6 0 x (xn l)=o at*;match o,this with|none,this=>exact λj z=>this j ((e _).mpr z)|some k,⟨a,b,c⟩=>exact⟨a,(e _).mp b,λj z=>c j ((e _).mpr z)⟩
def Eh{l:List Row}(h:Sm l):rank l=((aj 6).filter λc=>(at_ (xn l) c).isSome).length:=by obtain⟨hl,_,_⟩:=oS h;unfold rank at_;generalize xn l=s at*;have e:s=(aj 6).map λi=>s.getD i none:=List.ext_getElem (by simp[hl]) λi h _=>by{simp[h]};(conv=>lhs;rw[e,List.filter_map,List.length_map]);rfl
def EK(a){b:Int}(k:b≠0):(0<b->0<=a -b*a.fdiv b/\a -b*a.fdiv b<b)/\(b<0->b<a -b*a.fdiv b/\a -b*a.fdiv b<=0):=by constructor;{intro h;rw[dH _ (by grind),<-uA];exact⟨ff _ k,fP _ h⟩};.intro h;have e:a.fdiv b=(-a)/(-b):=by{rw[<-Int.neg_fdiv_neg,dH _ (by grind)]};rw[e];have l:=uA (-a) (-b);have m:=ff (-a) (show -b≠0 by simp_all);have n:=fP (-a) (show 0< -b by simp_all);lia
def va(a:Int){b:Int}(hb:b≠0):(a -b*a.fdiv b).natAbs<b.natAbs:=by obtain⟨h1,h2⟩:=EK a hb;rcases mh hb with h|h;{have:=h2 h;omega};.have:=h1 h;omega
def Bd(M:Nat)(x:Row):Prop:=∀i,i<6->(ex x i).natAbs<=M
def Bd.mono{x}(h:Bd M x)(a:M<=N):Bd N x:=λi hi=>aM (h i hi) a
abbrev iW(c:Nat)(a b:Row):Row:=sum 1 a (-(ex a c).fdiv (ex b c)) b
def pE(e:c<6)(a b):ex (iW c a b) c=ex a c -ex b c*(ex a c).fdiv (ex b c):=by rw[dc _ _ _ _ e];grind
def Qc(k:Int){l}(g:l≠0):(k.fdiv l).natAbs<=k.natAbs+1:=by have i:=va k g;have e:(l*k.fdiv l).natAbs=l.natAbs*(k.fdiv l).natAbs:=cZ _ _;apply bq;intro z;have:l.natAbs*(k.natAbs+2)<=l.natAbs*(k.fdiv l).natAbs:=cW _ (by omega);have h:l.natAbs*(k.natAbs+2)=l.natAbs*k.natAbs+2*l.natAbs:=by{grind};have:1*k.natAbs<=l.natAbs*k.natAbs:=aZ _ (by lia);omega
abbrev Rw(rows:List Row)(c:Nat):Row:=rows.getD c zeros
def ly(h:i<=j):2^i<=2^j:=dI JN h
structure AU(c K:Nat)(r:Row):Prop where
 len:r.length=6
 M5:lC c r
 zer:ex r c=0->r=zeros
 bd:Bd (2^K) r
def RR(rows:List Row):Nat->Option Row:=λc=>if ex (Rw rows c) c=0 then none else some (Rw rows c)
def vL(h:rows.length=6){c}(b:c<6):Rw rows c∈rows:=by simp_all
def tM(h:rows.length=6){r}(m:r∈rows):∃c,c<6/\Rw rows c=r:=by obtain ⟨c,f,e⟩:=dj m;refine⟨c,by lia,?_⟩;grind
def wB(h:rows.length=6){c}(b:c<6)(r)(d):Rw (rows.set c r) d=if d=c then r else Rw rows d:=by grind
def FP(h:∀c,c<6->∃K,AU c K (Rw rows c)):Good (RR rows):=λc r i e=>by obtain ⟨K,o⟩:=h c i;unfold RR at e;by_cases q:ex (Rw rows c) c=0;{grind};.rw[ax q] at e;obtain rfl:=bA e;exact⟨o.len,o.M5,q⟩
def J7(t:rows.length=6)(h:∀c,c<6->∃K,AU c K (Rw rows c))(x):fN (Of (RR rows) 0) x↔fN (·∈rows) x:=by constructor;{intro z;refine z.sub λb r=>?_;obtain ⟨d,_,u,e⟩:=r;obtain ⟨K,o⟩:=h d u;unfold RR at e;by_cases q:ex (Rw rows d) d=0;{grind};.rw[ax q] at e;cases e;exact .mem (vL t u) o.len};.intro z;refine z.sub λb r=>?_;obtain⟨c,s,rfl⟩:=tM t r;obtain ⟨K,o⟩:=h c s;by_cases q:ex (Rw rows c) c=0;{rw[o.zer q];exact .zero};.exact .mem ⟨c,by simp_all,s,by unfold RR;grind⟩ o.len
def note(s:jY)(i:Nat):Row:=if i=0 then zeros else s.getD (i -1) zeros
def Mh(h:∀r,r∈s->r.length=6)(i):(note s i).length=6:=by unfold note;by_cases q:i=0;{rw[au q];rfl};.rw[ax q,aA];cases e:s[i -1]? with|none=>rfl|some r=>exact h r (cx e)
structure Sc(s:jY):Prop where
 ne:1<=s.length
 snd:∀r,r∈s->r.length=6/\Bd 8 r
 up:∀i,i<s.length->lower (note s i) (note s (i+1))=true
 Vn:lower (bJ s) gL=false
theorem l7(s:jY):bJ s=note s s.length:=by unfold bJ note;rw[y4];cases s with|nil=>rfl|cons a r=>rw[ax (by simp)];rw[List.getLast?_eq_getElem?,aA]
def sX(s)(k):degree s k=sum 1 (note s (k %(s.length:Int)).toNat) (k/(s.length:Int)) (bJ s):=rfl
def iC{j}(f:j<6)(q){i:Nat}(hi:i<s.length):ex (degree s (q*s.length+i)) j=ex (note s i) j+q*ex (bJ s) j:=by have e:(q*(s.length:Int)+(i:Int)) %(s.length:Int)=i:=by{rw[VA,Int.add_mul_emod_self_right];exact eZ Eg Eg};have d:(q*(s.length:Int)+(i:Int))/(s.length:Int)=q:=by{rw[VA,CU _ _ (by omega),CV Eg Eg];simp_all};rw[sX,dc _ _ _ _ f,e,d,bH];simp_all
def vT{j}(d:j<6)(q){i:Nat}(hi:i<s.length):ex (degree s (q*s.length+i+1)) j=ex (note s (i+1)) j+q*ex (bJ s) j:=by by_cases h:i+1<s.length;{have:=iC d q h;grind};.have e:i+1=s.length:=by{lia};have:=iC d (q+1) (show 0<s.length by lia);rw[show q*(s.length:Int)+(i:Int)+1=(q+1)*s.length+((0:Nat):Int) by rw[xb];lia,e,<-l7];have:ex (note s 0) j=0:=cT d;grind
def IY{s:jY}(h:1<=s.length)(k):∃(q:Int) (i:Nat),i<s.length/\k=q*s.length+i:=by refine⟨k/s.length,(k % s.length).toNat,?_,?_⟩;{have:=fP k (show(0:Int)<s.length by omega);lia};.have e:=ff k (show(s.length:Int)≠0 by omega);have d:=Int.emod_add_mul_ediv k s.length;grind
def Dv(S:Sc s)(k):lower (degree s k) (degree s (k+1))=true:=by obtain⟨q,i,hi,rfl⟩:=IY S.ne k;rw[<-S.up i hi];apply fZ;intro j e;rw[iC e q hi,vT e q hi];lia
theorem L3(S:Sc s)(k):∀d:Nat,lower (degree s k) (degree s (k+(d:Int)+1))=true|0=>by have:=Dv S k;simp_all|d+1=>by have:=jd (L3 S k d) (Dv S (k+(d:Int)+1));grind
theorem vX(S:Sc s){j k}(h:j<k):lower (degree s j) (degree s k)=true:=by have:=L3 S j (k -j -1).toNat;grind
def jo(s)(k):(degree s k).length=6:=bZ _ _ _ _
def rG(S:Sc s){x}{j k}(e:lower x (degree s j)=false)(c:lower x (degree s (j+1))=true)(d:lower x (degree s k)=false)(b:lower x (degree s (k+1))=true):j=k:=by grind [jd,vX]
def num_mul(q:Nat)(p):num (sum (q:Int) p 0 zeros)=num p^q/\den (sum (q:Int) p 0 zeros)=den p^q:=by rw[gG,i5,gG,i5,zK,zK];constructor;{grind only [eD,gI,ex,VB,sJ]};.apply eD;intro i hi;rw[gI _ _ hi];have:(-((q:Int)*ex p i)).toNat=(-(ex p i)).toNat*q:=by{rw[<-Yx];grind [VB,ex,sJ]};exact this
def QI(h:∀i,i<6->f i<=g i):pw f<=pw g:=by have a:=λp i (c:0<p) hi=>dI c (h i hi);exact cE (cE (cE (cE (cE (a 2 0 JN JN) (a 3 1 JN JN)) (a 5 2 JN JN)) (a 7 3 JN JN)) (a 11 4 JN JN)) (a 13 5 JN JN)
def LP{M}(h:Bd M x):num x<=30030^M:=by have e:(30030:Nat)^M=pw λ_=>M:=by{unfold pw;rw[<-eV,<-eV,<-eV,<-eV,<-eV]};rw[e,gG];exact QI λi hi=>by have:=h i hi;grind
def Ur{M}(h:Bd M x):den x<=30030^M:=by have e:(30030:Nat)^M=pw λ_=>M:=by{unfold pw;rw[<-eV,<-eV,<-eV,<-eV,<-eV]};rw[e,i5];exact QI λi hi=>by have:=h i hi;grind
def EF:30030^8*4^2000<5^2000:=by decide+kernel
def AV{p:Row}(h:lower p gL=false):5*den p<=4*num p:=by rw[j9] at h;have e1:num gL=5:=rfl;have e2:den gL=4:=rfl;rw[e1,e2,cN (num p)] at h;exact h
theorem EN(e:lower p gL=false)(j:Bd 8 x):lower x (sum ((2000:Nat):Int) p 0 zeros)=true:=by
 rw[i9,(num_mul 2000 p).1,(num_mul 2000 p).2];have g:=AV e;have d:(5*den p)^2000<=(4*num p)^2000:=dw g _;rw[eV,eV] at d;have i:=LP j;have l:=JP x;have f:0<num p^2000:=dZ (j3 p);have h:=EF;generalize den p^2000=D at*;generalize num p^2000=U at*;generalize (5:Nat)^2000=F at*;generalize (4:Nat)^2000=G at*;generalize (30030:Nat)^8=B at*;apply iS;calc F*(num x*D)=num x*(F*D):=by ac_rfl
  _<=num x*(G*U):=cW _ d
  _<=B*(G*U):=aZ _ i
  _=B*G*U:=by ac_rfl
  _<F*U:=dG h (aB _) f
  _<=F*(U*den x):=cW _ (fb _ l)
theorem HJ{a b c d}(h:∀i,i<6->ex c i= -(ex b i)/\ex d i= -(ex a i)):lower c d=lower a b:=fZ λi hi=>by grind
def BX(hp:lower p gL=false)(d:Bd 8 x):lower (sum (-2000) p 0 zeros) x=true:=by have:lower (sum (-1) x 0 zeros) (sum ((2000:Nat):Int) p 0 zeros)=true:=EN hp λi hi=>by{rw[gI _ _ hi];have:=d i hi;simp_all};grind [HJ,gI]
theorem QZ{p x}:∀(f:Nat) (q),lower x (sum q p 0 zeros)=false->lower x (sum (q+f) p 0 zeros)=true->lower x (sum (periodsUp p x f q) p 0 zeros)=false/\lower x (sum (periodsUp p x f q+1) p 0 zeros)=true|0,q,e,g=>by simp_all|f+1,q,e,g=>by unfold periodsUp;by_cases h:lower x (sum (q+1) p 0 zeros)=true;{simp_all};.rw[ax h];exact QZ f (q+1) Eg (by grind)
theorem Fx{p x}:∀(f:Nat) (q),lower x (sum (q+1) p 0 zeros)=true->lower (sum (q -f) p 0 zeros) x=true->lower x (sum (periodsDown p x f q) p 0 zeros)=false/\lower x (sum (periodsDown p x f q+1) p 0 zeros)=true|0,q,h1,h2=>by rw[show q -((0:Nat):Int)=q by simp_all] at h2;exact⟨l6 h2,h1⟩|f+1,q,h1,h2=>by unfold periodsDown;by_cases h:lower x (sum q p 0 zeros)=true;{rw[au h];exact Fx f (q -1) Eg (by grind)};simp_all
theorem EI(p):sum 0 p 0 zeros=zeros:=ej (bZ _ _ _ _) rfl λi hi=>by rw[gI _ _ hi,cT hi];simp_all
def Eo(k:lower p gL=false)(m:Bd 8 x):lower x (sum (UD p x) p 0 zeros)=false/\lower x (sum (UD p x+1) p 0 zeros)=true:=by unfold UD;by_cases h:lower x zeros=true;{rw[au h];refine Fx 2000 0 ?_ (BX k m);have n:lower zeros p=true:=by{rw[jx7];have:=AV k;have:=JP p;lia};have e:sum (0+1) p 0 zeros=sum 1 p 0 zeros:=rfl;have:lower zeros (sum (0+1) p 0 zeros)=lower zeros p:=fZ λi hi=>by{rw[gI _ _ hi];simp_all};exact jd h (by grind)};grind [QZ,EI,EN]
theorem uh(P):∀(n),(∀i j,i<j->j<n->P j=true->P i=true)->∃m,m<=n/\((aj n).filter P).length=m/\(∀i,i<m->P i=true)/\(∀i,m<=i->i<n->P i=false)|0,_=>⟨0,aB _,rfl,λi h=>by simp_all,λi p o=>by simp_all⟩|n+1,h=>by obtain ⟨m,p,o,q,h4⟩:=uh P n λi j a b=>h i j a (by grind);rw[xc,List.filter_append,bo,o];cases e:P n with|true=>have:m=n:=by{grind};subst this;refine⟨m+1,aB _,by simp[e],λi hi=>?_,λi a b=>by lia⟩;grind|false=>refine⟨m,by lia,by simp[e],q,λi a b=>?_⟩;grind
def mQ(S:Sc s){x}(hx:Bd 8 x):lower x (degree s (below s x))=false/\lower x (degree s (below s x+1))=true:=by obtain ⟨o,p2⟩:=Eo S.Vn hx;unfold below;generalize UD (bJ s) x=q at*;have hN:=S.ne;obtain ⟨m,v,z,y,u⟩:=uh (λi=>!lower x (degree s (q*(s.length:Int)+(i:Int)))) s.length λi j a b c=>by{grind [vX,le_trans,l6]};have d0:lower x (degree s (q*(s.length:Int)+((0:Nat):Int)))=false:=by{rw[<-o];apply fZ;intro j g;rw[iC g q (by omega),gI _ _ g];have:ex (note s 0) j=0:=cT g;simp_all};have w:lower x (degree s ((q+1)*(s.length:Int)+((0:Nat):Int)))=true:=by{rw[<-p2];apply fZ;intro j g;rw[iC g (q+1) (by omega),gI _ _ g];have:ex (note s 0) j=0:=cT g;simp_all};have t:1<=m:=by{grind};have A:q*(s.length:Int)+(m:Int) -1=q*(s.length:Int)+((m -1:Nat):Int):=by{grind};grind
def FY(S:Sc s){x}(g:Bd 8 x){k}(f:lower x (degree s k)=false)(b:lower x (degree s (k+1))=true):near s x=if lower (more (degree s k) (degree s (k+1))) (more x x)=true then k+1 else k:=by obtain ⟨c,d⟩:=mQ S g;have e:=rG S c d f b;unfold near;rw[e]
theorem mB{s:Type}{f:s->Int}:∀{a b:List s},a.Pairwise (λx y=>f x<=f y)->b.Pairwise (λx y=>f x<=f y)->(∀c,a.filter (λx=>f x==c)=b.filter (λx=>f x==c))->a=b|[],[],_,_,_=>rfl|[],y::b,_,_,h=>by have:=h (f y);simp at this|x::a,[],_,_,h=>by have:=h (f x);simp at this|x::a,y::b,A,u,h=>by have o:∀z,z∈x::a↔z∈y::b:=λz=>by{have e:=h (f z);constructor;{intro m;have:z∈(x::a).filter (λw=>f w==f z):=bV.mpr ⟨m,by simp⟩;simp_all};.intro m;have:z∈(y::b).filter (λw=>f w==f z):=bV.mpr ⟨m,by simp⟩;grind};have v:f x<=f y:=by{rcases aD.mp ((o y).mpr (by simp)) with q|q;{simp_all};.simp_all};have C:f y<=f x:=by{rcases aD.mp ((o x).mp (by simp)) with q|q;{simp_all};simp_all};have e:f x=f y:=xm v C;have t:=h (f x);rw[bU,bU,au (by simp),au (by simp[e])] at t;injection t with B D;subst B;congr 1;refine mB (a8.mp A).2 (a8.mp u).2 λc=>?_;have F:=h c;grind
theorem qv(f)(x)(c):∀l:List Nat,(placed f x l).filter (λz=>(f z:Int)==c)=(x::l).filter (λz=>(f z:Int)==c)|[]=>rfl|y::r=>by unfold placed;by_cases h:f y<f x;{rw[au h,bU,qv f x c r];grind};grind
theorem wI(f)(x):∀(l) (z),z∈placed f x l->z=x\/z∈l|[],z,h=>by simp_all [placed]|y::r,z,h=>by unfold placed at h;by_cases q:f y<f x;{rw[au q] at h;rcases aD.mp h with e|e;{grind};.rcases wI f x r z e with e|e;{exact .inl e};.simp_all};simp_all
theorem ym(f)(x):∀l:List Nat,l.Pairwise (λa b=>(f a:Int)<=f b)->(placed f x l).Pairwise (λa b=>(f a:Int)<=f b)|[],_=>by simp[placed]|y::r,h=>by obtain ⟨o,m⟩:=a8.mp h;unfold placed;by_cases q:f y<f x;{rw[au q];refine a8.mpr ⟨λz hz=>?_,ym f x r m⟩;rcases wI f x r z hz with e|e;{lia};simp_all};.grind [a8,aD]
theorem wU(f):∀l:List Nat,(jZ f l).Pairwise (λa b=>(f a:Int)<=f b)|[]=>List.Pairwise.nil|x::l=>ym f x _ (wU f l)
theorem ordered_filter(f)(c):∀l:List Nat,(jZ f l).filter (λz=>(f z:Int)==c)=l.filter (λz=>(f z:Int)==c)|[]=>rfl|x::l=>by show(placed f x (jZ f l)).filter _=_;rw[qv,bU,bU,ordered_filter f c l]
def Dr{l r}(d:r.Pairwise (λa b=>(f a:Int)<=f b))(e:∀c:Int,r.filter (λz=>(f z:Int)==c)=l.filter (λz=>(f z:Int)==c)):r=jZ f l:=mB d (wU f l) λc=>by rw[e c,ordered_filter]
def dP:Nat->List Int->List Row|0,_=>[]|n+1,l=>l.take 6::dP n (l.drop 6)
def cF(l:List Int):Nat:=(l.length+5)/6
theorem qU:∀(n:Nat) (l:List Int),(dP n l).length=n|0,_=>rfl|n+1,l=>by show(dP n (l.drop 6)).length+1=n+1;rw[qU]
theorem vF:∀(n) (l) (i),i<n->(dP n l)[i]?=some ((l.drop (6*i)).take 6)|0,_,i,h=>by simp_all|n+1,l,0,_=>by rfl|n+1,l,i+1,h=>by show(dP n (l.drop 6))[i]?=_;rw[vF n (l.drop 6) i (by omega),jC,show 6+6*i=6*(i+1) by lia]
def bX(h:sound x=true):x.length=6:=by unfold sound at h;simp_all
theorem ja:∀(f) (l),rowsFrom f l=if cF l<=f/\(dP (cF l) l).all sound=true then some (dP (cF l) l) else none|0,[]=>rfl|0,a::l=>by unfold rowsFrom;rw[ax (by simp),ax];intro⟨h,_⟩;unfold cF at h;grind|f+1,[]=>rfl|f+1,a::l=>by have j:cF (a::l)=cF ((a::l).drop 6)+1:=by{grind [cF]};unfold rowsFrom;have i:dP (cF ((a::l).drop 6)+1) (a::l)=(a::l).take 6::dP (cF ((a::l).drop 6)) ((a::l).drop 6):=rfl;rw[ja f ((a::l).drop 6)];grind
def six{x:List Int}(h:x.length=6):∃a b c d e f,x=[a,b,c,d,e,f]:=by match x,h with|[a,b,c,d,e,f],_=>exact⟨a,b,c,d,e,f,rfl⟩
def cw(h:sound x=true):Bd 8 x:=by obtain⟨a,b,c,d,e,f,rfl⟩:=six (bX h);simp[sound] at h;intro i hi;match i,hi with|0,_=>show a.natAbs<=8;omega|1,_=>show b.natAbs<=8;omega|2,_=>show c.natAbs<=8;omega|3,_=>show d.natAbs<=8;omega|4,_=>show e.natAbs<=8;omega|5,_=>show f.natAbs<=8;omega
def OA(m n){a b:List Int}(d:a.length=6)(e:b.length=6):(a.zip b).map (λp=>m*p.1+n*p.2)=hX m a n b:=by obtain⟨h,r,j,s,f,l,rfl⟩:=six d;obtain⟨u,t,k,i,q,g,rfl⟩:=six e;rfl
def Dx{a b:List Int}(r:a.length=6)(s:b.length=6):((a.zip b).map (λp=>p.1*p.2)).sum=xf a b:=by obtain⟨i,l,k,n,e,m,rfl⟩:=six r;obtain⟨o,f,g,j,q,h,rfl⟩:=six s;show i*o+(l*f+(k*g+(n*j+(e*q+(m*h+0)))))=0+i*o+l*f+k*g+n*j+e*q+m*h;lia
def Ah{x y:Row}(h:∀i,i<6->ex y i= -(ex x i)):num y=den x:=by rw[gG,i5];exact eD λi hi=>by rw[h i hi]
def O6{x:List Int}(c:x.length=6):∀i,i<6->ex (x.map λe=> -e) i= -(ex x i):=by obtain⟨d,h,g,j,k,f,rfl⟩:=six c;intro i hi;match i,hi with|0,_=>rfl|1,_=>rfl|2,_=>rfl|3,_=>rfl|4,_=>rfl|5,_=>rfl
def wide(xs:List (List Int)):Nat:=(xs.map λx=>1+x.length).sum
def Ha(x)(xs):wide (x::xs)=1+x.length+wide xs:=by simp[wide]
def drop_cons{l:List Int}{i}{n}{r}(h:l.drop i=n::r):l[i]?=some n/\r=l.drop (i+1)/\i<l.length:=by have hi:i<l.length:=by{apply bq;intro z;rw[om Eg] at h;cases h};grind [mE,ai]
theorem Sz{l:List Int}{i}{x t}(h:UE (l.drop i)=some (x,t)):∃n:Nat,l[i]?=some (n:Int)/\i+1+n<=l.length/\x=(l.drop (i+1)).take n/\x.length=n/\t=l.drop (i+1+n):=by cases e:l.drop i with|nil=>rw[e] at h;cases h|cons n r=>obtain⟨h1,h2,h3⟩:=drop_cons e;rw[e] at h;unfold UE at h;dsimp only at h;by_cases q:0<=n/\n.toNat<=r.length;{rw[au q] at h;have h:=bA h;grind [cX,rm,kh,jC]};.rw[ax q] at h;cases h
def Gw{l:List Int}{i}{xs}{t}(h:iz (k+1) (l.drop i)=some (xs,t)):∃(n:Nat) (ys:List (List Int)),l[i]?=some (n:Int)/\i+1+n<=l.length/\xs=(l.drop (i+1)).take n::ys/\((l.drop (i+1)).take n).length=n/\iz k (l.drop (i+1+n))=some (ys,t):=by unfold iz at h;grind only [Sz]
theorem BV:∀{k} {l:List Int} {i} {xs} {t},iz k (l.drop i)=some (xs,t)->i<=l.length->xs.length=k/\t=l.drop (i+wide xs)/\i+wide xs<=l.length
 |0,l,i,xs,t,h,hi=>by have h:=bA h;injection h with a b;subst a b;exact⟨rfl,by rfl,by simpa[wide] using hi⟩
 |k+1,l,i,xs,t,h,hi=>by obtain⟨n,ys,v,q,rfl,u,r⟩:=Gw h;obtain ⟨a,b,c⟩:=BV r q;rw[Ha];grind
def NN{l:List Int}{i}{c}{t}(h:CA B (l.drop i)=some (c,t)):∃(p:Int) (n k:Nat) (xs:List (List Int)),l[i]?=some p/\B p=some (n,k)/\i+1+n<=l.length/\c=(p::(l.drop (i+1)).take n)::xs/\xs.length=k/\iz k (l.drop (i+1+n))=some (xs,t)/\t=l.drop (i+1+n+wide xs)/\i+1+n+wide xs<=l.length:=by cases e:l.drop i with|nil=>rw[e] at h;cases h|cons p r=>obtain ⟨E,G,K⟩:=drop_cons e;rw[e] at h;unfold CA at h;dsimp only at h;cases es:B p with|none=>rw[es] at h;cases h|some F=>obtain ⟨n,k⟩:=F;rw[es] at h;dsimp only at h;have J:r.length=l.length -(i+1):=Eg;by_cases q:r.length<n;{grind};.rw[ax q] at h;cases w:iz k (r.drop n) with|none=>rw[w] at h;cases h|some p2=>obtain ⟨xs,u⟩:=p2;rw[w] at h;have h:=bA h;injection h with a b;subst b;rw[G,jC] at w;obtain ⟨D,C,I⟩:=BV w (by omega);exact⟨p,n,k,xs,E,es,by lia,by simp_all,D,w,C,I⟩
def AZ{sh:Int->Option (Nat×Nat)}{f:Nat}{l:List Int}{i:Nat}{cs:List (List (List Int))}(h:jr sh f (l.drop i)=some cs):(cs=[]/\l.length<=i)\/∃(f':Nat) (p:Int) (n k:Nat) (xs:List (List Int)) (ds:List (List (List Int))),l[i]?=some p/\sh p=some (n,k)/\i+1+n<=l.length/\cs=((p::(l.drop (i+1)).take n)::xs)::ds/\xs.length=k/\(∃t,iz k (l.drop (i+1+n))=some (xs,t))/\i+1+n+wide xs<=l.length/\jr sh f' (l.drop (i+1+n+wide xs))=some ds:=by
 cases e:l.drop i with
  |nil=>rw[e] at h;left;refine⟨?_,List.drop_eq_nil_iff.mp e⟩;cases f with|zero=>exact(bA h).symm|succ f=>exact(bA h).symm
  |cons p r=>right;cases f with|zero=>rw[e] at h;cases h|succ f=>rw[e] at h;unfold jr at h;rw[<-e] at h;cases e2:CA sh (l.drop i) with|none=>rw[e2] at h;cases h|some ct=>obtain⟨c,t⟩:=ct;rw[e2] at h;dsimp only at h;obtain⟨p',n,k,xs,h1,h2,h3,h4,h5,h6,h7,h8⟩:=NN e2;cases e3:jr sh f t with|none=>rw[e3] at h;cases h|some ds=>rw[e3] at h;have h:=bA h;rw[h7] at e3;exact⟨f,p',n,k,xs,ds,h1,h2,h3,by rw[<-h,h4],h5,⟨t,h6⟩,h8,e3⟩
theorem nN{i}(h:i<=s.length):note (s++[x]) i=note s i:=by unfold note;grind
theorem z8(s)(x:Row):note (s++[x]) (s.length+1)=x:=by unfold note;simp_all
structure Pre(s:jY):Prop where
 most:s.length<=24
 snd:∀r,r∈s->sound r=true
 up:∀i,i<s.length->lower (note s i) (note s (i+1))=true
def PX:Pre []:=⟨by decide,λr h=>(by cases h),λi h=>(by simp at h)⟩
def Pre.snoc(P:Pre s)(k:sound x=true)(m:lower (bJ s) x=true)(l:s.length<24):Pre (s++[x]):=by refine⟨by simp;lia,λr h=>?_,λi hi=>?_⟩;{rcases cz.mp h with q|q;{exact P.snd r q};simp_all};.by_cases q:i<s.length;{rw[nN (by omega),nN (by assumption)];exact P.up i q};.grind [nN,z8,l7]
theorem yt{n d a}(P:Pre r.notes)(h:iA r n d a=.ok q):Pre q.notes:=by unfold iA at h;cases e:rowOf n d with|none=>rw[e] at h;cases h|some x=>rw[e] at h;dsimp only at h;by_cases c:sound x=true/\lower (bJ r.notes) x=true/\r.notes.length<NOTES;{rw[au c] at h;cases h;exact P.snoc c.1 c.2.1 c.2.2};simp_all
def Ij{r q:Reader}{i c:Nat}(P:Pre r.notes)(h:reads r i c=.ok q):Pre q.notes:=by unfold reads at h;split at h;{split at h;{cases h;exact P};.split at h;{cases h;exact P};.cases h};{split at h;{exact yt P h};.split at h;{cases h;exact P};.split at h;{cases h;exact P};.cases h};{split at h;{cases h;exact P};.cases h};.split at h;{exact yt P h};.split at h;{cases h;exact P};.cases h
theorem qw:∀{s:kr} {r q:Reader} {i:Nat},Pre r.notes->readsFrom r i s=.ok q->Pre q.notes|[],r,q,i,P,h=>by unfold readsFrom at h;split at h;{cases h;exact P};{exact yt P h};{cases h};.exact yt P h|c::s,r,q,i,P,h=>by unfold readsFrom at h;cases e:reads r i c with|error p=>rw[e] at h;cases h|ok z=>rw[e] at h;exact qw (Ij P e) h
structure Lg(s:jY):Prop where
 pre:Pre s
 ne:1<=s.length
 Vn:lower (bJ s) gL=false
def Lg.sc(k:Lg s):Sc s:=⟨k.ne,λr a=>⟨bX (k.pre.snd r a),cw (k.pre.snd r a)⟩,k.pre.up,k.Vn⟩
def HQ(h:iE b=.ok t):Lg t:=by unfold iE at h;cases e:readsFrom ⟨[],0,.gap⟩ 0 b with|error p=>rw[e] at h;cases h|ok r=>rw[e] at h;dsimp only at h;have P:=qw PX e;by_cases q:r.notes.isEmpty=true;{simp_all};.rw[ax q] at h;by_cases z:lower (bJ r.notes) gL=true;{simp_all};.rw[ax z] at h;cases h;refine⟨P,?_,by simp_all⟩;grind
def J1(s)(k):(mode s k).length=s.length:=by simp[mode]
def tm(k){i}(d:1<=i)(c:i<=s.length):note (mode s k) i=less (degree s ((k+i:Nat):Int)) (degree s (k:Int)):=by delta note mode;grind
def Hr(K:Lg s){k}(o:k<s.length)(h:(mode s k).all sound=true):Lg (mode s k):=by have S:=K.sc;have n:=J1 s k;refine⟨⟨by rw[n];exact K.pre.most,λr p=>aN.mp h r p,λi hi=>?_⟩,by lia,?_⟩;{have step:=Dv S ((k+i:Nat):Int);rw[show((k+i:Nat):Int)+1=((k+(i+1):Nat):Int) by rfl] at step;rw[<-step];have t:=tm (s:=s) k (i:=i+1) Eg (by omega);rw[t];by_cases q:i=0;{grind only [fZ,note,cT,gr]};.rw[tm k (by lia) (by omega)];apply fZ;intro j g;rw[gr _ _ g,gr _ _ g];lia};.rw[l7,n,tm k K.ne (aB _),<-K.Vn];apply fZ;intro j g;rw[gr _ _ g];have u:=iC g 0 o;have v:=iC g 1 o;grind
structure Met(s:State):Prop where
 Vs:s.commas.length<=6
 snd:∀r,r∈s.commas->sound r=true
 sc:s.scale=[]\/Lg s.scale
def Hi:Met start:=⟨by decide,λr h=>(by cases h),.inl rfl⟩
def Met.sm(M:Met s):Sm s.commas:=λu a=>⟨bX (M.snd u a),cw (M.snd u a)⟩
def LL(M:Met s)(c):Met (step s c).1:=by unfold step;split;{split;{exact M};.split;{exact M};.rename_i v;refine⟨?_,λr p=>?_,M.sc⟩;{have:s.commas.length<6:=n9 v;grind};.rcases cz.mp p with q|q;{exact M.snd r q};.simp_all};{exact⟨by simp,λr h=>(by cases h),M.sc⟩};{split;{exact M};.split;{exact M};.rename_i t e;exact⟨M.Vs,M.snd,.inr (HQ e)⟩};{split;{exact M};.split;{exact M};.rename_i h;dsimp only;split;{rename_i u;rcases M.sc with e|K;{simp_all};.refine⟨M.Vs,M.snd,.inr (Hr K ?_ u)⟩;have o:=sM.mp h;have w:=o.2;unfold nat at w;simp_all};.exact M};.exact M
theorem i6{a c:Type}{f g:a->List c}:∀{l:List a},(∀x∈l,f x=g x)->l.flatMap f=l.flatMap g|[],_=>rfl|x::l,h=>by rw[eB,eB,h x ag,i6 λy b=>h y (af _ b)]
abbrev nd(x:Row):Nat:=num x*den x
def LY(x):nd x=pw λi=>(ex x i).natAbs:=by unfold nd;rw[gG,i5,<-mw];simp_all
def vH(x):1<=nd x:=kG (j3 x) (JP x)
theorem jW:∀{e} {x},x∈signed e↔x.map mj=e|[],x=>by simp[signed]|e::r,x=>by unfold signed;split;{next h=>subst h;rw[bg];constructor;{rintro⟨y,v,rfl⟩;rw[aX,jW.mp v];rfl};.intro h;cases x with|nil=>cases h|cons a y=>injection h with A s;exact⟨y,jW.mpr s,by simp_all⟩};.rw[ki];constructor;{rintro⟨y,v,h⟩;rcases aD.mp h with rfl|h;{simp_all [jW]};.simp_all [jW]};.intro h;cases x with|nil=>cases h|cons a y=>injection h with A s;refine⟨y,jW.mpr s,?_⟩;grind
theorem si:∀e:List Nat,(signed e).Nodup|[]=>by decide|e::r=>by have d:=si r;unfold signed;grind
theorem wo(x):∀l:List Row,(putRow x l).Perm (x::l)|[]=>.refl _|y::r=>by dsimp only[putRow];split;{simp_all};.exact((wo x r).cons y).trans (.swap x y r)
theorem KP:∀{l},l.Pairwise (λa b=>lower b a=false)->(putRow x l).Pairwise (λa b=>lower b a=false)|[],_=>nT _ _|y::r,h=>by obtain ⟨k,j⟩:=a8.mp h;dsimp only[putRow];split;{grind [a8,l6,le_trans]};.next q=>refine a8.mpr ⟨λz hz=>?_,KP j⟩;rcases aD.mp ((wo x r).mem_iff.mp hz) with rfl|hz;{simp_all};simp_all
theorem m6:∀l:List Row,(l.foldr putRow []).Perm l/\(l.foldr putRow []).Pairwise (λa b=>lower b a=false)|[]=>⟨.refl _,.nil⟩|x::l=>by obtain ⟨e,d⟩:=m6 l;exact⟨(wo x _).trans (e.cons x),KP d⟩
def wu(h:i<6):PRIMES[i]?=some (prime i):=by match i,h with|0,_=>rfl|1,_=>rfl|2,_=>rfl|3,_=>rfl|4,_=>rfl|5,_=>rfl
def Ib(f):um (pw f) f 1:=⟨(kI _).symm,λi hi h=>by have:=sy JN h;have:=oU hi;simp_all⟩
theorem iZ(F:1<=n)(C:n<2^20){x}:x∈ofWeight n↔x.length=6/\nd x=n:=by unfold ofWeight;have D:num ((PRIMES.map λp=>bp p 20 n).map λ(k:Nat)=>(k:Int))=pw λi=>bp (prime i) 20 n:=by{simp_all [gG,eD,ex,aA,aP,wu]};dsimp only;rw[D];have z:∀e,x∈(signed e).foldr putRow []↔x.map mj=e:=λe=>by{rw[(m6 _).1.mem_iff,jW]};have at_:x.length=6->∀i,i<6->(x.map mj)[i]?=some (ex x i).natAbs:=λv i hi=>by{unfold ex;simp_all};constructor;{intro h;split at h;{next q=>rw[z] at h;have v:=by{have:=ip mG h;simpa[PRIMES] using this};simp_all [LY,eD,wu]};.cases h};.rintro⟨v,h⟩;have e:=LY x;rw[h] at e;have E:∀i,i<6->bp (prime i) 20 n=(ex x i).natAbs:=λi hi=>by{have:=(Ib λi=>(ex x i).natAbs).times (k:=20) (by omega) Eg hi;simp_all};rw[au (by rw[e];exact eD λi hi=>by simp_all),z];apply eW;intro i;by_cases hi:i<6;{simp_all [wu]};.rw[bF (by simp;simp_all),bF (by simp[PRIMES];simp_all)]
theorem zJ(n:Nat):(ofWeight n).Nodup:=by unfold ofWeight;dsimp only;split;{exact(m6 _).1.symm.nodup (si _)};.exact .nil
def Iz(n):(ofWeight n).Pairwise (λa b=>lower b a=false):=by unfold ofWeight;dsimp only;split;{exact(m6 _).2};simp_all
def leW(a b:Row):Prop:=nd a<nd b\/nd a=nd b/\num a<=num b
def Pj(h:nd a=nd b)(q:lower b a=false):num a<=num b:=by rw[j9] at q;apply Nd;intro z;have g:=JP a;have:den a<den b:=by{apply n9;intro w;have:=dG z w g;simp_all};have:=Nat.mul_lt_mul_of_lt_of_lt z this;grind
def Az(most:Nat)(ok:Row->Bool):List Row:=(aj most).flatMap λ(i:Nat)=>(ofWeight (i+1)).filter ok
def zH(l:most<=500){g}{x}:x∈Az most g↔(x.length=6/\nd x<=most)/\g x=true:=by unfold Az;rw[ki];constructor;{grind [iZ]};.rintro⟨⟨j,k⟩,i⟩;have:=vH x;exact⟨nd x -1,by simp;omega,bV.mpr ⟨(iZ Eg (by omega)).mpr ⟨j,by simp_all⟩,i⟩⟩
def IT(c:most<=500)(b):(Az most b).Nodup:=by grind [Az,Ja,zJ,dN,jD,iZ,bV]
def Sg(w:most<=500)(s):(Az most s).Pairwise leW:=by unfold Az;rw[pJ];constructor;{intro i hi;have hi:i<most:=by{grind};refine dN (λ{a b} p u q=>?_) ((Iz (i+1)).filter _);have t:=((iZ Eg (by lia)).mp (bV.mp p).1).2;have r:=((iZ Eg (by lia)).mp (bV.mp u).1).2;exact .inr ⟨by omega,Pj (by omega) q⟩};.refine dN (λ{i j} hi o h x n y m=>?_) (jD);have o:j<most:=by{grind};have t:=((iZ Eg (by lia)).mp (bV.mp n).1).2;have r:=((iZ Eg (by lia)).mp (bV.mp m).1).2;exact .inl Eg
def j8(x:Row)(j:Nat)(v:Int):Row:=x.set j v
theorem o6(c:x.length=6){j}(v){i}(hi:i<6):ex (j8 x j v) i=if i=j then v else ex x i:=by delta ex j8;grind
def DV{f g}{j v}(c:j<6)(h:∀i,i<6->g i=if i=j then f i+v else f i):pw g=pw f*prime j^v:=by have e:pw g=pw λi=>f i+(if i=j then v else 0):=eD λi hi=>by{grind};rw[e,mw];match j,c with|0,_=>simp[pw,prime,PRIMES]|1,_=>simp[pw,prime,PRIMES]|2,_=>simp[pw,prime,PRIMES]|3,_=>simp[pw,prime,PRIMES]|4,_=>simp[pw,prime,PRIMES]|5,_=>simp[pw,prime,PRIMES]
def vQ(h:x.length=6){j}(b:j<6)(g:ex x j=0)(k:Nat):nd (j8 x j (k:Int))=nd x*prime j^k/\nd (j8 x j (-(k:Int)))=nd x*prime j^k/\num (j8 x j (k:Int))=num x*prime j^k/\num (j8 x j (-(k:Int)))=num x:=by simp only[LY,gG];refine⟨DV b λi hi=>?_,DV b λi hi=>?_,DV b λi hi=>?_,eD λi hi=>?_⟩<;>rw[o6 h _ hi]<;>split<;>(try subst i)<;>(try rw[g])<;>simp_all
def ks(n p most:Nat):List Nat:=(aj most).filter λk=>decide (n*p^(k+1)<=most)
def Km(d:1<=n)(c:2<=p):k∈ks n p most↔n*p^(k+1)<=most:=by unfold ks;rw[bV,gA,bz];have g:=aJ (Jb (n:=k+1)) (dw c _);have e:1*p^(k+1)<=n*p^(k+1):=aZ _ d;grind
def BP(j most:Nat)(x:Row):List Row:=(ks (nd x) (prime j) most).flatMap λ(k:Nat)=>[j8 x j ((k+1:Nat):Int),j8 x j (-((k+1:Nat):Int))]
def Vl(j most:Nat)(l:List Row):List Row:=l++l.flatMap (BP j most)
def gen(ψ most:Nat):Nat->List Row|0=>if 1<=most then[zeros] else[]|j+1=>if ψ.testBit j=true then Vl j most (gen ψ most j) else gen ψ most j
def Gd(ψ most j:Nat)(x:Row):Prop:=(x.length=6/\nd x<=most)/\∀i,i<6->ex x i≠0->i<j/\ψ.testBit i=true
def oY:y∈BP j most x↔∃k,k∈ks (nd x) (prime j) most/\(y=j8 x j ((k+1:Nat):Int)\/y=j8 x j (-((k+1:Nat):Int))):=by simp_all [BP]
def vh(x)(j)(v):(j8 x j v).length=x.length:=cb
theorem rR:∀(j),j<=6->∀x,x∈gen ψ most j↔Gd ψ most j x
 |0,_,x=>by unfold gen Gd;constructor;{intro h;split at h;{next q=>rw[bB.mp h];refine⟨⟨rfl,q⟩,λi hi z=>absurd (cT hi) z⟩};.cases h};.rintro⟨⟨h1,h2⟩,h3⟩;have e:x=zeros:=ej h1 rfl λi hi=>by{rw[cT hi];simp_all};have:=vH x;rw[au (by grind),e];exact bB.mpr rfl
 |j+1,hj,x=>by have ih:=rR (ψ:=ψ) (most:=most) j (by lia);unfold gen;by_cases b:ψ.testBit j=true;{rw[au b];unfold Vl;rw[cz,ki];constructor;{rintro(h|⟨y,hy,h⟩);{obtain⟨h1,h2⟩:=(ih x).mp h;exact⟨h1,λi hi z=>⟨by have:=(h2 i hi z).1;grind,(h2 i hi z).2⟩⟩};.obtain⟨⟨h1,h2⟩,h3⟩:=(ih y).mp hy;have z0:ex y j=0:=by{apply bq;intro z;have:=(h3 j (by omega) z).1;simp_all};obtain⟨k,hk,h⟩:=oY.mp h;rw[Km (vH y) (nL (by omega))] at hk;obtain⟨n1,n2,_⟩:=vQ h1 (by omega) z0 (k+1);have sup:∀(v:Int) i,i<6->ex (j8 y j v) i≠0->i<j+1/\ψ.testBit i=true:=λv i hi z=>by{grind [o6]};rcases h with rfl|rfl;{exact⟨⟨by rw[vh,h1],by rw[n1];exact hk⟩,sup _⟩};.exact⟨⟨by rw[vh,h1],by rw[n2];exact hk⟩,sup _⟩};.rintro⟨⟨h1,h2⟩,h3⟩;by_cases z:ex x j=0;{refine .inl ((ih x).mpr ⟨⟨h1,h2⟩,λi hi q=>⟨?_,(h3 i hi q).2⟩⟩);have:=(h3 i hi q).1;have:i≠j:=λe=>q (e▸z);lia};.right;have hy:(j8 x j 0).length=6:=by{rw[vh,h1]};have y0:ex (j8 x j 0) j=0:=by{rw[o6 h1 _ (by omega),au rfl]};obtain ⟨k,hk⟩:∃k,(ex x j).natAbs=k+1:=⟨(ex x j).natAbs -1,by lia⟩;obtain⟨n1,n2,_⟩:=vQ hy (by omega) y0 (k+1);have back:∀v:Int,ex x j=v->x=j8 (j8 x j 0) j v:=λv hv=>ej h1 (by rw[vh,hy]) λi hi=>by{simp_all [o6]};have e2:x=j8 (j8 x j 0) j ((k+1:Nat):Int)\/x=j8 (j8 x j 0) j (-((k+1:Nat):Int)):=by{rcases Int.natAbs_eq (ex x j) with q|q;{exact .inl (back _ (by rw[q,hk]))};.exact .inr (back _ (by rw[q,hk]))};have e3:nd x=nd (j8 x j 0)*prime j^(k+1):=by{rcases e2 with q|q;{rw[<-n1,<-q]};.rw[<-n2,<-q]};have pp:0<prime j^(k+1):=dZ (by have:=oU (i:=j) (by omega);lia);refine⟨j8 x j 0,(ih _).mpr ⟨⟨hy,?_⟩,λi hi q=>?_⟩,oY.mpr ⟨k,(Km (vH _) (nL (by omega))).mpr (by rw[<-e3];exact h2),e2⟩⟩;{have:=fb (nd (j8 x j 0)) pp;grind};grind only [o6]};grind [Gd]
theorem yu{ψ most:Nat}:∀j,j<=6->(gen ψ most j).Nodup|0,_=>by unfold gen;split;{exact nT _ _};.exact .nil|j+1,hj=>by have ih:=yu (ψ:=ψ) (most:=most) j (by lia);unfold gen;split;{have good:∀x∈gen ψ most j,x.length=6/\ex x j=0:=λx hx=>by{obtain⟨⟨h1,_⟩,h3⟩:=(rR j (by lia) x).mp hx;refine⟨h1,?_⟩;apply bq;intro z;have:=(h3 j (by omega) z).1;simp_all};have at_j:∀x,x.length=6->∀v,ex (j8 x j v) j=v:=λx hx v=>by{rw[o6 hx _ (by assumption),au rfl]};have same:∀x y,x.length=6->y.length=6->ex x j=0->ex y j=0->∀v w,j8 x j v=j8 y j w->x=y:=λx y hx hy x0 y0 v w e=>ej hx hy λi hi=>by{by_cases q:i=j;{rw[q,x0,y0]};.have:=ip (λr=>ex r i) e;rw[o6 hx _ hi,o6 hy _ hi,ax q,ax q] at this;exact this};unfold Vl;rw[Ja,E4];refine⟨ih,?_,λx hx y hy e=>?_⟩;{rw[pJ];constructor;{intro x hx;obtain⟨h1,h2⟩:=good x hx;unfold BP;rw[pJ];constructor;{intro k _;refine a8.mpr ⟨λz hz q=>?_,nT _ _⟩;rw[bB.mp hz] at q;have:=ip (λr=>ex r j) q;rw[at_j x h1,at_j x h1] at this;omega};.refine VC (λ{k l} h a ha b hb e=>?_) ((MR (n:=most)).filter λk=>decide (nd x*prime j^(k+1)<=most));simp only[aD,kj,Jq] at ha hb;have:=ip (λr=>ex r j) e;rcases ha with rfl|rfl<;>rcases hb with rfl|rfl<;>rw[at_j x h1,at_j x h1] at this<;>lia};.refine dN (λ{x y} hx hy h a ha b hb e=>h ?_) ih;obtain⟨x1,x2⟩:=good x hx;obtain⟨y1,y2⟩:=good y hy;obtain⟨k,_,p⟩:=oY.mp ha;obtain⟨l,_,q⟩:=oY.mp hb;subst e;rcases p with rfl|rfl<;>rcases q with q|q<;>exact same x y x1 y1 x2 y2 _ _ q};.obtain⟨z,hz,hy⟩:=ki.mp hy;obtain⟨k,_,p⟩:=oY.mp hy;have h1:=(good x hx).2;have hl:=(good z hz).1;rw[e] at h1;rcases p with rfl|rfl<;>rw[at_j z hl] at h1<;>omega};.exact ih
def J9(ψ:Nat)(x:Row):Bool:=(aj 6).all λ(i:Nat)=>ex x i==0||ψ.testBit i
def BZ(ψ:Nat){most:Nat}(hm:most<=500):(gen ψ most 6).Perm (Az most (J9 ψ)):=by refine(xW (yu 6 (aB _)) (IT hm _)).mpr λx=>?_;rw[rR 6 (aB _),zH hm];delta Gd J9;refine and_congr_right λ_=>?_;rw[aN];refine⟨λh i hi=>?_,λh i hi z=>?_⟩;{have hi:i<6:=by{simpa using hi};by_cases q:ex x i=0;{simp[q]};.simp[(h i hi q).2]};.have:=h i (by simpa using hi);simp[z] at this;exact⟨hi,this⟩
def cands(q:Search):cG q=(Az q.most (J9 q.primes)).filter λx=>!lower x q.low&&!lower q.high x:=by delta cG Az;rw[List.filter_flatMap];apply i6;intro i _;rw[lR];apply dC;intro x _;unfold cand J9;rw[Ru]
def CP(u o:Option Row)(x:Row):Bool:=u.all (λ(u:Row)=>lower x u)&&o.all λ(o:Row)=>lower o x
def r9:List Row->List Int->Nat×List Row
 |l,[]=>(0,l)
 |[],_::_=>(0,[])
 |x::r,a::as=>if a=1 then(1,[x]) else
  let z:=r9 (if a=2 then r.filter (λy=>lower y x) else if a=3 then r.filter (λy=>lower x y) else r) as
  (z.1,x::z.2)
theorem sv:∀(l:List Row) (as:List Int) (u o:Option Row),tellFrom l as u o=r9 (l.filter (CP u o)) as|[],as,u,o=>by cases as<;>rfl|x::r,as,u,o=>by dsimp only[tellFrom];by_cases q:CP u o x=true;{have q':¬(u.all (λ(u:Row)=>lower x u)=false\/o.all (λ(o:Row)=>lower o x)=false):=by{unfold CP at q;rw[aa] at q;rw[q.1,q.2];simp};rw[ax q',bU,au q];cases as with|nil=>show((tellFrom r [] u o).1,x::(tellFrom r [] u o).2)=_;rw[sv r [] u o];rfl|cons a as=>show(if a=1 then(1,[x]) else((tellFrom r as (if a=2 then some x else u) (if a=3 then some x else o)).1,x::(tellFrom r as (if a=2 then some x else u) (if a=3 then some x else o)).2))=_;dsimp only[r9];by_cases a1:a=1;{rw[au a1,au a1]};.rw[ax a1,ax a1,sv];have key:r.filter (CP (if a=2 then some x else u) (if a=3 then some x else o))=(if a=2 then(r.filter (CP u o)).filter (λy=>lower y x) else if a=3 then(r.filter (CP u o)).filter (λy=>lower x y) else r.filter (CP u o)):=by{unfold CP at q;rw[aa] at q;by_cases a2:a=2;{rw[au a2,au a2,ax Eg,lR];apply dC;intro y _;unfold CP;rw[b0];simp only[aa,Jr];refine⟨λh=>⟨h.1,?_,h.2⟩,λh=>⟨h.1,h.2.2⟩⟩;cases u with|none=>rfl|some v=>exact jd h.1 q.1};.rw[ax a2,ax a2];by_cases a3:a=3;{rw[au a3,au a3,lR];apply dC;intro y _;unfold CP;rw[b0];simp only[aa,Jr];refine⟨λh=>⟨h.2,h.1,?_⟩,λh=>⟨h.2.1,h.1⟩⟩;cases o with|none=>rfl|some v=>exact jd q.2 h.2};.rw[ax a3,ax a3]};rw[key]};.have q':u.all (λ(u:Row)=>lower x u)=false\/o.all (λ(o:Row)=>lower o x)=false:=by{unfold CP at q;rw[aa] at q;cases h:u.all (λ(u:Row)=>lower x u) with|false=>exact .inl rfl|true=>right;rw[h] at q;simpa using q};rw[au q',bU,ax q];exact sv r as u o
def lH(n:Nat)(l:kr):Nat:=l.foldl (λn c=>10*n+(c -48)) n
def iR(k:Nat)(t:kr):Nat:=((t.take k).takeWhile isDigit).length
def dk(t:kr):Nat:=if t.head?=some 48 then 0 else iR 40 t
def kn(t:kr):Nat×Nat:=if 0<dk t/\t[dk t]?=some 47 then(dk t,dk t+1+dk (t.drop (dk t+1))) else(dk t,dk t)
def kF(t:kr):Bool:=if(kn t).2=0\/(kn t).2=(kn t).1+1 then false else match t[(kn t).2]? with|none=>true|some c=>d9 c
def sj(t:kr):Nat:=lH 0 (t.take (kn t).1)
def nH(t:kr):Nat:=if(kn t).1<(kn t).2 then lH 0 ((t.drop ((kn t).1+1)).take ((kn t).2 -((kn t).1+1))) else 1
def pk:Nat->Nat->kr->List (Nat×Nat×Nat)×Option Nat
 |0,_,_=>([],none)
 |_+1,_,[]=>([],none)
 |f+1,i,c::t=>if d9 c=true then pk f (i+1) t
  else if kF (c::t)=true then((i,sj (c::t),nH (c::t))::(pk f (i+(kn (c::t)).2) ((c::t).drop (kn (c::t)).2)).1,(pk f (i+(kn (c::t)).2) ((c::t).drop (kn (c::t)).2)).2)
  else([],some (i+(kn (c::t)).2))
def ky:jY->Nat->List (Nat×Nat×Nat)->Option Nat->Except Nat Reader|ns,last,[],none=>.ok ⟨ns,last,.gap⟩|_,_,[],some p=>.error p|ns,last,(a,u,l)::fs,e=>match iA ⟨ns,last,.gap⟩ u l a with|.error p=>.error p|.ok q=>ky q.notes q.last fs e
theorem tR{n d a}(h:iA r n d a=.ok q):q=⟨q.notes,q.last,.gap⟩:=by unfold iA at h;grind
def yz(t):iR 0 t=0:=rfl
def wa(k):iR k []=0:=by simp[iR]
def oP{k c}{t:kr}(h:isDigit c=true):iR (k+1) (c::t)=iR k t+1:=by simp[iR,h]
theorem rX{k c}{t:kr}(h:¬isDigit c=true):iR k (c::t)=0:=by cases k with|zero=>rfl|succ k=>simp[iR,h]
theorem NB(k):∀t:kr,iR k t<=t.length/\iR k t<=k:=λt=>by grind [iR,List.takeWhile_sublist,isDigit]
def FR(h:isDigit c=true):¬d9 c=true/\c≠47:=by unfold isDigit at h;unfold d9;grind
def Pp(ns:jY)(last n a i:Nat):kr->Except Nat Reader
 |[]=>iA ⟨ns,last,.gap⟩ n 1 a
 |c::s=>if d9 c=true then(match iA ⟨ns,last,.gap⟩ n 1 a with
   |.error p=>.error p
   |.ok q=>readsFrom q (i+1) s)
  else if c=47 then readsFrom ⟨ns,last,.stroke n a⟩ (i+1) s else .error i
def K5(ns:jY)(last n d a i:Nat):kr->Except Nat Reader
 |[]=>iA ⟨ns,last,.gap⟩ n d a
 |c::s=>if d9 c=true then(match iA ⟨ns,last,.gap⟩ n d a with
   |.error p=>.error p
   |.ok q=>readsFrom q (i+1) s)
  else .error i
theorem yK(ns)(g a):∀(t) (n k i),k<=40->readsFrom ⟨ns,g,.upper n k a⟩ i t=Pp ns g (lH n (t.take (iR (40 -k) t))) a (i+iR (40 -k) t) (t.drop (iR (40 -k) t))|[],n,k,i,_=>by rw[wa];rfl|c::s,n,k,i,y=>by by_cases d:isDigit c=true/\k<Zl;{have x:k<40:=(by assumption:isDigit c=true/\k<Zl).2;obtain ⟨j,w⟩:∃j,40 -k=j+1:=⟨39 -k,by grind⟩;have A:=FR d.1;have v:=yK ns g a s (10*n+(c -48)) (k+1) (i+1) (by assumption);rw[show 40 -(k+1)=j by grind] at v;rw[w,oP d.1];unfold readsFrom;have:reads ⟨ns,g,.upper n k a⟩ i c=.ok ⟨ns,g,.upper (10*n+(c -48)) (k+1) a⟩:=by{dsimp only[reads];simp_all};rw[this];dsimp only;rw[v,show i+1+iR j s=i+(iR j s+1) by lia];rfl};.have z:iR (40 -k) (c::s)=0:=by{by_cases q:isDigit c=true;{rw[show 40 -k=0 by have:¬k<40:=λz=>d ⟨q,z⟩;simp_all];rfl};.exact rX q};rw[z];unfold readsFrom;(have:reads ⟨ns,g,.upper n k a⟩ i c=if d9 c=true then iA ⟨ns,g,.gap⟩ n 1 a else if c=47 then .ok ⟨ns,g,.stroke n a⟩ else .error i:=by unfold reads;dsimp only;rw[ax d];rfl);rw[this];show _=(if d9 c=true then _ else _);by_cases b:d9 c=true;{rw[au b,au b];rfl};.rw[ax b,ax b];by_cases e:c=47;{rw[au e,au e];rfl};simp_all
theorem yG(ns)(e n a):∀(t) (d k i),k<=40->readsFrom ⟨ns,e,.under n d k a⟩ i t=K5 ns e n (lH d (t.take (iR (40 -k) t))) a (i+iR (40 -k) t) (t.drop (iR (40 -k) t))|[],d,k,i,_=>by rw[wa];rfl|c::s,d,k,i,y=>by by_cases q:isDigit c=true/\k<Zl;{have x:k<40:=(by assumption:isDigit c=true/\k<Zl).2;obtain ⟨j,v⟩:∃j,40 -k=j+1:=⟨39 -k,by grind⟩;have A:=FR q.1;have u:=yG ns e n a s (10*d+(c -48)) (k+1) (i+1) (by assumption);rw[show 40 -(k+1)=j by grind] at u;rw[v,oP q.1];unfold readsFrom;have:reads ⟨ns,e,.under n d k a⟩ i c=.ok ⟨ns,e,.under n (10*d+(c -48)) (k+1) a⟩:=by{dsimp only[reads];simp_all};rw[this];dsimp only;rw[u,show i+1+iR j s=i+(iR j s+1) by lia];rfl};.have z:iR (40 -k) (c::s)=0:=by{by_cases w:isDigit c=true;{rw[show 40 -k=0 by have:¬k<40:=λz=>q ⟨w,z⟩;simp_all];rfl};.exact rX w};rw[z];unfold readsFrom;(have:reads ⟨ns,e,.under n d k a⟩ i c=if d9 c=true then iA ⟨ns,e,.gap⟩ n d a else .error i:=by unfold reads;dsimp only;rw[ax q];rfl);rw[this];show _=(if d9 c=true then _ else _);by_cases b:d9 c=true;{rw[au b,au b];rfl};simp_all
def MC{t:kr}(h:¬(isDigit c=true/\c≠48)):dk (c::t)=0:=by grind [dk,rX]
theorem Dq{t:kr}(h:isDigit c=true/\c≠48):dk (c::t)=iR 39 t+1:=by simp_all [dk,oP]
theorem wZ(t:kr):dk t<=t.length/\dk t<=40:=by unfold dk;split;{exact⟨fJ _,fJ _⟩};.exact NB 40 t
theorem pQ(n c:Nat)(l:kr):lH n (c::l)=lH (10*n+(c -48)) l:=by unfold lH;rw[cA]
def EC(ns)(b n a i)(t):readsFrom ⟨ns,b,.stroke n a⟩ i t=if dk t=0 then .error i else K5 ns b n (lH 0 (t.take (dk t))) a (i+dk t) (t.drop (dk t)):=by cases t with|nil=>rfl|cons c s=>unfold readsFrom;by_cases h:isDigit c=true/\c≠48;{grind [reads,Dq,yG,iR,pQ]};.have:reads ⟨ns,b,.stroke n a⟩ i c=.error i:=by{dsimp only[reads];grind};rw[this,MC h,au rfl]
def OK(ns)(a i){c}{t:kr}(g:¬d9 c=true):readsFrom ⟨ns,a,.gap⟩ i (c::t)=if dk (c::t)=0 then .error i else Pp ns a (lH 0 ((c::t).take (dk (c::t)))) i (i+dk (c::t)) ((c::t).drop (dk (c::t))):=by unfold readsFrom;by_cases h:isDigit c=true/\c≠48;{grind [reads,Dq,yK,iR,pQ]};.have:reads ⟨ns,a,.gap⟩ i c=.error i:=by{dsimp only[reads];grind};rw[this,MC h,au rfl]
def mP{t:kr}{m:Nat}:t.drop m=match t[m]? with
  |none=>[]
  |some c=>c::t.drop (m+1):=by
 by_cases h:m<t.length
 ·rw[ai h,mE h]
 ·rw[bF (by omega),om (by omega)]
theorem yE(r:Reader)(hr:r=⟨r.notes,r.last,.gap⟩){c:Nat}(h:d9 c=true)(i:Nat)(t:kr):readsFrom r i (c::t)=readsFrom r (i+1) t:=by rw[hr];(conv=>lhs;unfold readsFrom);have:reads ⟨r.notes,r.last,.gap⟩ i c=.ok ⟨r.notes,r.last,.gap⟩:=by{unfold reads;dsimp only;rw[au h]};rw[this]
def Iu(ns)(b n d a j)(s)(h:∀c,s.head?=some c->d9 c=true):K5 ns b n d a j s=match iA ⟨ns,b,.gap⟩ n d a with
  |.error p=>.error p
  |.ok q=>readsFrom q j s:=by
 cases s with
 |nil=>
  show iA _ _ _ _=_
  cases e:iA ⟨ns,b,.gap⟩ n d a with
  |error p=>rfl
  |ok q=>
   rw[tR e]
   rfl
 |cons c s=>
  show(if d9 c=true then _ else _)=_
  grind [yE,tR]
theorem tK:∀(f i) (t) (ns) (last),t.length<f->readsFrom ⟨ns,last,.gap⟩ i t=ky ns last (pk f i t).1 (pk f i t).2|0,i,t,ns,last,h=>by simp_all|f+1,i,[],ns,last,h=>rfl|f+1,i,c::t,ns,last,h=>by rw[aI] at h;dsimp only[pk];by_cases hb:d9 c=true;{rw[au hb,yE _ rfl hb,tK f (i+1) t ns last Eg]};.rw[ax hb,OK ns last i hb];have hlen:(c::t).length=t.length+1:=rfl;generalize c::t=T at*;by_cases m0:dk T=0;{have e:kn T=(0,0):=by{unfold kn;rw[ax (by lia),m0]};have w:kF T=false:=by{unfold kF;rw[e,au (.inl rfl)]};rw[au m0,ax (by rw[w];decide),e];rfl};.rw[ax m0];have fin:∀(e d:Nat),0<e->e<=T.length->(∀c,(T.drop e).head?=some c->d9 c=true)->∀n:Nat,K5 ns last n d i (i+e) (T.drop e)=ky ns last ((i,n,d)::(pk f (i+e) (T.drop e)).1) (pk f (i+e) (T.drop e)).2:=λe d h1 h2 h3 n=>by{rw[Iu ns last n d i (i+e) _ h3];dsimp only[ky];cases q:iA ⟨ns,last,.gap⟩ n d i with|error p=>rfl|ok q'=>dsimp only;rw[<-tK f (i+e) (T.drop e) q'.notes q'.last (by rw[cX];grind),<-tR q]};by_cases Vk:T[dk T]?=some 47;{have e:kn T=(dk T,dk T+1+dk (T.drop (dk T+1))):=by{unfold kn;rw[au ⟨by omega,Vk⟩]};have ed:T.drop (dk T)=47::T.drop (dk T+1):=by{rw[mP,Vk]};rw[ed];rw[Pp,ax JN,au rfl,EC];by_cases l0:dk (T.drop (dk T+1))=0;{have w:kF T=false:=by{unfold kF;rw[e,au (.inr (by dsimp only;simp_all))]};rw[au l0,ax (by rw[w];decide),e];dsimp only;rw[l0];rfl};.rw[ax l0];have le2:=(wZ (T.drop (dk T+1))).1;rw[cX] at le2;have lo:nH T=lH 0 ((T.drop (dk T+1)).take (dk (T.drop (dk T+1)))):=by{unfold nH;rw[e];dsimp only;rw[au (by lia)];congr 2;simp_all};have up:sj T=lH 0 (T.take (dk T)):=by{unfold sj;rw[e]};have ee:i+dk T+1+dk (T.drop (dk T+1))=i+(dk T+1+dk (T.drop (dk T+1))):=by{lia};rw[jC,ee];by_cases w:kF T=true;{rw[au w,e];dsimp only;rw[up,lo];refine fin (dk T+1+dk (T.drop (dk T+1))) _ (by lia) (by omega) (λc hc=>?_) _;unfold kF at w;rw[e,ax (by dsimp only;omega)] at w;rw[Nf] at hc;dsimp only at w;rw[hc] at w;exact w};.rw[ax w,e];dsimp only;unfold kF at w;rw[e,ax (by dsimp only;omega)] at w;dsimp only at w;rw[mP (t:=T) (m:=dk T+1+dk (T.drop (dk T+1)))];cases q:T[dk T+1+dk (T.drop (dk T+1))]? with|none=>rw[q] at w;exact absurd rfl w|some c=>rw[q] at w;show(if d9 c=true then _ else _)=_;rw[ax w];rfl};.have e:kn T=(dk T,dk T):=by{unfold kn;rw[ax λz=>Vk z.2]};have up:sj T=lH 0 (T.take (dk T)):=by{unfold sj;rw[e]};have lo:nH T=1:=by{unfold nH;rw[e,ax (by dsimp only;simp_all)]};have same:Pp ns last (lH 0 (T.take (dk T))) i (i+dk T) (T.drop (dk T))=K5 ns last (lH 0 (T.take (dk T))) 1 i (i+dk T) (T.drop (dk T)):=by{rw[mP];cases q:T[dk T]? with|none=>rfl|some c=>show(if _ then _ else if c=47 then _ else _)=(if _ then _ else _);have:c≠47:=λz=>Vk (by rw[q,z]);rw[ax this]};rw[same];by_cases w:kF T=true;{rw[au w,e];dsimp only;rw[up,lo];refine fin (dk T) 1 (by omega) (wZ T).1 (λc hc=>?_) _;simp_all [kF]};.rw[ax w,e];dsimp only;unfold kF at w;rw[e,ax (by dsimp only;simp_all)] at w;dsimp only at w;rw[mP];cases q:T[dk T]? with|none=>rw[q] at w;exact absurd rfl w|some c=>rw[q] at w;show(if d9 c=true then _ else _)=_;rw[ax w];rfl
theorem Fe:∀(k) (t:kr),∀c∈t.take (iR k t),isDigit c=true|k,[]=>by simp|0,c::s=>by intro d a;rw[yz] at a;simp at a|k+1,c::s=>by intro d a;by_cases q:isDigit c=true;{rw[oP q] at a;rcases aD.mp a with rfl|a;{exact q};.exact Fe k s d a};.rw[rX q] at a;simp at a
def D4(t:kr):∀c∈t.take (dk t),isDigit c=true:=by grind [dk,Fe]
def tq(h:isDigit c=true):48<=c/\c<=57:=by unfold isDigit at h;simp_all
theorem Fw:∀(l) (n),n<=lH n l|[],n=>aB _|c::l,n=>by rw[pQ];have:=Fw l (10*n+(c -48));lia
theorem Gv:∀(l) (n),(∀c∈l,isDigit c=true)->lH n l<(n+1)*10^l.length|[],n,_=>by simp[lH]|c::l,n,h=>by have j:=tq (h c ag);have:=Gv l (10*n+(c -48)) λd g=>h d (af _ g);rw[aI,gh];refine aJ this ?_;rw[cN (10^l.length),<-cR];exact aZ _ (by grind)
def Qh:10^40<2^200:=by decide+kernel
theorem LW(h:0<dk t):1<=lH 0 (t.take (dk t))/\lH 0 (t.take (dk t))<2^200:=by constructor;{cases t with|nil=>have:=(wZ []).1;assumption|cons c s=>by_cases q:isDigit c=true/\c≠48;{rw[Dq q,List.take_succ_cons,pQ];have:=tq q.1;have:=Fw (s.take (iR 39 s)) (10*0+(c -48));grind};.rw[MC q] at h;simp_all};.have l:=Gv (t.take (dk t)) 0 (D4 t);have i:(t.take (dk t)).length<=40:=by{simp_all [wZ]};have m:10^(t.take (dk t)).length<=10^40:=dI JN i;lia
theorem vq(t:kr):(kn t=(dk t,dk t)/\¬(0<dk t/\t[dk t]?=some 47))\/(kn t=(dk t,dk t+1+dk (t.drop (dk t+1)))/\0<dk t/\t[dk t]?=some 47):=by unfold kn;by_cases h:0<dk t/\t[dk t]?=some 47;{rw[au h];exact .inr ⟨rfl,h⟩};.rw[ax h];exact .inl ⟨rfl,h⟩
def Mf(t:kr):(kn t).1<=(kn t).2/\(kn t).2<=t.length:=by have:=(wZ t).1;rcases vq t with⟨e,_⟩|⟨e,h1,h2⟩;{rw[e];exact⟨aB _,this⟩};.rw[e];have h3:=(aQ.mp h2).1;have h4:=(wZ (t.drop (dk t+1))).1;rw[cX] at h4;dsimp only;omega
def zX{t:kr}(h:kF t=true):0<(kn t).2/\(1<=sj t/\sj t<2^200)/\(1<=nH t/\nH t<2^200):=by unfold kF at h;split at h;{cases h};.next q=>have q:¬_/\¬_:=sM.mp q;rcases vq t with⟨e,_⟩|⟨e,h1,h2⟩;{rw[e] at q;have hd:0<dk t:=by{have:=q.1;dsimp only at this;omega};refine⟨by rw[e];exact hd,?_,?_⟩;{unfold sj;rw[e];exact LW hd};.unfold nH;rw[e,ax (by dsimp only;omega)];decide};.rw[e] at q;have hd:0<dk (t.drop (dk t+1)):=by{have:=q.2;dsimp only at this;omega};refine⟨by rw[e];dsimp only;omega,?_,?_⟩;{unfold sj;rw[e];exact LW h1};.unfold nH;rw[e];dsimp only;rw[au (by omega),show dk t+1+dk (t.drop (dk t+1)) -(dk t+1)=dk (t.drop (dk t+1)) by omega];exact LW hd
abbrev ZP(p:Nat×Nat×Nat):Prop:=(1<=p.2.1/\p.2.1<2^200)/\(1<=p.2.2/\p.2.2<2^200)
theorem zB:∀(f i) (t),∀p∈(pk f i t).1,ZP p|0,i,t,p,h=>by cases h|f+1,i,[],p,h=>by cases h|f+1,i,c::t,p,h=>by dsimp only[pk] at h;split at h;{exact zB f _ _ p h};.split at h;{next w=>rcases aD.mp h with rfl|h;{exact⟨(zX w).2.1,(zX w).2.2⟩};.exact zB f _ _ p h};.cases h
theorem vI:∀(fs) (ns) (last) (r),ky ns last fs none=.ok r->r.last=(fs.getLast?.map (·.1)).getD last/\r.notes.length=ns.length+fs.length|[],ns,last,r,h=>by cases h;trivial|(a,u,l)::fs,ns,last,r,h=>by unfold ky at h;cases e:iA ⟨ns,last,.gap⟩ u l a with|error p=>rw[e] at h;cases h|ok q=>rw[e] at h;obtain ⟨v,s⟩:=vI fs q.notes q.last r h;have:q.last=a/\q.notes.length=ns.length+1:=by{unfold iA at e;cases o:rowOf u l with|none=>rw[o] at e;cases e|some x=>rw[o] at e;dsimp only at e;split at e;{cases e;simp_all};.cases e};grind
end CM
namespace CN
open Cb CM
def lF(r:Nat->Nat):Nat->Nat|0=>3|c+1=>lF r c+r c+1
def rF:Nat->Nat->Nat|0=>λ_=>0|t+1=>λc=>lF (rF t) (c+1)
def JQ:∀t,t<=6->∀c,c<6->rF t c<=2309:=by decide+kernel
def X4:∀t,t<=5->∀c,c<=6->lF (rF t) c<=2309:=by decide+kernel
structure Eu(c:Nat)(first second:Row)(M:Nat)(kept left:Row):Prop where
 lk:kept.length=6
 ll:left.length=6
 fk:lC c kept
 fl:lC c left
 to:∀S,fN S first->fN S second->fN S kept/\fN S left
 QR:∀S,fN S kept->fN S left->fN S first/\fN S second
 ph:(kept=first/\left=second)\/ex kept c≠0
 det:∀i,i<6->(ex kept c*ex left i -ex left c*ex kept i).natAbs<=M
 bk:Bd M kept
 bl:Bd M left
def KW(k:c<6){first d}{a b:Nat}(l:first.length=6)(r:d.length=6)(m:lC c first)(n:lC c d)(j:Bd (2^a) first)(h:Bd (2^b) d):Eu c first d (2^(b+a+1)) first d:=by have o:2^a<=2^(b+a+1):=ly (by lia);have m2:2^b<=2^(b+a+1):=ly (by lia);refine⟨l,r,m,n,λ_ a b=>⟨a,b⟩,λ_ a b=>⟨a,b⟩,.inl ⟨rfl,rfl⟩,λi hi=>?_,j.mono o,h.mono m2⟩;have s:=cE (j c k) (h i hi);have p:=cE (h c k) (j i hi);rw[<-cZ,<-Nat.pow_add] at s p;rw[VO] at s;have:2^(b+a+1)=2^(b+a)*2:=Nat.pow_succ ..;omega
def Eu.next{c:Nat}(hc:c<6){first second kept left:Row}{M:Nat}(h:Eu c first second M kept left)(hl:ex left c≠0):Eu c first second M left (iW c kept left):=by have col:=pE hc kept left;have det:∀i,i<6->(ex left c*ex (iW c kept left) i -ex (iW c kept left) c*ex left i).natAbs<=M:=λi hi=>by{have:ex left c*ex (iW c kept left) i -ex (iW c kept left) c*ex left i= -(ex kept c*ex left i -ex left c*ex kept i):=by{rw[col,dc _ _ _ _ hi];grind};rw[this,mf];exact h.det i hi};refine⟨h.ll,bZ _ _ _ _,h.fl,h.fk.sum _ _ (by omega) h.fl,λS x y=>?_,λS x y=>?_,.inr hl,det,h.bl,λi hi=>?_⟩;{obtain⟨p,q⟩:=h.to S x y;exact⟨q,.Wl _ _ p q⟩};{refine h.QR S ?_ x;have e:kept=sum 1 (iW c kept left) ((ex kept c).fdiv (ex left c)) left:=ej h.lk (bZ _ _ _ _) λi hi=>by{simp only[iW,dc _ _ _ _ hi];grind};rw[e];exact .Wl _ _ y x};.have hr:=va (ex kept c) hl;rw[<-col] at hr;have d:=det i hi;have hb:=h.bl i hi;generalize ex (iW c kept left) i=y' at*;generalize ex (iW c kept left) c=v' at*;generalize ex left c=v at*;generalize ex left i=y at*;have h1:v'.natAbs*y.natAbs<=(v.natAbs -1)*M:=cE (by omega) hb;have h2:(v*y').natAbs<=M+(v'*y).natAbs:=by{omega};rw[cZ,cZ] at h2;have h3:(v.natAbs -1)*M+M=v.natAbs*M:=by{rw[<-Nat.succ_mul];congr 1;omega};exact Aj (by omega:v.natAbs*y'.natAbs<=v.natAbs*M) (by omega)
def Eu.nz{M}(h:Eu c first a M b d)(j:ex d c=0)(q:ex first c≠0\/ex a c≠0):ex b c≠0:=by rcases h.ph with⟨rfl,rfl⟩|i;{simp_all};.exact i
structure zP(rows L:List Row)(t:Nat):Prop where
 len:rows.length=6
 row:∀c,c<6->AU c (rF t c) (Rw rows c)
 CJ:∀x,fN (·∈rows) x↔fN (·∈L) x
structure Up(rows0 L:List Row)(v:Row)(t c:Nat)(rows:List Row)(left:Row):Prop where
 len:rows.length=6
 same:∀d,c<=d->d<6->Rw rows d=Rw rows0 d
 low:∀d,d<c->AU d (rF (t+1) d) (Rw rows d)
 ll:left.length=6
 fl:lC c left
 bl:Bd (2^lF (rF t) c) left
 CJ:∀x,fN (λy=>y∈rows\/y=left) x↔fN (λy=>y∈L\/y=v) x
def BW{t}(S:zP e L t)(p:∀u,u∈L->u.length=6)(o:v.length=6)(w:Bd 8 v):Up e L v t 0 e v where
 len:=S.len
 same:=λ_ _ _=>rfl
 low:=λd r=>by omega
 ll:=o
 fl:=λj D=>by omega
 bl:=w
 CJ:=λx=>by
  constructor
  ·intro z
   refine z.sub λb h=>?_
   rcases h with h|rfl
   ·have:=(S.CJ b).mp (.mem h (by obtain⟨c,m,rfl⟩:=tM S.len h;exact(S.row c m).len))
    exact this.sub λc m=>.mem (.inl m) (p c m)
   ·exact .mem (.inr rfl) o
  ·intro z
   refine z.sub λb h=>?_
   rcases h with h|rfl
   ·have:=(S.CJ b).mpr (.mem h (p b h))
    exact this.sub λc m=>.mem (.inl m) (by obtain⟨d,r,rfl⟩:=tM S.len m;exact(S.row d r).len)
   ·exact .mem (.inr rfl) o
def Up.next{v A j i}{t c}(S:zP u L t)(hc:c<6)(U:Up u L v t c rows A) (E:Eu c (Rw rows c) A (2^lF (rF t) (c+1)) j i) (z:ex i c=0):Up u L v t (c+1) (rows.set c j) i:=by have o:=S.row c hc;have T:=U.same c (aB _) hc;refine⟨by rw[cb];exact U.len,λd h1 W=>?_,λd hd=>?_,E.ll,E.fl.up z,E.bl,λx=>(U.CJ x).symm.trans ?_|>.symm⟩;{rw[wB U.len hc,ax (by omega)];exact U.same d (by omega) W};{rw[wB U.len hc];by_cases q:d=c;{rw[au q];subst q;refine⟨E.lk,E.fk,λe=>?_,?_⟩;{apply bq;intro X;have V:=λw=>E.nz z w e;have h1:ex (Rw rows d) d=0:=bq λw=>V (.inl w);have W:=bq λw=>V (.inr w);rcases E.ph with⟨p,_⟩|p;{apply X;rw[p,T];exact o.zer (by rw[<-T];exact h1)};.exact p e};.exact E.bk};.rw[ax q];exact U.low d (by lia)};.have lenOf:=λd hd=>by{by_cases q:d<c;{exact(U.low d q).len};.rw[U.same d Eg hd];exact(S.row d hd).len};constructor;{intro w;refine w.sub λb hb=>?_;have r:=E.QR (λy=>y∈rows.set c j\/y=i) (.mem (.inl (by have:=vL (rows:=rows.set c j) (by rw[cb];exact U.len) hc;rw[wB U.len hc,au rfl] at this;exact this)) E.lk) (.mem (.inr rfl) E.ll);rcases hb with hb|rfl;{obtain⟨d,hd,rfl⟩:=tM U.len hb;by_cases q:d=c;{simp_all};.refine .mem (.inl ?_) (lenOf d hd);have:=vL (rows:=rows.set c j) (by rw[cb];exact U.len) hd;rw[wB U.len hc,ax q] at this;exact this};.exact r.2};.intro w;refine w.sub λb hb=>?_;have r:=E.to (λy=>y∈rows\/y=A) (.mem (.inl (vL U.len hc)) (lenOf c hc)) (.mem (.inr rfl) U.ll);rcases hb with hb|rfl;{obtain⟨d,hd,rfl⟩:=tM (by rw[cb];exact U.len) hb;rw[wB U.len hc];by_cases q:d=c;{rw[au q];exact r.1};.rw[ax q];exact .mem (.inl (vL U.len hd)) (lenOf d hd)};.exact r.2
def Up.done{v i}{t}(U:Up n L v t 6 rows i)(p:∀u,u∈L->u.length=6)(s:v.length=6):zP rows (L++[v]) (t+1):=by have z:=lC.all U.ll U.fl;refine⟨U.len,λc A=>U.low c A,λx=>?_⟩;have g:∀r,r∈rows->r.length=6:=λr q=>by{obtain⟨d,B,rfl⟩:=tM U.len q;exact(U.low d B).len};constructor;{intro w;have:fN (λy=>y∈rows\/y=i) x:=w.sub λb e=>.mem (.inl e) (g b e);exact((U.CJ x).mp this).sub λb e=>by rcases e with e|rfl;{exact .mem (by simp[e]) (p b e)};.exact .mem (by simp) s};.intro w;have:fN (λy=>y∈L\/y=v) x:=w.sub λb e=>by{rcases cz.mp e with e|e;{exact .mem (.inl e) (p b e)};.exact .mem (.inr (bB.mp e)) Eg};exact((U.CJ x).mpr this).sub λb e=>by rcases e with e|rfl;{exact .mem e (g b e)};.rw[z];exact .zero
def Co:zP [zeros,zeros,zeros,zeros,zeros,zeros] [] 0 where
 len:=rfl
 row:=λc p=>by
  have e:Rw [zeros,zeros,zeros,zeros,zeros,zeros] c=zeros:=by
   match c,p with
   |0,_=>rfl
   |1,_=>rfl
   |2,_=>rfl
   |3,_=>rfl
   |4,_=>rfl
   |5,_=>rfl
  rw[e]
  exact⟨rfl,lC.zeros c (by lia),λ_=>rfl,λi hi=>by rw[cT hi];simp_all⟩
 CJ:=λx=>by
  constructor
  ·intro w
   refine w.sub λb m=>?_
   have:b=zeros:=by simp_all
   rw[this];exact .zero
  ·intro w
   exact w.sub λb m=>by cases m
def zP.rank(S:zP rows L t)(hL:Sm L):((aj 6).filter λc=>decide (ex (Rw rows c) c≠0)).length=Yy L:=by rw[Eh hL];obtain ⟨_,G,e⟩:=oS hL;have G':=FP λc a=>⟨_,S.row c a⟩;congr 1;apply dC;intro c a;have f:c<6:=gA.mp a;have:=jz4 G' G (λw=>((J7 S.len (λc a=>⟨_,S.row c a⟩) w).trans (S.CJ w)).trans (e w).symm) f;rw[<-this];unfold RR;grind
def s6(rows:List Row):Rt:=(aj 6).map (RR rows)
def FF(rows){c}(b:c<6):(s6 rows).getD c none=RR rows c:=by simp_all [s6]
def Told.uniq:∀{a b},Told S v a->Told S v b->a=b|none,none,_,_=>rfl|none,some k,h,q=>by have:=h _ q.2.1;have:=q.1;omega|some k,none,h,q=>by have:=q _ h.2.1;have:=h.1;omega|some k,some l,h,q=>by have d:=CB.mp (h.2.2 _ q.2.1);have e:=CB.mp (q.2.2 _ h.2.1);rw[Nat.dvd_antisymm d e]
def Told.iff(e:∀x,fN S x↔fN T x){v}:∀{a},Told S v a->Told T v a|none,h=>λj q=>h j ((e _).mpr q)|some k,h=>⟨h.1,(e _).mp h.2.1,λj q=>h.2.2 j ((e _).mpr q)⟩
def zP.round(S:zP rows L t)(q:Sm L){x}(o:x.length=6):timesIn 6 0 x (s6 rows)=Ak L x:=by have p:∀c,c<6->∃K,AU c K (Rw rows c):=λc l=>⟨_,S.row c l⟩;have G:=FP p;have s:=λc r l e=>G c r l ((FF rows l).symm.trans e);have i:=kS s 6 0 x rfl o (λj v=>by omega);refine Told.uniq (Told.iff (λy=>?_) i) (DU q o);refine Iff.trans ?_ ((J7 S.len p y).trans (S.CJ y));have e:∀r,Of (λc=>(s6 rows).getD c none) 0 r↔Of (RR rows) 0 r:=λr=>by{constructor;{rintro⟨d,i,k,n⟩;exact⟨d,i,k,(FF rows k).symm.trans n⟩};.rintro⟨d,i,k,n⟩;exact⟨d,i,k,(FF rows k).trans n⟩};have f:=funext λr=>propext (e r);rw[f]
end CN
namespace L2
open PySem PySem.Spec PyProof.Rows
abbrev qq9(x:Str):Prop:=(x==("__debug__" :Str))=false
abbrev xj8(x:Str):Prop:=(x==("__classdict__" :Str))=false
abbrev Key:=Sum Int Str
def Q2:Key->Value->Bool|.inl k,v=>uW k v|.inr x,v=>Value.isStrOf x v
def abt(w:World):Key->Int|.inl k=>hashInt k|.inr x=>hashStr w x
def fY:∀{k} {v},Q2 k v=true->(∃i t,k=Sum.inl i/\v=Value.int i t)\/(∃x t,k=Sum.inr x/\v=Value.str x t)|.inl i,v,h=>by obtain ⟨t,e⟩:=Value.isInt_shape (k:=i) (v:=v) h;grind|.inr x,v,h=>by have⟨t,e⟩:=Value.isStrOf_shape h;grind
def SI(a b):decide ((Sum.inl a:Key)=Sum.inl b)=(a==b):=by grind
def Sb(a b):decide ((Sum.inr a:Key)=Sum.inr b)=decide (a=b):=by grind
def SK(a)(b):decide ((Sum.inl a:Key)=Sum.inr b)=false:=nq (λq=>nomatch q)
def Uw(a)(b):decide ((Sum.inr a:Key)=Sum.inl b)=false:=nq (λq=>nomatch q)
def Gh(prog:Program)(w:World):PySem.KeyKind prog w Key where
 is:=Q2
 hash:=abt w
 inj:=λv a b ha hb=>by
  rcases fY ha with⟨i,t,rfl,rfl⟩|⟨x,t,rfl,rfl⟩
  ·rcases fY hb with⟨j,u,rfl,e⟩|⟨y,u,rfl,e⟩
   ·injection e with e1 _;rw[e1]
   ·exact nomatch e
  ·rcases fY hb with⟨j,u,rfl,e⟩|⟨y,u,rfl,e⟩
   ·exact nomatch e
   ·injection e with e1 _;rw[e1]
 byValue:=λk v h=>by
  rcases fY h with⟨i,t,rfl,rfl⟩|⟨x,t,rfl,rfl⟩<;>rfl
 pyHash:=λhv h=>by
  rcases fY hv with⟨i,t,rfl,rfl⟩|⟨x,t,rfl,rfl⟩
  ·exact wpAny_pyHash_int h
  ·exact wpAny_pyHash_str h
 eqBool:=λhu hv h=>by
  rcases fY hu with⟨i,t,rfl,rfl⟩|⟨x,t,rfl,rfl⟩
  ·rcases fY hv with⟨j,u,rfl,rfl⟩|⟨y,u,rfl,rfl⟩
   ·rw[SI] at h;exact wpAny_eqBool_int h
   ·rw[SK] at h;exact Al i t y u _ _ _ _ h
  ·rcases fY hv with⟨j,u,rfl,rfl⟩|⟨y,u,rfl,rfl⟩
   ·rw[Uw] at h;exact Am x t j u _ _ _ _ h
   ·rw[Sb] at h;exact wpAny_eqBool_str h
 «strs»:=λk x t v h=>by
  rcases fY h with⟨i,u,rfl,e⟩|⟨y,u,rfl,e⟩
  ·exact nomatch e
  ·injection e with e1 _
   subst e1
   cases v<;>rfl
inductive V where
 |ie|bl (b:Bool)|int (i:Int)|str (x:Str)|Rg (b:Array UInt8)|Zd (b:UInt64)|ref (a:aE)|ty (n:String)
 deriving DecidableEq
def Sk:V->Value->Prop|.ie,u=>u=Value.none|.bl b,u=>u=Value.bool b|.int i,u=>∃t,u=Value.int i t|.str x,u=>∃t,u=Value.str x t|.Rg b,u=>∃t,u=Value.bytes b t|.Zd b,u=>∃t,u=Value.float b t|.ref a,u=>u=Value.ref a|.ty n,u=>u=Value.type n
abbrev cu:List V->List Value->Prop:=Paired Sk
theorem cu.length(r:cu xs us):xs.length=us.length:=Ng r
theorem cu.get:∀{xs} {us} {i:Nat} {x},cu xs us->xs[i]?=some x->∃u,us[i]?=some u/\Sk x u|_,_,_,_,.nil,e=>by simp at e|_,_,0,_,.cons r _,e=>by grind|_,_,i+1,x,.cons _ t,e=>by obtain⟨u,g,f⟩:=cu.get (i:=i) (x:=x) t (by grind);simp_all
theorem cu.set(r:Sk x u):∀{xs} {us} (i),cu xs us->cu (xs.set i x) (us.set i u)|_,_,_,.nil=>.nil|_,_,0,.cons _ t=>.cons r t|_,_,i+1,.cons q t=>.cons q (cu.set r i t)
theorem cu.append:∀{xs ys} {us a},cu xs us->cu ys a->cu (xs++ys) (us++a)|_,_,_,_,.nil,s=>s|_,_,_,_,.cons r t,s=>.cons r (cu.append t s)
theorem cu.take:∀{xs} {us} (n),cu xs us->cu (xs.take n) (us.take n)|_,_,0,_=>.nil|_,_,_+1,.nil=>.nil|_,_,n+1,.cons r t=>.cons r (cu.take n t)
theorem cu.drop:∀{xs} {us} (n),cu xs us->cu (xs.drop n) (us.drop n)|_,_,0,r=>r|_,_,_+1,.nil=>.nil|_,_,n+1,.cons _ t=>cu.drop n t
def uS:Option V->Option Value->Prop|some v,some u=>Sk v u|none,none=>True|_,_=>False
def KV:List (a×V)->List (a×Value)->Prop:=Paired λ(p:a×V) (q:a×Value)=>p.1=q.1/\Sk p.2 q.2
def kV:Key->V|.inl i=>.int i|.inr x=>.str x
inductive HO where
 |lst (xs:List V)
 |tup (xs:List V)
 |dK (kvs:List (Key×V))|dT (kvs:List (List Key×V))
 |set (S:Int->Bool) (n:Nat)
 |ins (C dx:aE) (fs:List (Str×V))
 |own (x:aE)
 |xd (fs:List (Str×V))
 |met (f x:aE)
 |Q9 (lo hi:Int)
 |yH (o:Obj) (u:HO)
 |rf (ps:Array Value)
 |ext (φ:Heap->Prop)
abbrev Hp:=aE->Option HO
def IZ(H:Hp)(a:aE)(o:HO):Hp:=λb=>if b=a then some o else H b
theorem bh:IZ H a o a=some o:=by unfold IZ;grind
def aS{a b}{o}(h:b≠a):IZ H a o b=H b:=by unfold IZ;grind
def NJ:IZ (IZ H a o) a u=IZ H a u:=by unfold IZ;grind
def Xq{H:Hp}{a b}{o u}(h:H a=some o)(h':H b=some u)(d:o≠u):a≠b:=by grind
def aY{H:Hp}{a b}{o}(h:H a=some o)(h':H b=none):a≠b:=by grind
section
variable (P:Program)(w:World)
def gB(H:Hp)(h:Heap)(a:aE):HO->Prop|.lst xs=>xs.length<=aG/\∃(its:List Value) (n:Nat),cu xs its/\h.get? a=some {cls:=.type "list",data:=.seq its.toArray n}|.tup xs=>xs.length<=aG/\∃its:List Value,cu xs its/\IsTup h a its.toArray|.dK b=>b.length<=aG/\(a==CW)=false/\∃vs,KV b vs/\h.DictOf (Gh P w) a vs|.dT b=>b.length<=aG/\(a==CW)=false/\∃xs:List (List Key×aE×Value),Paired (λ(p:List Key×V) (q:List Key×aE×Value)=>p.1=q.1/\H q.2.1=some (.tup (p.1.map kV))/\Sk p.2 q.2.2) b xs/\∃o es r,h.get? a=some o/\o.ExactDict/\o.data=.dict es r/\es.toList=xs.map (entryOfKey (tupleKind (Gh P w)))/\(xs.map (·.1)).Nodup|.set S n=>h.SetOf (intKind P w) a S n|.ins C j i=>H j=some (.own a)/\i.length<=1000/\j≠a/\h.get? a=some (iT C j)/\∃e,h.Ns1 j e/\(∀f,uS (i.lookup f) (e f))/\AF e (i.map (·.1))|.own _=>∃o,h.get? a=some o|.xd i=>∃e,h.Ns1 a e/\∀f,uS (i.lookup f) (e f)|.Q9 lo hi=>∃t u v,h.get? a=some {cls:=.type "range",data:=.fields #[.int lo t,.int hi u,.int 1 v]}|.yH o u=>h.get? a=some o/\gB H h a u|.rf ps=>h.get? a=some {cls:=.none,data:=.fields ps}|.met f x=>h.get? a=some (PySem.W.methodObj (.ref f) (.ref x))|.ext k=>k h/\(∃o,h.get? a=some o)/\∀m l:Heap,k m->(∀o,m.get? a=some o->l.get? a=some o)->k l
def rh(H:Hp)(h:Heap):Prop:=∀a o,H a=some o->gB P w H h a o
end
section
variable {P:Program}{w:World}{H H':Hp}{h h':Heap}{a:aE}{o:HO}
theorem gB.lt(x:gB P w H h a o):a<h.objs.size:=by cases o with|lst xs=>obtain⟨_,_,_,_,e⟩:=x;exact aF e|tup xs=>obtain⟨_,_,_,p⟩:=x;exact p.lt|dK g=>obtain ⟨_,_,_,_,o,_,_,e,_⟩:=x;exact aF e|dT g=>obtain⟨_,_,_,_,o,_,_,e,_⟩:=x;exact aF e|set S n=>have⟨o,_,_,_,e,_⟩:=x;exact aF e|ins C dx q=>obtain⟨_,_,_,e,_⟩:=x;exact aF e|own y=>obtain⟨_,e⟩:=x;exact aF e|xd q=>obtain⟨_,⟨_,_,_,e,_⟩,_⟩:=x;exact aF e|Q9 lo hi=>obtain⟨_,_,_,e⟩:=x;exact aF e|yH ob u=>obtain⟨e,_⟩:=x;exact aF e|rf ps=>exact aF (show h.get? a=some _ from x)|met f y=>exact aF (show h.get? a=some _ from x)|ext φ=>obtain⟨_,⟨_,e⟩,_⟩:=x;exact aF e
theorem Paired.VS{l₁:List c}{l₂}(h:Paired F l₁ l₂)(f:∀a b,F a b->G a b):Paired G l₁ l₂:=by induction h with|nil=>exact .nil|cons r t i=>exact .cons (f _ _ r) i
def gB.wR(x:gB P w H h a o)(k:∀b u,(b=a\/H b=some (.own a))->h.get? b=some u->h'.get? b=some u) (G:∀b,H b=some (.own a)->H' b=some (.own a)) (L:∀b xs,H b=some (.tup xs)->H' b=some (.tup xs)):gB P w H' h' a o:=by induction o with|lst xs=>obtain ⟨z,its,n,r,e⟩:=x;exact⟨z,its,n,r,k _ _ (.inl rfl) e⟩|tup xs=>have⟨z,its,r,i,e,c⟩:=x;exact⟨z,its,r,i,k _ _ (.inl rfl) e,c⟩|dK m=>obtain ⟨z,y,vs,r,i,es,j,e,c⟩:=x;exact⟨z,y,vs,r,i,es,j,k _ _ (.inl rfl) e,c⟩|dT m=>have⟨z,y,xs,r,i,es,j,e,c⟩:=x;exact⟨z,y,xs,Paired.VS r λp q z=>⟨z.1,L _ _ z.2.1,z.2.2⟩,i,es,j,k _ _ (.inl rfl) e,c⟩|set S n=>have⟨i,es,j,t,e,c⟩:=x;exact⟨i,es,j,t,k _ _ (.inl rfl) e,c⟩|ins C X N=>obtain ⟨d,z,B,e,s,⟨od,es,j,D,c⟩,r⟩:=x;exact⟨G _ d,z,B,k _ _ (.inl rfl) e,s,⟨od,es,j,k _ _ (.inr d) D,c⟩,r⟩|own y=>have⟨i,e⟩:=x;exact⟨i,k _ _ (.inl rfl) e⟩|xd N=>obtain ⟨s,⟨od,es,j,e,c⟩,r⟩:=x;exact⟨s,⟨od,es,j,k _ _ (.inl rfl) e,c⟩,r⟩|Q9 lo hi=>have⟨t,u,v,e⟩:=x;exact⟨t,u,v,k _ _ (.inl rfl) e⟩|yH i u M=>obtain ⟨e,q⟩:=x;exact⟨k _ _ (.inl rfl) e,M q⟩|rf ps=>have e:=x;exact k a _ (.inl rfl) e|met f y=>have e:=x;exact k a _ (.inl rfl) e|ext W=>have⟨p,⟨o,e⟩,st⟩:=x;exact⟨st _ _ p λo q=>k _ _ (.inl rfl) q,⟨o,k _ _ (.inl rfl) e⟩,st⟩
theorem rh.lt(x:rh P w H h)(e:H a=some o):a<h.objs.size:=(x a o e).lt
def rh.fresh(x:rh P w H h)(e:h.objs.size<=a):H a=none:=by cases q:H a with|none=>rfl|some u=>exact absurd (aJ (x.lt q) e) (fI _)
def rh.kept(x:rh P w H h)(k:∀b u,h.get? b=some u->h'.get? b=some u):rh P w H h':=λa o e=>(x a o e).wR (λb u _ q=>k b u q) (λ_ q=>q) λ_ _ q=>q
def rh.laid(x:rh P w H h)(k:∀b u,h.get? b=some u->h'.get? b=some u)(l:h.objs.size<=a)(n:gB P w (IZ H a o) h' a o):rh P w (IZ H a o) h':=λb u e=>by have j:=x.fresh l;by_cases m:b=a;{grind [bh]};.rw[aS m] at e;exact(x b u e).wR (λc v _ q=>k c v q) (λc q=>by rw[aS (aY q j)];exact q) λc xs q=>by rw[aS (aY q j)];exact q
end
def Rd(H:Hp)(a:aE)(u:HO):Prop:=H a=some u\/∃o,H a=some (.yH o u)
def Rd.ok{H}{h}{a}{u}(r:Rd H a u)(x:rh P w H h):gB P w H h a u:=by rcases r with r|⟨o,r⟩;{exact x a u r};.obtain ⟨_,q⟩:=x a _ r;exact q
def YY:Option HO->Prop|some (.lst _)=>True|some (.dK _)=>True|some (.dT _)=>True|some (.set _ _)=>True|some (.ins _ _ _)=>True|some (.ext _)=>True|_=>False
section
variable {P:Program}{w:World}{H:Hp}{h h':Heap}{x e:aE}{o':HO}
def rh.write(C:rh P w H h)(n:YY (H x))(E:e=x\/H e=some (.own x))(k:∀b u,b≠e->h.get? b=some u->h'.get? b=some u)(p:∃u,h'.get? e=some u) (t:gB P w (IZ H x o') h' x o'):rh P w (IZ H x o') h':=λb u q=>by have l:∀c y,H c=some (.own y)->c≠x:=λc y r z=>by{subst z;rw[r] at n;exact n};have i:∀c xs,H c=some (.tup xs)->c≠x:=λc xs r z=>by{subst z;rw[r] at n;exact n};by_cases A:b=x;{grind [bh]};.rw[aS A] at q;by_cases B:b=e;{have s:H b=some (.own x):=by{grind};rw[q] at s;obtain rfl:=bA s;have⟨v,D⟩:=p;exact⟨v,by grind⟩};.refine(C b u q).wR (λc v F r=>k c v ?_ r) (λc r=>by rw[aS (l c b r)];exact r) λc xs r=>by{rw[aS (i c xs r)];exact r};grind
end
structure Un(fs ex:List aE)(H H':Hp)(h h':Heap):Prop where
 keep:∀b o,h.get? b=some o->H b=none->b∉fs->b∉ex->h'.get? b=some o
 slot:∀b o,h.get? b=some o->H b=none->b∈fs->b∉ex->∃sl,h'.get? b=some {o with slots:=sl}
 free:∀b o,h.get? b=some o->H b=none->b∉ex->H' b=none
 there:∀b o,h.get? b=some o->b∉ex->∃o',h'.get? b=some o'
 Hq:∀b xs,H b=some (.tup xs)->H' b=some (.tup xs)
 EY:∀b o u,H b=some (.yH o u)->H' b=some (.yH o u)
 DA:∀b ps,H b=some (.rf ps)->∃more,H' b=some (.rf (ps++more))
section
variable {fs fs' ex ex':List aE}{H H1 H2:Hp}{h h1 h2 h':Heap}{a x e:aE}{o:HO}
def Un.any(u:Un fs ex H H1 h h1){b}{d}(q:h.get? b=some d)(n:H b=none)(f:b∉ex):∃i,h1.get? b=some {d with slots:=i}:=by by_cases g:b∈fs;{exact u.slot b d q n g f};.exact⟨d.slots,u.keep b d q n g f⟩
def Un.kept(k:∀b u,h.get? b=some u->h'.get? b=some u):Un fs ex H H h h':=⟨λb a q _ _ _=>k b a q,λb a q _ _ _=>⟨a.slots,k b a q⟩,λ_ _ _ n _=>n,λb a q _=>⟨a,k b a q⟩,λ_ _ q=>q,λ_ _ _ q=>q,λ_ ps q=>⟨#[],by rw[q];rfl⟩⟩
def Un.refl:Un fs ex H H h h:=Un.kept λ_ _ q=>q
def Un.laid(k:∀b u,h.get? b=some u->h'.get? b=some u)(s:h.objs.size<=a)(e:H a=none):Un fs ex H (IZ H a o) h h' where
 keep:=λb u q _ _ _=>k b u q
 slot:=λb u q _ _ _=>⟨u.slots,k b u q⟩
 free:=λb u q n _=>by rw[aS (a7 (aJ (aF q) s))];exact n
 there:=λb u q _=>⟨u,k b u q⟩
 Hq:=λb xs q=>by rw[aS (aY q e)];exact q
 EY:=λb u xs q=>by rw[aS (aY q e)];exact q
 DA:=λb ps q=>⟨#[],by rw[aS (aY q e),q];rfl⟩
def Un.write(m:YY (H x))(t:e=x\/H e=some (.own x))(k:∀b u,b≠e->h.get? b=some u->h'.get? b=some u)(p:∃u,h'.get? e=some u):Un fs ex H (IZ H x o) h h':=by have r:∀b,H b=none->b≠x:=λb n z=>by{subst z;rw[n] at m;exact m};have l:∀b,H b=none->b≠e:=λb n z=>by{grind};have g:∀b u,H b=some u->¬YY (some u)->b≠x:=λb u q s z=>by{grind};refine⟨λb u q n _ _=>k b u (l b n) q,λb u q n _ _=>⟨u.slots,k b u (l b n) q⟩,λb u q n _=>by rw[aS (r b n)];exact n,λb u q _=>?_,λb xs q=>by rw[aS (g b _ q λz=>z)];exact q,λb u xs q=>by rw[aS (g b _ q λz=>z)];exact q,λb ps q=>⟨#[],by rw[aS (g b _ q λz=>z),q];rfl⟩⟩;grind
end
def YU(h:Heap)(H:Hp):List aE:=(aj h.objs.size).filter λa=>(H a).isSome
def xD(h:Heap)(H:Hp):Heap:=PySem.W.hideAll h (YU h H)
def Ik(h)(H):(xD h H).objs.size=h.objs.size:=PySem.W.hideAll_size _ _
def J3{H}{b}{o}(e:h.get? b=some o)(n:H b=none):(xD h H).get? b=some o:=PySem.W.hideAll_get _ e λd=>by have q:=(bV.mp d).2;grind
def Pt(e:(xD h H).get? b=some o):h.get? b=some o/\H b=none:=by have e':=PySem.W.of_hideAll (YU h H) e;refine⟨e',?_⟩;cases q:H b with|none=>rfl|some x=>have i:b∈YU h H:=bV.mpr ⟨gA.mpr (aF e'),by simp[q]⟩;have z:(xD h H).get? b=none:=PySem.W.hideAll_none (YU h H) i;grind
def nO(g h:Heap)(L:aE):List (aE×Obj):=(aj h.objs.size).filterMap λa=>if a=L\/(g.get? a).isSome=true then none else(h.get? a).map λo=>(a,o)
def uo{L a}{o}(e:a≠L)(d:g.get? a=none)(c:h.get? a=some o):(a,o)∈nO g h L:=lS.mpr ⟨a,gA.mpr (aF c),by grind⟩
def v5(j:p∈nO g h L):p.1≠L/\g.get? p.1=none/\h.get? p.1=some p.2:=by obtain ⟨b,_,e⟩:=lS.mp j;split at e;{cases e};.cases q:h.get? b with|none=>rw[q] at e;simp at e|some u=>rw[q] at e;simp only[oe,Zm] at e;subst e;simp_all
def BH{L}:Zn g L h (nO g h L):=λp d=>let⟨a,b,c⟩:=v5 d;⟨c,a,b⟩
structure Mod(K:ah)(mg:Str->Option Value)(base:Heap):Prop where
 XR:K.In base
 glob:base.Ns cD mg
 blt:∃mb,base.Ns vj mb/\∀x:Str,x≠"__name__" ->mb x=iq x
 nolimit:base.NoLimit
structure Cx where
 prog:Program
 w:World
 K:ah
 mg:Str->Option Value
 base:Heap
 A:Around
 N:List Str
 yR:Shared
 X8:Hp
 env:Env
 outer:List Env
 stack:List Env
 ex:List aE
 fn:Str->Bool
 calm:Bool
 pn:List (aE×Obj)
 xe:Value->Shared->Prop
def ML(l:List Env):List aE:=l.filterMap (·.frame)
abbrev Cx.fs(X:Cx):List aE:=ML X.outer
def vb(a:Scope)(x:Str):Prop:=a.names.lookup x=some .local\/a.names.lookup x=some .cell\/a.names.lookup x=some .free
def Loc(a:Scope)(x:Str):Prop:=a.names.lookup x=some .local\/a.names.lookup x=some .cell
def Look(env:Env)(h:Heap)(m:Str->Option Value)(x:Str)(u:Value):Prop:=(env.kindOf x=some .local/\m x=some u)\/((env.kindOf x=some .cell\/env.kindOf x=some .free)/\∃c,env.cells.lookup x=some c/\h.IsCell c (some u))
structure Cx.Ok(X:Cx):Prop where
 mod:Mod X.K X.mg X.base
 kind:X.env.scope.kind=.function
 glob:X.env.globals=cD
 blt:X.env.builtins=vj
 above:X.yR.heap.objs.size<=X.env.locals
 inj:∀x y c,X.env.cells.lookup x=some c->X.env.cells.lookup y=some c->x=y
 has:∀x,(X.env.kindOf x=some .cell\/X.env.kindOf x=some .free)->∃c,X.env.cells.lookup x=some c
 XU:∀x c,X.fn x=true->X.env.cells.lookup x=some c->X.yR.heap.objs.size<=c
 hd:X.calm=true->X.A.handled=none
 frames:X.A.frames=some X.stack
 YR:X.stack=X.outer\/(X.stack=X.env::X.outer/\X.env.frame=some X.env.locals)
 YV:∀b∈X.ex,b≠X.env.locals/\∀x c,X.env.cells.lookup x=some c->c≠b
 bs:∀b o,X.base.get? b=some o->X.yR.heap.get? b=some o/\X.X8 b=none
 Mq:X.base.objs.size<=X.yR.heap.objs.size
 Mm:∀b o,X.base.get? b=some o->b∉X.ex
 K6:∀b∈X.ex,b∉X.fs
 uK:X.yR.heap.FunFrames X.base X.outer
 S9:∀b∈X.fs,X.X8 b=none
structure IM(X:Cx)(π:List (aE×Obj))(σ:List (Option V))(H:Hp)(s:Shared):Prop where
 ok:X.Ok
 os:s.os=X.yR.os
 bare:xo s.gens
 base:Un X.fs X.ex X.X8 H X.yR.heap s.heap
 loc:∃m,s.heap.Ns X.env.locals m/\∀(i:Nat) (x:Str) (v:V),X.N[i]?=some x->σ[i]?=some (some v)->vb X.env.scope x->∃u,Sk v u/\Look X.env s.heap m x u
 cell:∀x c,X.env.cells.lookup x=some c->∃v,s.heap.IsCell c v
 free:H X.env.locals=none
 oV:∀x c,X.env.cells.lookup x=some c->H c=none
 pin:∀p∈X.pn++π,s.heap.get? p.1=some p.2/\H p.1=none/\p.1≠X.env.locals/\p.1∉X.fs/\∀v,p.2.data≠.cell v
 fR:rh X.prog X.w H s.heap
 len:σ.length=X.N.length
section
variable {X:Cx}{π:List (aE×Obj)}{σ:List (Option V)}{H H':Hp}{s:Shared}{h':Heap}
def Cx.Ok.abh(c:X.Ok){b}{o}(e:X.base.get? b=some o):b∉X.fs:=λd=>by have:=(c.uK.mem d).1;simp_all
theorem IM.bs(I:IM X π σ H s):∀b o,X.base.get? b=some o->s.heap.get? b=some o/\H b=none:=λb o e=>⟨I.base.keep b o (I.ok.bs b o e).1 (I.ok.bs b o e).2 (I.ok.abh e) (I.ok.Mm b o e),I.base.free b o (I.ok.bs b o e).1 (I.ok.bs b o e).2 (I.ok.Mm b o e)⟩
def IM.bk(I:IM X π σ H s):∀b o,X.base.get? b=some o->s.heap.get? b=some o:=λb o e=>(I.bs b o e).1
theorem IM.mod(I:IM X π σ H s):Mod X.K X.mg X.base:=I.ok.mod
def IM.Ae(I:IM X π σ H s):X.K.In s.heap:=I.ok.mod.XR.keeps I.bk
theorem IM.lt(I:IM X π σ H s):X.env.locals<s.heap.objs.size:=let⟨_,a,_⟩:=I.loc;a.lt
def IM.sz(I:IM X π σ H s):X.yR.heap.objs.size<=s.heap.objs.size:=aM I.ok.above (eU I.lt)
def IM.aaf(I:IM X π σ H s){a:aE}(h:s.heap.objs.size<=a):a∉X.fs:=λc=>by obtain ⟨_,o,d,_⟩:=I.ok.uK.mem c;exact absurd (aJ (aF d) (aM I.sz h)) (fI _)
def IM.QT(I:IM X π σ H s):∀x c,X.env.cells.lookup x=some c->c≠X.env.locals:=λx c e z=>by obtain ⟨v,o,g,h⟩:=I.cell x c e;obtain ⟨m,⟨i,es,f,b,d,_⟩,_⟩:=I.loc;simp_all
theorem IM.uK(I:IM X π σ H s):s.heap.FunFrames X.base X.outer:=by have g:∀(l:List Env),(∀b∈ML l,b∈X.fs)->X.yR.heap.FunFrames X.base l->s.heap.FunFrames X.base l:=by{intro l;induction l with|nil=>intro _ _;trivial|cons env r x=>intro k n;obtain ⟨u,⟨L,o,p,v,w,t⟩,m⟩:=n;have h:=k L (by grind [ML]);obtain ⟨y,e⟩:=I.base.slot L o w (I.ok.S9 L h) h λz=>I.ok.K6 L z h;exact⟨u,⟨L,_,p,v,e,t⟩,x (λb i=>k b (by grind [ML])) m⟩};exact g X.outer (λ_ i=>i) I.ok.uK
theorem IM.stack(I:IM X π σ H s):s.heap.FunFrames X.base X.stack:=by rcases I.ok.YR with e|⟨e,f⟩;{rw[e];exact I.uK};.rw[e];obtain ⟨m,g,_⟩:=I.loc;refine .cons (by rw[I.ok.kind];decide) f g ?_ I.uK;exact E5 (aM I.ok.Mq I.ok.above)
def IM.EE(I:IM X π σ H s):∀b∈ML X.stack,b∈X.env.locals::X.fs:=λb f=>by rcases I.ok.YR with e|⟨e,d⟩;{simp_all};.simp_all [ML]
def IM.Gs(I:IM X π σ H s):∀b∈ML X.stack,H b=none:=λb c=>by rcases aD.mp (I.EE b c) with e|c;{rw[e];exact I.free};.obtain ⟨_,o,f,_⟩:=I.ok.uK.mem c;exact I.base.free b o f (I.ok.S9 b c) λz=>I.ok.K6 b z c
def IM.step{d'}{ch:List aE}(I:IM X π σ H s) (t:∀b∈ch,(b∈X.ex\/X.yR.heap.objs.size<=b)/\b≠X.env.locals/\(∀x c,X.env.cells.lookup x=some c->c≠b)/\∀p∈X.pn++π,p.1≠b) (A:∀b o,b≠X.env.locals->b∉X.fs->b∉ch->s.heap.get? b=some o->H b=none->h'.get? b=some o) (E:∀b o,b≠X.env.locals->b∈X.fs->b∉ch->s.heap.get? b=some o->H b=none->∃U,h'.get? b=some {o with slots:=U}) (g:∀b o,b∉ch->s.heap.get? b=some o->H b=none->H' b=none) (F:∀b o,b∉ch->s.heap.get? b=some o->∃P,h'.get? b=some P) (M:∀b xs,H b=some (.tup xs)->H' b=some (.tup xs)) (N:∀b o u,H b=some (.yH o u)->H' b=some (.yH o u)) (Q:∀b ps,H b=some (.rf ps)->∃S,H' b=some (.rf (ps++S))) (ns:∀m,s.heap.Ns X.env.locals m->h'.Ns X.env.locals m) (Y:rh X.prog X.w H' h') (hg:xo g'):IM X π σ H' {s with heap:=h',gens:=g',drawn:=d',toks:=t'}:=by have O:∀b o,X.yR.heap.get? b=some o->b≠X.env.locals:=λb o e=>a7 (aJ (aF e) I.ok.above);have C:∀b o,X.yR.heap.get? b=some o->b∉X.ex->b∉ch:=λb o e f G=>by{rcases(t b G).1 with z|z;{exact f z};.exact absurd (aJ (aF e) z) (fI _)};have y:∀x c,X.env.cells.lookup x=some c->∀v,s.heap.IsCell c v->h'.IsCell c v:=λx c e v ⟨o,J,W⟩=>by{have j:=λz=>(t c z).2.2.1 x c e rfl;by_cases hc:c∈X.fs;{obtain ⟨U,q⟩:=E c o (I.QT x c e) hc j J (I.oV x c e);exact⟨_,q,W⟩};.exact⟨o,A c o (I.QT x c e) hc j J (I.oV x c e),W⟩};refine⟨I.ok,I.os,hg,⟨λb o e n G f=>?_,λb o e n G f=>?_,λb o e n f=>?_,λb o e f=>?_,λb xs e=>M b xs (I.base.Hq b xs e),λb o xs e=>N b o xs (I.base.EY b o xs e),λb ps e=>?_⟩,?_,λx c e=>?_,?_,λx c e=>?_,λp hp=>?_,Y,I.len⟩;{exact A b o (O b o e) G (C b o e f) (I.base.keep b o e n G f) (I.base.free b o e n f)};{obtain ⟨U,D⟩:=I.base.slot b o e n G f;obtain ⟨Z,R⟩:=E b _ (O b o e) G (C b o e f) D (I.base.free b o e n f);exact⟨Z,R⟩};{have⟨P,D⟩:=I.base.there b o e f;exact g b P (C b o e f) D (I.base.free b o e n f)};{have⟨P,D⟩:=I.base.there b o e f;exact F b P (C b o e f) D};{obtain ⟨m1,D⟩:=I.base.DA b ps e;obtain ⟨m2,R⟩:=Q b _ D;exact⟨m1++m2,by rw[R,Array.append_assoc]⟩};{have⟨m,hn,hl⟩:=I.loc;refine⟨m,ns m hn,λi x v D R e3=>?_⟩;obtain ⟨u,r,l⟩:=hl i x v D R e3;refine⟨u,r,?_⟩;rcases l with l|⟨k,c,e,z⟩;{exact .inl l};.exact .inr ⟨k,c,e,y x c e _ z⟩};{obtain ⟨v,z⟩:=I.cell x c e;exact⟨v,y x c e v z⟩};{obtain ⟨m,⟨o,_,_,J,_⟩,_⟩:=I.loc;exact g _ o (λz=>(t _ z).2.1 rfl) J I.free};{have⟨v,o,J,W⟩:=I.cell x c e;exact g c o (λz=>(t c z).2.2.1 x c e rfl) J (I.oV x c e)};.obtain ⟨e,n,ne,nf,d⟩:=I.pin p hp;have j:=λz=>(t p.1 z).2.2.2 p hp rfl;exact⟨A p.1 p.2 ne nf j e n,g p.1 p.2 j e n,ne,nf,d⟩
def IM.un(I:IM X π σ H s)(u:Un X.fs [] H H' s.heap h')(f:rh X.prog X.w H' h'):IM X π σ H' {s with heap:=h',toks:=t'}:=by obtain ⟨m,⟨o,es,C,k,r⟩,_⟩:=id I.loc;obtain ⟨A,q⟩:=u.any k I.free (by simp);exact I.step (ch:=[]) (λ_ z=>nomatch z) (λb o _ i _ e n=>u.keep b o e n i (by simp)) (λb o _ i _ e n=>u.slot b o e n i (by simp)) (λb o _ e n=>u.free b o e n (by simp)) (λb o _ e=>u.there b o e (by simp)) u.Hq u.EY u.DA (λx v=>by obtain ⟨B,j,h,d,t⟩:=v;rw[k] at d;obtain rfl:=bA d;exact⟨_,j,h,q,t⟩) f I.bare
def IM.call{d'}{ch}(I:IM X π σ H s)(u:Un (ML X.stack) ch H H' s.heap h')(h:rh X.prog X.w H' h')(C:xo g') (g:∀b∈ch,(b∈X.ex\/X.yR.heap.objs.size<=b)/\b≠X.env.locals/\(∀x c,X.env.cells.lookup x=some c->c≠b)/\∀p∈X.pn++π,p.1≠b):IM X π σ H' {s with heap:=h',gens:=g',drawn:=d',toks:=t'}:=by obtain ⟨m,⟨o,es,G,A,r⟩,_⟩:=id I.loc;obtain ⟨M,k⟩:=u.any A I.free λz=>(g _ z).2.1 rfl;exact I.step g (λb o k E a e n=>u.keep b o e n (λz=>(aD.mp (I.EE b z)).elim k E) a) (λb o _ _ a e n=>u.any e n a) (λb o a e n=>u.free b o e n a) (λb o a e=>u.there b o e a) u.Hq u.EY u.DA (λF B=>by obtain ⟨J,q,j,f,D⟩:=B;rw[A] at f;obtain rfl:=bA f;exact⟨_,q,j,k,D⟩) h C
def IM.turned{f}(I:IM X π σ H s)(k:∀b o,b≠f->s.heap.get? b=some o->h'.get? b=some o)(D:H f=none)(A:f≠X.env.locals) (C:f∈X.ex\/X.yR.heap.objs.size<=f) (F:∀x c,X.env.cells.lookup x=some c->c≠f) (E:∀p∈X.pn++π,p.1≠f):IM X π σ H {s with heap:=h',toks:=t'}:=by refine I.step (ch:=[f]) (λb G=>?_) (λb o _ _ h e _=>k b o (λz=>h (by simp[z])) e) (λb o _ _ h e _=>⟨o.slots,k b o (λz=>h (by simp[z])) e⟩) (λ_ _ _ _ n=>n) (λb o h e=>⟨o,k b o (λz=>h (by simp[z])) e⟩) (λ_ _ e=>e) (λ_ _ _ e=>e) (λb ps e=>⟨#[],by rw[e];rfl⟩) (λm w=>?_) (λb u e=>?_) I.bare;{grind};{obtain ⟨o,es,y,t,r⟩:=w;exact⟨o,es,y,k _ o (dQ A) t,r⟩};.refine(I.fR b u e).wR (λc v h q=>k c v ?_ q) (λ_ q=>q) λ_ _ q=>q;grind
def IM.tok(I:IM X π σ H s)(t):IM X π σ H {s with toks:=t}:=I.un Un.refl I.fR
theorem IM.kept(I:IM X π σ H s)(k:∀b u,s.heap.get? b=some u->h'.get? b=some u):IM X π σ H {s with heap:=h',toks:=t'}:=I.un (Un.kept k) (I.fR.kept k)
theorem IM.laid{a:aE}{o}{t'}(I:IM X π σ H s)(k:∀b u,s.heap.get? b=some u->h'.get? b=some u)(c:s.heap.objs.size<=a)(d:gB X.prog X.w (IZ H a o) h' a o):IM X π σ (IZ H a o) {s with heap:=h',toks:=t'}:=I.un (Un.laid k c (I.fR.fresh c)) (I.fR.laid k c d)
theorem IM.write(I:IM X π σ H s)(g:YY (H x))(d:e=x\/H e=some (.own x))(k:∀b u,b≠e->s.heap.get? b=some u->h'.get? b=some u)(a:∃u,h'.get? e=some u) (c:gB X.prog X.w (IZ H x o) h' x o):IM X π σ (IZ H x o) {s with heap:=h',toks:=t'}:=I.un (Un.write g d k a) (I.fR.write g d k a c)
def IM.weak(I:IM X π σ H s)(c:a.length=σ.length)(w:∀(i:Nat) v,a[i]?=some (some v)->σ[i]?=some (some v)):IM X π a H s:=⟨I.ok,I.os,I.bare,I.base,let⟨m,e,b⟩:=I.loc;⟨m,e,λi x v d f g=>b i x v d (w i v f) g⟩,I.cell,I.free,I.oV,I.pin,I.fR,c.trans I.len⟩
def IM.FL(I:IM X π σ H s)(h:∀p∈a,s.heap.get? p.1=some p.2/\H p.1=none/\p.1≠X.env.locals/\p.1∉X.fs/\∀v,p.2.data≠.cell v):IM X a σ H s:=⟨I.ok,I.os,I.bare,I.base,I.loc,I.cell,I.free,I.oV,λp b=>(cz.mp b).elim (λz=>I.pin p (gg _ z)) (h p),I.fR,I.len⟩
def w6{N:List Str}(d:N.Nodup){i j:Nat}{x}(a:N[i]?=some x)(b:N[j]?=some x):i=j:=by grind only [aQ,List.getElem_inj]
def yf{i}{x}{v}{u}{Q}(I:IM X π σ H s)(hN:X.N.Nodup)(hi:X.N[i]?=some x)(hx:Loc X.env.scope x)(r:Sk v u) (h:∀s',IM X π (σ.set i (some v)) H s'->(∃a,iH a s.heap s'.heap/\(a=X.env.locals\/X.env.cells.lookup x=some a))->Q () s') (hf:X.fn x=true\/X.env.scope.names.lookup x=some .local:=by first|exact .inl rfl|exact .inr rfl|assumption):aK M A (storeName X.env x u) Q E s:=by obtain⟨m,hn,hl⟩:=id I.loc;have hcls:(X.env.scope.kind==.class||(X.env.scope.kind==.module&&X.env.locals !=X.env.globals))=false:=by{rw[I.ok.kind];rfl};have hiσ:i<σ.length:=by{rw[I.len];exact(aQ.mp hi).1};have QT:=I.QT;have tracked:∀{a:aE} {h':Heap},(∃o,s.heap.get? a=some o/\H a=none)->iH a s.heap h'->rh X.prog X.w H h':=λ{a h'} ha hs b ob e=>by{obtain⟨_,_,hfree⟩:=ha;refine(I.fR b ob e).wR (λc w' hc q=>(hs.2 c ?_).trans q) (λ_ q=>q) λ_ _ q=>q;rintro rfl;rcases hc with rfl|hc;{rw[hfree] at e;cases e};.rw[hfree] at hc;cases hc};rcases hx with hk|hk;{refine wpAny_storeName_local hk hn (λh' hn' hs=>?_) hcls;obtain⟨oL,_,_,hoL,_⟩:=id hn;refine h _ ⟨I.ok,I.os,I.bare,⟨λb o e n hb hx=>?_,λb o e n hb hx=>?_,I.base.free,λb o e hx=>?_,I.base.Hq,I.base.EY,I.base.DA⟩,⟨_,hn',λj y v' e1 e2 e3=>?_⟩,λy c e=>?_,I.free,I.oV,λp hp=>?_,tracked ⟨oL,hoL,I.free⟩ hs,by simpa using I.len⟩ ⟨_,hs,.inl rfl⟩;{exact(hs.2 b (a7 (aJ (aF e) I.ok.above))).trans (I.base.keep b o e n hb hx)};{obtain⟨sl,e1⟩:=I.base.slot b o e n hb hx;exact⟨sl,(hs.2 b (a7 (aJ (aF e) I.ok.above))).trans e1⟩};{obtain⟨o',e1⟩:=I.base.there b o e hx;exact⟨o',(hs.2 b (a7 (aJ (aF e) I.ok.above))).trans e1⟩};{by_cases hj:j=i;{subst hj;rw[hi] at e1;obtain rfl:=bA e1;rw[gQ hiσ] at e2;cases e2;exact⟨u,r,.inl ⟨hk,by simp⟩⟩};.rw[aU (dQ hj)] at e2;obtain⟨u',r',q⟩:=hl j y v' e1 e2 e3;refine⟨u',r',?_⟩;rcases q with⟨k,e⟩|⟨k,c,e,z⟩;{refine .inl ⟨k,?_⟩;have:y≠x:=λe=>hj (w6 hN e1 (e▸hi));simp[this,e]};.exact .inr ⟨k,c,e,z.sameBut hs (QT y c e)⟩};{obtain⟨w',z⟩:=I.cell y c e;exact⟨w',z.sameBut hs (QT y c e)⟩};.obtain⟨e,n,ne,nf,d⟩:=I.pin p hp;exact⟨(hs.2 p.1 ne).trans e,n,ne,nf,d⟩};.have hfn:X.fn x=true:=by{rcases hf with z|z;{exact z};.rw[z] at hk;cases hk};obtain⟨c,hc⟩:=I.ok.has x (.inl hk);obtain⟨w',z⟩:=I.cell x c hc;refine wpAny_storeName_cell I.ok.kind hk hc z (λh' hc' hs=>?_);obtain⟨oc,hoc,hocd⟩:=id z;refine h {s with heap:=h'} ⟨I.ok,I.os,I.bare,⟨λb o e n hb hx=>?_,λb o e n hb hx=>?_,I.base.free,λb o e hx=>?_,I.base.Hq,I.base.EY,I.base.DA⟩,⟨m,hn.sameBut hs (dQ (QT x c hc)),λj y v' e1 e2 e3=>?_⟩,λy c' e=>?_,I.free,I.oV,λp hp=>?_,tracked ⟨oc,hoc,I.oV x c hc⟩ hs,by simpa using I.len⟩ ⟨c,hs,.inr hc⟩;{exact(hs.2 b (a7 (aJ (aF e) (I.ok.XU x c hfn hc)))).trans (I.base.keep b o e n hb hx)};{obtain⟨sl,e1⟩:=I.base.slot b o e n hb hx;exact⟨sl,(hs.2 b (a7 (aJ (aF e) (I.ok.XU x c hfn hc)))).trans e1⟩};{obtain⟨o',e1⟩:=I.base.there b o e hx;exact⟨o',(hs.2 b (a7 (aJ (aF e) (I.ok.XU x c hfn hc)))).trans e1⟩};{by_cases hj:j=i;{subst hj;rw[hi] at e1;obtain rfl:=bA e1;rw[gQ hiσ] at e2;cases e2;exact⟨u,r,.inr ⟨.inl hk,c,hc,hc'⟩⟩};.rw[aU (dQ hj)] at e2;obtain⟨u',r',q⟩:=hl j y v' e1 e2 e3;refine⟨u',r',?_⟩;rcases q with q|⟨k,c',e,z'⟩;{exact .inl q};.refine .inr ⟨k,c',e,z'.sameBut hs ?_⟩;rintro rfl;exact hj (w6 hN e1 (I.ok.inj _ _ _ e hc▸hi))};{by_cases hcc:c'=c;{subst hcc;exact⟨_,hc'⟩};.obtain⟨w2,z2⟩:=I.cell y c' e;exact⟨w2,z2.sameBut hs hcc⟩};.obtain⟨e,n,ne,nf,d⟩:=I.pin p hp;refine⟨(hs.2 p.1 ?_).trans e,n,ne,nf,d⟩;intro q;rw[q,hoc] at e;have q':oc=p.2:=bA e;exact d w' (by rw[<-q'];exact hocd)
def BY{M:Model}{A:Around}{E:Value->Shared->Prop}{i:Nat}{x:Str}{v:V}{u:Value}{Q:Unit->Shared->Prop}(I:IM X π σ H s)(hN:X.N.Nodup)(hi:X.N[i]?=some x)(hx:Loc X.env.scope x)(r:Sk v u) (h:∀s',IM X π (σ.set i (some v)) H s'->Q () s') (hf:X.fn x=true\/X.env.scope.names.lookup x=some .local:=by first|exact .inl rfl|exact .inr rfl|assumption):aK M A (storeName X.env x u) Q E s:=yf I hN hi hx r (λs' I' _=>h s' I') hf
def IM.XF{s':Shared}{ch:List aE}(I:IM X π σ H s)(ho:s'.os=s.os)(u:Un (ML X.stack) ch H H' s.heap s'.heap)(fR:rh X.prog X.w H' s'.heap)(hg:xo s'.gens) (hch:∀b∈ch,(b∈X.ex\/X.yR.heap.objs.size<=b)/\b≠X.env.locals/\(∀x c,X.env.cells.lookup x=some c->c≠b)/\∀p∈X.pn++π,p.1≠b):IM X π σ H' s':=by obtain⟨h',g',d',t',o'⟩:=s';have e:o'=s.os:=ho;subst e;exact I.call (g':=g') (t':=t') (d':=d') u fR hg hch
end
abbrev XK:=Value->Option aE->Hp->Prop
abbrev St:=List (Option V)
abbrev VK:=V->Hp->Prop
abbrev TE:=St->Hp->VK->Prop
abbrev TT:=St->Hp->(Bool->Hp->Prop)->Prop
abbrev TA:=St->Hp->(List V->Hp->Prop)->Prop
structure Ends where
 nx:St->Hp->Prop
 rt:VK
 bk:St->Hp->Prop:=λ_ _=>False
 ct:St->Hp->Prop:=λ_ _=>False
abbrev TS:=Ends->St->Hp->Prop
inductive EP(X:Cx)(π:List (aE×Obj))(σ:St)(Q:VK)(u:Value)(a:Shared):Prop
 |mk(v H')(_:IM X π σ H' a)(_:Sk v u)(_:Q v H')
def TP(X:Cx)(π:List (aE×Obj))(σ:St)(Q:Bool->Hp->Prop)(b:Bool)(a:Shared):Prop:=∃H',IM X π σ H' a/\Q b H'
inductive AP(X:Cx)(π:List (aE×Obj))(σ:St)(Q:List V->Hp->Prop)(us:List Value)(a:Shared):Prop
 |mk(vs H')(_:IM X π σ H' a)(_:cu vs us)(_:Q vs H')
def SP(X:Cx)(π:List (aE×Obj))(D:Ends)(f:Flow)(b:Shared):Prop:=match f with|.next=>∃a H',IM X π a H' b/\D.nx a H'|.brk=>∃a H',IM X π a H' b/\D.bk a H'|.cont=>∃a H',IM X π a H' b/\D.ct a H'|.ret u=>∃v a H',IM X π a H' b/\Sk v u/\D.rt v H'
def PE(X:Cx)(e:Expr)(t:TE):Prop:=∀(π:List (aE×Obj)) (s:Shared) (σ:St) (H:Hp) (Q:VK),IM X π σ H s->t σ H Q->aK (aT X.prog X.w) X.A (cq e X.env) (EP X π σ Q) X.xe s
def PT(X:Cx)(e:Expr)(t:TT):Prop:=∀(π:List (aE×Obj)) (s:Shared) (σ:St) (H:Hp) (Q:Bool->Hp->Prop),IM X π σ H s->t σ H Q->aK (aT X.prog X.w) X.A (qB e X.env (cq e X.env)) (TP X π σ Q) X.xe s
def PW(X:Cx)(e:Expr)(t:TT):Prop:=∀(a:Sem Value) (π:List (aE×Obj)) (s:Shared) (σ:St) (H:Hp) (Q:Bool->Hp->Prop),IM X π σ H s->t σ H Q->aK (aT X.prog X.w) X.A (qB e X.env a) (TP X π σ Q) X.xe s
def PA(X:Cx)(es:List Expr)(t:TA):Prop:=∀(pos:Pos) (π:List (aE×Obj)) (s:Shared) (σ:St) (H:Hp) (Q:List V->Hp->Prop),IM X π σ H s->t σ H Q->aK (aT X.prog X.w) X.A (spliced (dU pos (aH es X.env))) (AP X π σ Q) X.xe s
def PS(X:Cx)(st:Stmt)(t:TS):Prop:=∀(π:List (aE×Obj)) (s:Shared) (σ:St) (H:Hp) (D:Ends),IM X π σ H s->t D σ H->aK (aT X.prog X.w) X.A (exec st X.env) (SP X π D) X.xe s
def CQ(X:Cx)(st:List Stmt)(t:TS):Prop:=∀(π:List (aE×Obj)) (s:Shared) (σ:St) (H:Hp) (D:Ends),IM X π σ H s->t D σ H->aK (aT X.prog X.w) X.A (execs st X.env) (SP X π D) X.xe s
def fS{M}{A}{E}{s}(h:aK M A t Q E s)(c:∀a s,Q a s->b a s):aK M A t b E s:=fB h c λ_ _ x=>x
section
variable {X:Cx}
def X0(i:Nat):TE:=λσ H Q=>∃v,σ[i]?=some (some v)/\Q v H
def tC(v:V):TE:=λ_ H Q=>Q v H
def wM{pos}(q:X.N[i]?=some x)(w:vb X.env.scope x)(hd:qq9 x:=by decide)(hcd:xj8 x:=by decide):PE X (.Name x pos) (X0 i):=by intro π s σ H Q I h;obtain⟨v,e,h⟩:=h;obtain⟨m,z,t⟩:=I.loc;obtain⟨u,r,l⟩:=t i x v q e w;have fin:EP X π σ Q u s:=⟨v,H,I,r,h⟩;rcases l with⟨hk,y⟩|⟨hk,c,p,hcell⟩;{exact qC (sO I.ok.kind hk z y fin) hd};.rcases hk with hk|hk;{exact qC (wpAny_loadName_cell I.ok.kind hk p hcell fin) hd};.exact qC (Qw I.ok.kind hk p hcell fin hcd) hd
def Ms:PE X (.Constant (.int i) j pos) (tC (.int i)):=λ_ _ _ H _ I h=>Rv ⟨.int i,H,I.tok _,⟨_,rfl⟩,h⟩
def X2:PE X (.Constant (.bool b) j pos) (tC (.bl b)):=λ_ _ _ H _ I h=>Constant_bool ⟨.bl b,H,I,rfl,h⟩
def Uy:PE X (.Constant .none j pos) (tC .ie):=λ_ _ _ H _ I h=>Constant_none ⟨.ie,H,I,rfl,h⟩
def D0:PE X (.Constant (.str x) j pos) (tC (.str x)):=λ_ _ _ H _ I h=>Calls.Constant_str ⟨.str x,H,I.tok _,⟨_,rfl⟩,h⟩
def Gl(X:Cx)(x:Str):Prop:=X.env.kindOf x=some .globalImplicit
def pO{π}{s}{σ:St}{H}{x}{u}{pos}{Q}(I:IM X π σ H s)(hg:Gl X x)(c:X.mg x=some u)(h:Q u s) (hd:qq9 x:=by decide):aK (aT X.prog X.w) X.A (cq (.Name x pos) X.env) Q E s:=xq I.ok.kind hg (Calls.loadGlobal_global (by rw[I.ok.glob];exact I.mod.glob.keeps I.bk) c h) hd
def oQ{E}{π}{s}{σ:St}{H}{x}{u}{pos}{Q}(I:IM X π σ H s)(j:Gl X x)(c:X.mg x=none)(d:iq x=some u)(h:Q u s) (i:x≠"__name__" :=by decide) (g:qq9 x:=by decide):aK (aT X.prog X.w) X.A (cq (.Name x pos) X.env) Q E s:=by obtain ⟨l,f,k⟩:=I.mod.blt;exact xq I.ok.kind j (Calls.loadGlobal_builtin (by rw[I.ok.glob];exact I.mod.glob.keeps I.bk) c (by rw[I.ok.blt];exact f.keeps I.bk) ((k x i).trans d) h) g
def Po{u}{pos}(b:Gl X x)(a:X.mg x=some u)(r:Sk v u)(c:qq9 x:=by decide):PE X (.Name x pos) (tC v):=λ_ _ _ H _ I h=>pO I b a ⟨v,H,I,r,h⟩ c
variable {a b:Expr}{ta tb:TE}{pos:Pos}
def PC(X:Cx)(op:CmpOp)(a b:Expr)(t:TE):Prop:=∀(π:List (aE×Obj)) (s:Shared) (σ:St) (H:Hp) (Q:VK),IM X π σ H s->t σ H Q->aK (aT X.prog X.w) X.A (cq a X.env) (λv d=>aK (aT X.prog X.w) X.A (cq b X.env) (λu c=>aK (aT X.prog X.w) X.A (cQ op v u) (EP X π σ Q) X.xe c) X.xe d) X.xe s
def tB(t:TE):TT:=λσ H Q=>t σ H λx a=>∃c,x=.bl c/\Q c a
def S7(h:PC X op a b t)(f:behindInMarks op b=false:=by first|exact c _ JN JN|rfl):PE X (.Compare a [op] [b] pos) t:=λπ s σ H Q I e=>Zo (h π s σ H Q I e) f
def Uh(h:PC X op a b t)(l:behindInMarks op b=false:=by first|exact f _ JN JN|rfl):PT X (.Compare a [op] [b] pos) (tB t):=by intro π s σ H Q I n;refine MS (fS (h π s σ H _ I n) λv A l=>fS l λu y w=>fS w λc z zz=>?_) l;obtain⟨x,m,p,o,r⟩:=zz;obtain⟨d,rfl,q⟩:=r;subst o;exact ef ⟨m,p,q⟩
def Sx(h:PE X e t)(n:∀a,qB e X.env a=(do let v<-a;lJ e.pos;fw [v] (truthy v)):=by intro _;rfl):PT X e (tB t):=by intro π s σ H Q I m;refine isTrue_plain (fS (h π s σ H _ I m) λv p zz=>?_) (n _);obtain⟨x,j,l,o,k⟩:=zz;obtain⟨d,rfl,q⟩:=k;subst o;exact ef ⟨j,l,q⟩
variable {tA tB':TT}{rest:List Expr}
def abp(t u:TT):TT:=λσ H Q=>t σ H λc a=>if c=true then u σ a Q else Q false a
def tOr(t u:TT):TT:=λσ H Q=>t σ H λc a=>if c=true then Q true a else u σ a Q
def Z3(t:TT):TT:=λσ H Q=>t σ H λc a=>Q (!c) a
def Qk(i:PT X a tA):PW X (.BoolOp .And [a] pos) tA:=by intro j π s σ H Q I h;refine isTrue_and (fS (i π s σ H Q I h) λc k e=>?_);cases c with|true=>exact isTrue_and_nil e|false=>exact e
def R6(i:PT X a tA):PW X (.BoolOp .Or [a] pos) tA:=by intro j π s σ H Q I h;refine isTrue_or (fS (i π s σ H Q I h) λc k e=>?_);cases c with|false=>exact isTrue_or_nil e|true=>exact e
def TQ(m:PT X a tA)(n:PW X (.BoolOp .And (b::rest) pos) tB'):PW X (.BoolOp .And (a::b::rest) pos) (abp tA tB'):=by intro l π s σ H Q I h;refine isTrue_and (fS (m π s σ H _ I h) λc o zz=>?_);obtain⟨j,I1,k⟩:=zz;cases c with|true=>exact n l π o σ j Q I1 k|false=>exact⟨j,I1,k⟩
def Xs(m:PT X a tA)(n:PW X (.BoolOp .Or (b::rest) pos) tB'):PW X (.BoolOp .Or (a::b::rest) pos) (tOr tA tB'):=by intro l π s σ H Q I h;refine isTrue_or (fS (m π s σ H _ I h) λc o zz=>?_);obtain⟨j,i,k⟩:=zz;cases c with|true=>exact⟨j,i,k⟩|false=>exact n l π o σ j Q i k
def RT(f:PT X a tA):PT X (.UnaryOp .Not a pos) (Z3 tA):=by intro π s σ H Q I h;exact isTrue_not (f π s σ H (λc e=>Q (!c) e) I h)
def Yf(ta tb:TE):TE:=λσ H Q=>ta σ H λx a=>∃c,x=.bl c/\if c=true then tb σ a Q else Q (.bl false) a
def Z9(ta tb:TE):TE:=λσ H Q=>ta σ H λx a=>∃c,x=.bl c/\if c=true then Q (.bl true) a else tb σ a Q
def SS{t}(h:PE X a t):PE X (.BoolOp op [a] pos) t:=λπ s σ H Q I b=>BoolOp_one (h π s σ H Q I b)
def UB(n:PE X a ta)(p:PE X (.BoolOp .And (b::rest) pos) tb):PE X (.BoolOp .And (a::b::rest) pos) (Yf ta tb):=by intro π s σ H Q I h;refine BoolOp_and (fS (n π s σ H _ I h) λv o zz=>?_);obtain⟨x,k,l,m,g⟩:=zz;obtain⟨c,rfl,g⟩:=g;subst m;refine ef ?_;cases c with|true=>exact p π o σ k Q l g|false=>exact⟨.bl false,k,l,rfl,g⟩
def V4(n:PE X a ta)(p:PE X (.BoolOp .Or (b::rest) pos) tb):PE X (.BoolOp .Or (a::b::rest) pos) (Z9 ta tb):=by intro π s σ H Q I h;refine BoolOp_or (fS (n π s σ H _ I h) λv o zz=>?_);obtain⟨x,k,l,m,g⟩:=zz;obtain⟨c,rfl,g⟩:=g;subst m;refine ef ?_;cases c with|false=>exact p π o σ k Q l g|true=>exact⟨.bl true,k,l,rfl,g⟩
def tIf(t:TT)(ta tb:TE):TE:=λσ H Q=>t σ H λc a=>if c=true then ta σ a Q else tb σ a Q
def Lc(n:PT X c tA)(o:PE X a ta)(p:PE X b tb):PE X (.IfExp c a b pos) (tIf tA ta tb):=by intro π s σ H Q I h;refine wpAny_IfExp (fS (n π s σ H _ I h) λd l zz=>?_);obtain⟨k,j,m⟩:=zz;cases d with|true=>exact o π l σ k Q j m|false=>exact p π l σ k Q j m
end
def nj(K:ah)(H:Hp)(a:aE)(xs:List V):Prop:=Rd H a (.lst xs)\/∃(o:Obj) (its:Array Value) (n:Nat),K.lookup a=some o/\o.cls=.type "list" /\o.dict=none/\o.data=.seq its n/\its.size<=aG/\cu xs its.toList
def qR(K:ah)(H:Hp)(a:aE)(xs:List V):Prop:=Rd H a (.tup xs)\/∃(o:Obj) (its:Array Value) (n:Nat),K.lookup a=some o/\o.cls=.type "tuple" /\o.data=.seq its n/\its.size<=aG/\cu xs its.toList
def aat:Value->Option V|.none=>some .ie|.bool b=>some (.bl b)|.int i _=>some (.int i)|.str x _=>some (.str x)|.bytes b _=>some (.Rg b)|.float b _=>some (.Zd b)|.ref a=>some (.ref a)|.type n=>some (.ty n)|_=>none
def Sk.abs(r:Sk x u):aat u=some x:=by cases x with|ie=>subst r;rfl|bl _=>subst r;rfl|int _=>obtain⟨t,rfl⟩:=r;rfl|str _=>obtain⟨t,rfl⟩:=r;rfl|Rg _=>obtain⟨t,rfl⟩:=r;rfl|Zd _=>obtain⟨t,rfl⟩:=r;rfl|ref _=>subst r;rfl|ty _=>cases r;rfl
def Sk.inj{u}(r:Sk x u)(q:Sk y u):x=y:=bA (r.abs.symm.trans q.abs)
theorem cu.inj{xs}{us}(h:cu xs us):∀{ys},cu ys us->xs=ys:=by induction h with|nil=>intro _ h;cases h;rfl|cons r t i=>intro _ h;cases h with|cons a b=>rw[r.inj a,i b]
section
variable {X:Cx}{π:List (aE×Obj)}{σ:St}{H:Hp}{s:Shared}{a:aE}{xs ys:List V}
def nj.of{K}(h:H a=some (.lst xs)):nj K H a xs:=.inl (.inl h)
inductive jx3(s:Shared)(a:aE)(xs:List V):Prop
 |mk(its:List Value)(_:cu xs its)(_:PlainL s.heap a its.toArray)(_:xs.length<=aG)
def IM.list(I:IM X π σ H s)(h:nj X.K H a xs):jx3 s a xs:=by rcases h with h|⟨o,its,n,i,k,j,l,hz,r⟩;{obtain ⟨z,its,n,r,e⟩:=h.ok I.fR;exact⟨its,r,⟨_,n,e,rfl,rfl,rfl⟩,z⟩};.refine⟨its.toList,r,⟨o,n,I.Ae a o i,k,j,by omega⟩,?_⟩;have e:=r.length;simp_all
inductive jx4(s:Shared)(a:aE)(xs:List V):Prop
 |mk(its:List Value)(_:cu xs its)(_:IsTup s.heap a its.toArray)(_:xs.length<=aG)
def IM.tuple(I:IM X π σ H s)(h:qR X.K H a xs):jx4 s a xs:=by rcases h with h|⟨o,its,n,g,i,j,hz,r⟩;{obtain ⟨z,its,r,p⟩:=h.ok I.fR;exact⟨its,r,p,z⟩};.refine⟨its.toList,r,⟨o,I.Ae a o g,i,n,by omega⟩,?_⟩;have e:=r.length;simp_all
def IM.B6(I:IM X π σ H s)(h:nj X.K H a xs)(h':nj X.K H a ys):xs=ys:=by have⟨its,r,⟨o,n,e,_,_,d⟩,_⟩:=I.list h;have⟨its',g,⟨k,j,e',_,_,d'⟩,_⟩:=I.list h';rw[e] at e';have:its=its':=Eg;subst this;exact r.inj g
def IM.yF(I:IM X π σ H s)(h:qR X.K H a xs)(h':qR X.K H a ys):xs=ys:=by have⟨its,r,⟨o,e,_,n,d⟩,_⟩:=I.tuple h;have⟨its',g,⟨k,e',_,j,d'⟩,_⟩:=I.tuple h';rw[e] at e';have:its=its':=Eg;subst this;exact r.inj g
end
abbrev Cx.xE(X:Cx)(E:Value->Shared->Prop):Cx:={X with xe:=E}
abbrev Cx.QW(X:Cx):Cx:=X.xE λ_ _=>False
theorem Cx.Ok.xE{X:Cx}(a:X.Ok)(E):(X.xE E).Ok:=⟨a.mod,a.kind,a.glob,a.blt,a.above,a.inj,a.has,a.XU,a.hd,a.frames,a.YR,a.YV,a.bs,a.Mq,a.Mm,a.K6,a.uK,a.S9⟩
def Cx.Ok.oW{X:Cx}{E}(a:(X.xE E).Ok):X.Ok:=⟨a.mod,a.kind,a.glob,a.blt,a.above,a.inj,a.has,a.XU,a.hd,a.frames,a.YR,a.YV,a.bs,a.Mq,a.Mm,a.K6,a.uK,a.S9⟩
section
variable {X:Cx}{π:List (aE×Obj)}{σ:St}{H:Hp}{s:Shared}{E:Value->Shared->Prop}
theorem IM.xE(I:IM X π σ H s)(E):IM (X.xE E) π σ H s:=⟨I.ok.xE E,I.os,I.bare,I.base,I.loc,I.cell,I.free,I.oV,I.pin,I.fR,I.len⟩
theorem IM.oW(I:IM (X.xE E) π σ H s):IM X π σ H s:=⟨I.ok.oW,I.os,I.bare,I.base,I.loc,I.cell,I.free,I.oV,I.pin,I.fR,I.len⟩
theorem SP.oW(h:SP (X.xE E) π D f i):SP X π D f i:=by cases f with|next=>obtain ⟨a,H',I,q⟩:=h;exact⟨a,H',I.oW,q⟩|brk=>obtain ⟨a,H',I,q⟩:=h;exact⟨a,H',I.oW,q⟩|cont=>obtain ⟨a,H',I,q⟩:=h;exact⟨a,H',I.oW,q⟩|ret u=>have⟨v,a,H',I,r,q⟩:=h;exact⟨v,a,H',I.oW,r,q⟩
theorem CQ.QW{st}{t}(h:CQ X.QW st t):CQ X st t:=λπ s σ H D I a=>fB (h π s σ H D (I.xE _) a) (λ_ _ q=>q.oW) λ_ _ z=>eK z
end
section
variable {X:Cx}{st:Stmt}{rest:List Stmt}{t u:TS}{e:Expr}{te:TE}{pos:Pos}
def W4:TS:=λD σ H=>D.nx σ H
def aaz(t u:TS):TS:=λD σ H=>t {D with nx:=u D} σ H
def Qu:CQ X [] W4:=λ_ _ σ H _ I h=>qX ⟨σ,H,I,h⟩
def wA(j:PS X st t)(m:CQ X rest u):CQ X (st::rest) (aaz t u):=by intro π s σ H D I h;refine VD (fS (j π s σ H {D with nx:=u D} I h) λf n q=>?_);cases f with|next=>obtain ⟨e,H',k,q⟩:=q;exact m π n e H' D k q|ret v=>exact q|brk=>exact q|cont=>exact q
def Fy(d:PS X st t):CQ X [st] t:=by intro π s σ H D I h;refine VD (fS (d π s σ H D I h) λf e q=>?_);grind [qX,ret]
def Sl:TS:=λD σ H=>D.bk σ H
def Yk:TS:=λD σ H=>D.ct σ H
def Mc:PS X (.Break pos) Sl:=λ_ _ σ H _ I h=>wpAny_Break ⟨σ,H,I,h⟩
def AQ:PS X (.Continue pos) Yk:=λ_ _ σ H _ I h=>wpAny_Continue ⟨σ,H,I,h⟩
def IM.quiet{σ:St}{H}{s}(I:IM X π σ H s):interactive X.env=false:=by simp[interactive,I.ok.kind]
def Xu(te:TE):TS:=λD σ H=>te σ H λ_ a=>D.nx σ a
def zq(i:PE X e te)(g:fz e none pos.line X.env=pure false:=by rfl):PS X (.Expr e pos) (Xu te):=by intro π s σ H D I h;exact wpAny_Expr_any (fS (i π s σ H _ I h) λv k ⟨x,c,d,j,f⟩=>⟨σ,c,d,f⟩) I.quiet g
def aax(te:TE):TS:=λD σ H=>te σ H D.rt
def DC(i:PE X e te):PS X (.Return (some e) pos) (aax te):=by intro π s σ H D I h;exact wpAny_Return_some (fS (i π s σ H _ I h) λv j ⟨x,g,d,c,f⟩=>⟨x,σ,g,d,c,f⟩)
def abo(c:TT)(t u:TS):TS:=λD σ H=>c σ H λb a=>if b=true then t D σ a else u D σ a
def WV{n}(p:PT X c n)(o:CQ X a t)(q:CQ X b u):PS X (.If c a b pos) (abo n t u):=by intro π s σ H D I h;refine wpAny_If (fS (p π s σ H _ I h) λd l zz=>?_);obtain⟨k,j,m⟩:=zz;cases d with|true=>exact o π l σ k D j m|false=>exact q π l σ k D j m
end
abbrev TG:=V->St->Hp->(St->Hp->Prop)->Prop
abbrev Vw:=List V->St->Hp->(St->Hp->Prop)->Prop
def PG(X:Cx)(a:Expr)(t:TG):Prop:=∀(π:List (aE×Obj)) (s:Shared) (σ:St) (H:Hp) (v:V) (u:Value) (Q:St->Hp->Prop),IM X π σ H s->Sk v u->t v σ H Q->aK (aT X.prog X.w) X.A (qD a X.env u) (λ_ c=>∃b H',IM X π b H' c/\Q b H') X.xe s
def Yu(X:Cx)(c:List Expr)(t:Vw):Prop:=∀(π:List (aE×Obj)) (s:Shared) (σ:St) (H:Hp) (vs:List V) (us:List Value) (Q:St->Hp->Prop),IM X π σ H s->cu vs us->t vs σ H Q->aK (aT X.prog X.w) X.A (assignInOrder ((iX c X.env).map (·.2)) us) (λ_ b=>∃a H',IM X π a H' b/\Q a H') X.xe s
abbrev Wf:=V->V->V->Hp->(Hp->Prop)->Prop
def Wk(X:Cx)(t:Wf):Prop:=∀(π:List (aE×Obj)) (s:Shared) (σ:St) (H:Hp) (o i v:V) (a b u:Value) (Q:Hp->Prop),IM X π σ H s->Sk o a->Sk i b->Sk v u->t o i v H Q->aK (aT X.prog X.w) X.A (UG a b u) (λ_ c=>∃H',IM X π σ H' c/\Q H') X.xe s
section
variable {X:Cx}{pos:Pos}
def vE(i:Nat):TG:=λv σ H Q=>Q (σ.set i (some v)) H
def Oc(g:X.N.Nodup)(hi:X.N[i]?=some x)(e:Loc X.env.scope x)(f:X.fn x=true\/X.env.scope.names.lookup x=some .local:=by first|exact .inl rfl|exact .inr rfl|assumption):PG X (.Name x pos) (vE i):=by intro π s σ H v u Q I r h;exact UH (BY I g hi e r (λj d=>⟨_,H,d,h⟩) f)
def Yl:Vw:=λvs σ H Q=>vs=[]/\Q σ H
def QX(t:TG)(u:Vw):Vw:=λvs σ H Q=>∃v r,vs=v::r/\t v σ H λa H'=>u r a H' Q
def Qd:Yu X [] Yl:=by intro π s σ H vs us Q I r h;obtain⟨e,h⟩:=h;subst e;exact assignInOrder_nil ⟨σ,H,I,h⟩
def Lo{t}{u}(w:PG X e t)(x:Yu X es u) (l:(iX (e::es) X.env).map (·.2)=qD e X.env::(iX es X.env).map (·.2):=by rfl):Yu X (e::es) (QX t u):=by intro π s σ H vs us Q I r h;obtain⟨v,z,n,h⟩:=h;subst n;cases r with|cons r o=>rw[l];refine assignInOrder_cons (fS (w π s σ H _ _ _ I r h) λ_ m zz=>?_);obtain⟨g,p,q,k⟩:=zz;exact x π m g p _ _ Q q o k
def abq(K:ah)(n:Nat)(t:Vw):TG:=λv σ H Q=>∃a xs,v=.ref a/\qR K H a xs/\xs.length=n/\t xs σ H Q
def Tw{k}{t}{n}(w:X.calm=true)(h:Yu X es t) (z:(iX es X.env).length=n:=by rfl) (f:(iX es X.env).findIdx? (·.1)=none:=by rfl):PG X (.Tuple es k pos) (abq X.K n t):=by intro π s σ H v u Q I r m;obtain⟨a,xs,x,E,D,m⟩:=m;subst x;subst r;have⟨its,y,A,hz⟩:=I.tuple E;refine assign_Tuple_tuple (I.ok.hd w) A (by simp[z,<-D,y.length]) f λh' C=>?_;have B:=I.kept (t':=s.toks) λb o e=>C b o (a7 (aF e)) e;exact h π _ σ H xs _ Q B (by omega) m
def aap(d a:TE)(t:Wf):TG:=λv σ H Q=>d σ H λo b=>a σ b λi e=>t o i v e λc=>Q σ c
def Tb{g f}{t}(A:PE X o g)(hi:PE X i f)(n:Wk X t)
  (J:∀v,qD (.Subscript o i pos) X.env v=(do
   let c<-fw [v] (cq o X.env)
   let d<-fw [v,c] (cq i X.env)
   lJ pos
   fw [v,c,d] (UG c d v)
   release [v,c,d] []):=by intro _;rfl):PG X (.Subscript o i pos) (aap g f t):=by
 intro π s σ H v u Q I r h
 refine ab (eX (fS (A π s σ H _ I h) λc B ⟨x,k,E,p,l⟩=>?_))
 refine ab (eX (fS (hi π B σ k _ E l) λd D ⟨y,j,z,F,q⟩=>?_))
 refine ab (uX (ab (eX (fS (n π D σ j x y v c d u _ z p F r q) λ_ G ⟨m,w,C⟩=>?_))))
 exact wpAny_release ⟨σ,m,w,C⟩
def Qr(a:TE)(g:TG):TS:=λD σ H=>a σ H λx b=>g x σ b D.nx
def TY{a e}{f}{g}(r:PE X e f)(i:PG X a g)(k:GY [a] e pos.line X.env=pure false:=by rfl)(m:swappedStores [a] e X.env=pure none:=by rfl) (t:(iX [a] X.env).map (·.2)=[qD a X.env]:=by rfl):PS X (.Assign [a] e pos) (Qr f g):=by intro π s σ H D I h;refine wpAny_Assign_stores (fS (r π s σ H _ I h) λv l zz=>?_) k m;obtain⟨x,p,o,n,j⟩:=zz;rw[t];exact fS (i π l σ p x v _ o n j) λ_ w q=>q
def zA(g:X.N.Nodup)(hi:X.N[i]?=some x)(j:Loc X.env.scope x)(t:PE X e o)(n:fz e (some (.Name x c)) pos.line X.env=pure false:=by rfl)(p:X.fn x=true\/X.env.scope.names.lookup x=some .local:=by first|exact .inl rfl|exact .inr rfl|assumption):PS X (.Assign [.Name x c] e pos) (Qr o (vE i)):=by intro π s σ H D I h;refine wpAny_Assign_Name (fS (t π s σ H _ I h) λv u zz=>?_) n;obtain⟨y,l,r,m,q⟩:=zz;exact BY r g hi j m (λw k=>⟨_,l,k,q⟩) p
end
section
variable {X:Cx}{pos:Pos}
def Sw(c:TT)(f:TS):TS:=λD σ H=>∃W:Nat->St->Hp->Prop,(∃m,W m σ H)/\∀m σ H,W m σ H->c σ H λb d=>if b=true then ∃N:St->Hp->Prop,(∀a H',N a H'->∃e,e<m/\W e a H')/\f {D with nx:=N,ct:=N,bk:=D.nx} σ d else D.nx σ d
def K1{tc}{tb}(u:yS (aT X.prog X.w) X.A X.env X.xe)(O:PT X c tc)(P:CQ X m tb):PS X (.While c m [] pos) (Sw tc tb):=by
 intro π s σ H D I h;obtain⟨W,⟨M,G⟩,l⟩:=h;refine wpAny_While (codeAny_whileLoop (λn U=>∃k H',IM X π k H' U/\W n k H') ?_ M ⟨σ,H,I,G⟩);rintro n J ⟨g,H1,Z,Q⟩;refine iB u (fS (O π J g H1 _ Z (l n g H1 Q)) λb L zz=>?_);obtain⟨H2,I2,q⟩:=zz;cases b with
  |true=>obtain⟨N,hN,q⟩:=q;refine iB u (fS (P π L g H2 _ I2 q) λf s3 o=>?_);cases f with|next=>obtain ⟨t,S,T,Y⟩:=o;grind|cont=>obtain⟨t,S,T,Y⟩:=o;grind|brk=>exact o|ret v=>exact o
  |false=>exact qX ⟨g,H2,I2,q⟩
end
structure It where
 go:Nat->Hp->Prop
 YT:Nat->Hp->V->Hp->Prop
 stop:Nat->Hp->Prop
def uV(X:Cx)(π:List (aE×Obj))(H:Hp)(b:aE):Prop:=H b=none/\b≠X.env.locals/\b∉X.fs/\(b∈X.ex\/X.yR.heap.objs.size<=b)/\(∀x c,X.env.cells.lookup x=some c->c≠b)/\∀p∈X.pn++π,p.1≠b
def IM.E1{σ:St}{H H'}{s}{b:aE}(I:IM X π σ H s)(g:s.heap.objs.size<=b)(i:H' b=none):uV X π H' b:=by refine⟨i,gS (aJ I.lt g),I.aaf g,.inr (aM I.sz g),λx c e z=>?_,λp h z=>?_⟩;{obtain ⟨v,q⟩:=I.cell x c e;exact absurd (aJ q.lt Eg) (fI _)};.exact absurd (aJ (aF (I.pin p h).1) Eg) (fI _)
structure Turn(P:Program)(w:World)(K:ah)(tg:Expr)(J:It)(fp:List aE)(it:aE)(tn:Nat->Heap->Prop):Prop where
 mem:it∈fp
 obj:∀i h,tn i h->∀b∈fp,∃o,h.get? b=some o/\∀v,o.data≠.cell v
 keep:∀i h h',tn i h->(∀b∈fp,∀o,h.get? b=some o->h'.get? b=some o)->tn i h'
 item:∀(X:Cx),X.prog=P->X.w=w->X.K=K->X.calm=true->∀(i:Nat) (π:List (aE×Obj)) (s:Shared) (σ:St) (H:Hp) (E:Value->Shared->Prop),IM X π σ H s->(∀b∈fp,uV X π H b)->tn i s.heap->J.go i H->
  aK (aT P w) X.A (jk (.ref it)) (λr s1=>∃u,r=some u/\
   aK (aT P w) X.A (qY tg (.ref it) u) (λ_ s2=>∃x H',IM X π σ H' s2/\Sk x u/\J.YT i H x H'/\tn (i+1) s2.heap/\∀b∈fp,H' b=none) E s1) E s
 done:∀(X:Cx),X.prog=P->X.w=w->X.K=K->X.calm=true->∀(i:Nat) (π:List (aE×Obj)) (s:Shared) (σ:St) (H:Hp) (E:Value->Shared->Prop),IM X π σ H s->(∀b∈fp,uV X π H b)->tn i s.heap->J.stop i H->
  aK (aT P w) X.A (jk (.ref it)) (λr s1=>r=none/\IM X π σ H s1) E s
 self:∀(A:Around) (i:Nat) (s:Shared) (Q:Value->Shared->Prop) (E:Value->Shared->Prop),tn i s.heap->Q (.ref it) s->aK (aT P w) A (yT (.ref it)) Q E s
abbrev TI:=St->Hp->(It->Hp->Prop)->Prop
inductive Y3(X:Cx)(π:List (aE×Obj))(σ:St)(g:Expr)(R:It->Hp->Prop)(a:Value)(e:Shared):Prop
 |mk(d:aE)(f:List aE)(c:Nat->Heap->Prop)(J:It)(H':Hp)(_:a=.ref d)(_:IM X π σ H' e)(_:Turn X.prog X.w X.K g J f d c)(_:c 0 e.heap)(_:∀b∈f,uV X π H' b)(_:R J H')
def PI(X:Cx)(d a:Expr)(b:TI):Prop:=∀(π:List (aE×Obj)) (s:Shared) (σ:St) (H:Hp) (R:It->Hp->Prop),IM X π σ H s->b σ H R->aK (aT X.prog X.w) X.A (cq a X.env) (λv c=>aK (aT X.prog X.w) X.A (yT v) (Y3 X π σ d R) X.xe c) X.xe s
def Cs {M : Model} {A : Around} {E : Value -> Shared -> Prop} {s : Shared} {tg : Expr} {g} {u : Value} {o : Obj} {n : String} {vs : Array Value} {Q} (ho : s.heap.get? g = some o) (hc : o.cls = .type n) (hd : o.data = .fields vs)
    (m : ["enumerate", "zip", "dict_itemiterator", "dict_reverseitemiterator", "odict_iterator", "itertools.zip_longest", "itertools.pairwise"].contains n = false) (hQ : Q () s) : aK M A (qY tg (.ref g) u) Q E s := by
  unfold qY
  cases tg <;> first
    | exact aq hQ
    | (cases u <;> first
        | exact aq hQ
        | (refine ab (Rx ho ?_)
           rw [hc, hd]
           show aK M A (if (["enumerate", "zip", "dict_itemiterator", "dict_reverseitemiterator", "odict_iterator", "itertools.zip_longest", "itertools.pairwise"].contains n && vs[0]? == some (cg _)) = true then _ else _) Q E s
           rw [ax (by grind)]
           exact aq hQ))
def Itl(K:ah)(a:aE):It:=⟨λi H=>∃xs x,nj K H a xs/\xs[i]?=some x,λi H x H'=>H'=H/\∀xs,nj K H a xs->xs[i]?=some x,λi H=>∃xs,nj K H a xs/\xs.length<=i⟩
def Itt(K:ah)(a:aE):It:=⟨λi H=>∃xs x,qR K H a xs/\xs[i]?=some x,λi H x H'=>H'=H/\∀xs,qR K H a xs->xs[i]?=some x,λi H=>∃xs,qR K H a xs/\xs.length<=i⟩
def Xk(lo:Int)(n:Nat):It:=⟨λi _=>i<n,λi H x H'=>H'=H/\x=.int (lo+i),λi _=>n<=i⟩
def Iq{K}{tg}(a n:aE):Turn P w K tg (Itl K a) [n] n (λi h=>h.IsListIter n a i) where
 mem:=by simp
 obj:=λi h st b q=>by
  have e:b=n:=by simp_all
  obtain ⟨o,e,c,d⟩:=st
  grind
 keep:=λi h h' st k=>st.at λo e=>k n (by simp) o e
 item:=by
  intro X C M F U i π s σ H E I v st L
  subst C M F
  obtain ⟨xs,x,t,A⟩:=L
  have⟨its,J,p,hz⟩:=I.list t
  obtain ⟨u,hu,W⟩:=J.get A
  have⟨B,O,Z,D,N,G⟩:=v n (by simp)
  refine wpAny_pyNext_list_item st p.isList (x:=u) Eg λh' r Y=>?_
  have I1:=I.turned (t':=s.toks) (λb o q e=>(Y.2 b q).trans e) B O D N G
  obtain ⟨o,e,c,d⟩:=id r
  exact⟨u,rfl,Cs e c d JN ⟨x,H,I1,W,⟨rfl,λys hy=>by rw[I.B6 hy t];exact A⟩,r,λb q=>(v b q).1⟩⟩
 done:=by
  intro X C M F U i π s σ H E I v st L
  subst C M F
  obtain ⟨xs,t,A⟩:=L
  have⟨its,J,p,hz⟩:=I.list t
  have⟨B,O,Z,D,N,G⟩:=v n (by simp)
  have hl:=J.length
  exact wpAny_pyNext_list_end (I.ok.hd U) st p.isList (by simp;simp_all) λh' eb=>⟨rfl,I.turned (λb o q e=>eb b o q e) B O D N G⟩
 self:=λ_ _ _ _ _ st h=>wpAny_pyIter_listiter st h
def D3{K}{tg}(a it):Turn P w K tg (Itt K a) [it] it (λi h=>h.IsTupleIter it a i) where
 mem:=by simp
 obj:=λi h st b hb=>by
  have e:b=it:=by simpa using hb
  subst e
  obtain ⟨o,e,c,d⟩:=st
  grind
 keep:=λi h h' st k=>st.at λo e=>k it (by simp) o e
 item:=by
  intro X J D C hc i π s σ H E I y st O
  subst J D C
  obtain⟨xs,x,v,hx⟩:=O
  have⟨its,F,p,hz⟩:=I.tuple v
  obtain ⟨u,hu,ru⟩:=F.get hx
  have⟨G,M,f2,B,Q,N⟩:=y it (by simp)
  refine wpAny_pyNext_tuple_item st (show s.heap.IsTuple a its.toArray from p) (x:=u) Eg λh' st' sb=>?_
  have I1:IM X π σ H {s with heap:=h'}:=I.turned (t':=s.toks) (λb o hb e=>(sb.2 b hb).trans e) G M B Q N
  obtain ⟨o,e,c,d⟩:=id st'
  exact⟨u,rfl,Cs (s:={s with heap:=h'}) e c d JN ⟨x,H,I1,ru,⟨rfl,λys hy=>by rw[I.yF hy v];exact hx⟩,st',λb hb=>(y b hb).1⟩⟩
 done:=by
  intro X J D C hc i π s σ H E I y st O
  subst J D C
  obtain ⟨xs,v,hx⟩:=O
  have⟨its,F,p,hz⟩:=I.tuple v
  have⟨G,M,f2,B,Q,N⟩:=y it (by simp)
  have hl:=F.length
  exact wpAny_pyNext_tuple_end (I.ok.hd hc) st (show s.heap.IsTuple a its.toArray from p) (by simp;simp_all) λh' eb=>⟨rfl,I.turned (t':=s.toks) (λb o hb e=>eb b o hb e) G M B Q N⟩
 self:=λ_ _ _ _ _ st h=>wpAny_pyIter_tupleiter st h
def En{K}{Z}(it)(lo)(n):Turn P w K Z (Xk lo n) [it] it (λi h=>IsRangeIter h it (lo+(i:Nat)*1) ((n:Int) -(i:Nat)) 1) where
 mem:=by simp
 obj:=λi h st b m=>by simp_all
 keep:=λi h h' st k=>k it (by simp) _ st
 item:=by
  intro X hP y u hc i π s σ H E I p st hg
  subst hP y u
  have⟨A,z,f2,G,f4,r⟩:=p it (by simp)
  have W:=UI (prog:=X.prog) (w:=X.w) (I.ok.hd hc) it lo 1 n
  refine W.item i s _ _ hg st λv h' tk Y l kk=>?_
  obtain⟨t,rfl⟩:=Y
  have I1:IM X π σ H {s with heap:=h',toks:=tk}:=I.turned (λb o m e=>kk b o Eg e) A z G f4 r
  refine⟨_,rfl,Cs l rfl rfl JN ⟨.int (lo+i),H,I1,⟨t,?_⟩,⟨rfl,rfl⟩,l,λb m=>(p b m).1⟩⟩
  rw[Yz]
 done:=by
  intro X hP y u hc i π s σ H E I p st hg
  subst hP y u
  have⟨A,z,f2,G,f4,r⟩:=p it (by simp)
  exact Js (I.ok.hd hc) st (by have:n<=i:=hg;lia) λh' U=>⟨rfl,I.turned (t':=s.toks) (λb o m e=>U b o m e) A z G f4 r⟩
 self:=λ_ _ _ _ _ st h=>Jt st h
section
variable {X:Cx}{tg:Expr}
def A8{σ:St}{H}{s}{R}{E}{lo hi}{t u v}{tk}(I:IM X π σ H s)(y: -(2^62)<=lo)(B:lo<2^62)(z: -(2^62)<=hi)(p:hi<2^62) (q:R (Xk lo (hi -lo).toNat) H):aK (aT X.prog X.w) X.A (yT (.ref s.heap.objs.size)) (Y3 X π σ tg R) E {s with heap:=s.heap.push {cls:=.type "range",data:=.fields #[.int lo t,.int hi u,.int 1 v]},toks:=tk}:=by refine Ry (Qx ..) (small_one y B z p) ?_;have l:IM X π σ H {s with heap:=s.heap.push {cls:=.type "range",data:=.fields #[.int lo t,.int hi u,.int 1 v]},toks:=tk}:=I.kept λb o e=>ae _ e;refine⟨(s.heap.push {cls:=.type "range",data:=.fields #[.int lo t,.int hi u,.int 1 v]}).objs.size,[(s.heap.push {cls:=.type "range",data:=.fields #[.int lo t,.int hi u,.int 1 v]}).objs.size],_,_,H,rfl,l.kept λb o e=>ae _ e,En _ lo (hi -lo).toNat,?_,λb C=>?_,q⟩;{have n:lo+((0:Nat):Int)*1=lo:=by{simp};have r:(((hi -lo).toNat:Nat):Int) -((0:Nat):Int)=dW lo hi 1:=by{rw[rangeSize_one];grind};rw[n,r];exact ay _ rfl};.have e:b=(s.heap.push {cls:=.type "range",data:=.fields #[.int lo t,.int hi u,.int 1 v]}).objs.size:=Eg;subst e;exact l.E1 (aB _) (l.fR.fresh (aB _))
def XQ(a:TA):TI:=λσ H R=>a σ H λvs b=>∃j:Int,vs=[.int j]/\ -(2^62)<=j/\j<2^62/\R (Xk 0 j.toNat) b
def Wc(a:TA):TI:=λσ H R=>a σ H λvs b=>∃i j:Int,vs=[.int i,.int j]/\(-(2^62)<=i/\i<2^62/\ -(2^62)<=j/\j<2^62)/\R (Xk i (j -i).toNat) b
def Ip(A:Gl X "range")(x:X.mg "range" =none)(C:PA X [a] z)(B:aH [a] X.env=[(false,cq a X.env)]:=by rfl):PI X tg (.Call (.Name "range" p) [a] [] pos) (XQ z):=by intro π s σ H R I h;refine Zp (oQ I A x Rz (d4 (fS (C pos π s σ H _ I h) λus E zz=>?_) B rfl));obtain⟨vs,D,v,u,i⟩:=zz;obtain⟨j,e,i,w,q⟩:=i;subst e;cases u with|cons r y=>cases y;obtain⟨t,rfl⟩:=r;exact call_range_1 (A8 v JN Eg i w Eg)
def HE{p pos}(E:Gl X "range")(w:X.mg "range" =none)(A:PA X [a,b] z)(x:aH [a,b] X.env=[(false,cq a X.env),(false,cq b X.env)]:=by rfl)(g:aH [b] X.env=[(false,cq b X.env)]:=by rfl):PI X tg (.Call (.Name "range" p) [a,b] [] pos) (Wc z):=by intro π s σ H R I h;refine Zp (oQ I E w Rz (d4 (fS (A pos π s σ H _ I h) λus M ⟨vs,L,D,C,u⟩=>?_) (by rw[x,g]) (by rw[g];rfl)));obtain⟨i,j,e,⟨u,J,F,B⟩,q⟩:=u;subst e;cases C with|cons r o=>cases o with|cons G o=>cases o;obtain⟨t,rfl⟩:=r;obtain⟨t',rfl⟩:=G;exact call_range_2 (A8 D u J F B q)
def ZY(d:TI)(g:TG)(e:TS):TS:=λD σ H=>d σ H λJ f=>∃W:Nat->Nat->St->Hp->Prop,(∃m,W 0 m σ f)/\∀i m σ H,W i m σ H->(J.stop i H/\D.nx σ H)\/(J.go i H/\∃N:St->Hp->Prop,(∀a H',N a H'->∃c,c<m/\W (i+1) c a H')/\∀x H',J.YT i H x H'->g x σ H' λb h=>e {D with nx:=N,ct:=N,bk:=D.nx} b h)
def vt(a:List aE)(h:Heap):List (aE×Obj):=a.filterMap λb=>(h.get? b).map λo=>(b,o)
def qS{b}{o}(a:b∈c)(e:h.get? b=some o):(b,o)∈vt c h:=lS.mpr ⟨b,a,by rw[e];rfl⟩
def IA(d:p∈vt f h):p.1∈f/\h.get? p.1=some p.2:=by obtain ⟨b,g,e⟩:=lS.mp d;cases q:h.get? b with|none=>rw[q] at e;cases e|some o=>grind
def IM.pinned{σ:St}{H}{s}{c}(I:IM X π σ H s)(d:∀b∈c,uV X π H b)(j:∀b∈c,∃o,s.heap.get? b=some o/\∀v,o.data≠.cell v):IM X (π++vt c s.heap) σ H s:=I.FL λp f=>(cz.mp f).elim (λz=>I.pin p (cS _ z)) λz=>by obtain ⟨g,e⟩:=IA z;obtain ⟨h,i,k,_⟩:=d p.1 g;grind
def IM.r0{σ:St}{H}{s}(I:IM X (π++pl) σ H s):IM X π σ H s:=I.FL λp a=>I.pin p (cS _ (gg _ a))
def Ue{wi}{g}{tb}{pos}(hp:yS (aT X.prog X.w) X.A X.env X.xe)(hc:X.calm=true)(hi:PI X tg iter wi)(hg:PG X tg g)(hb:CQ X body tb) (hs:∀x,cH iter X.env x=pure x:=by intro _;rfl):PS X (.For tg iter body [] pos) (ZY wi g tb):=by intro π s σ H D I h;refine wpAny_For (fS (hi π s σ H _ I h) λv s1 h1=>fS h1 λuf s2 h2=>?_) hs;obtain⟨it,fp,tn,J,H2,e,I2,T,st2,f2,W,⟨m0,w0⟩,turn⟩:=h2;subst e;have stat:∀{H':Hp},(∀b∈fp,H' b=none)->∀b∈fp,uV X π H' b:=λhn b hb=>⟨hn b hb,(f2 b hb).2⟩;refine codeAny_forLoop_any (λn s'=>∃i σ' H',IM X π σ' H' s'/\tn i s'.heap/\(∀b∈fp,H' b=none)/\W i n σ' H') ?_ m0 ⟨0,σ,H2,I2,st2,λb hb=>(f2 b hb).1,w0⟩;rintro n s3 ⟨i,σ3,H3,I3,st3,fr3,w3⟩;rcases turn i n σ3 H3 w3 with⟨stop,qn⟩|⟨go,N,hN,step⟩;{refine iB hp (fS (T.done X rfl rfl rfl hc i π s3 σ3 H3 X.xe I3 (stat fr3) st3 stop) λr s4 zz=>?_);obtain⟨hr,I4⟩:=zz;subst hr;exact qX ⟨σ3,H3,I4,qn⟩};.refine iB hp (fS (T.item X rfl rfl rfl hc i π s3 σ3 H3 X.xe I3 (stat fr3) st3 go) λr s4 ⟨u,hr,h4⟩=>?_);subst hr;refine iB hp (fS h4 λ_ s5 ⟨x,H5,I5,r5,y5,st5,fr5⟩=>?_);have I5':=I5.pinned (stat fr5) (T.obj _ _ st5);refine iB hp (fS (hg _ s5 σ3 H5 x u _ I5' r5 (step x H5 y5)) λ_ s6 ⟨σ6,H6,I6,q6⟩=>?_);refine iB hp (fS (hb _ s6 σ6 H6 _ I6 q6) λf s7 q7=>?_);have An:∀{σ7:St} {H7:Hp},IM X (π++vt fp s5.heap) σ7 H7 s7->N σ7 H7->∃m,m<n/\∃i σ' H',IM X π σ' H' s7/\tn i s7.heap/\(∀b∈fp,H' b=none)/\W i m σ' H':=λ{σ7 H7} I7 n7=>by{obtain⟨m',hm,w7⟩:=hN σ7 H7 n7;refine⟨m',hm,i+1,σ7,H7,I7.r0,T.keep _ _ _ st5 λb hb o e=>(I7.pin (b,o) (cS _ (cS _ (qS hb e)))).1,λb hb=>?_,w7⟩;obtain⟨o,e,d⟩:=T.obj _ _ st5 b hb;exact(I7.pin (b,o) (cS _ (cS _ (qS hb e)))).2.1};cases f with|next=>obtain⟨σ7,H7,I7,n7⟩:=q7;exact An I7 n7|cont=>obtain⟨σ7,H7,I7,n7⟩:=q7;exact An I7 n7|brk=>obtain⟨σ7,H7,I7,q7⟩:=q7;exact⟨σ7,H7,I7.r0,q7⟩|ret v=>obtain⟨x7,σ7,H7,I7,r7,q7⟩:=q7;exact⟨x7,σ7,H7,I7.r0,r7,q7⟩
end
abbrev R2:=V->V->Hp->VK->Prop
def lQ(X:Cx)(f:Value->Value->Sem Value)(r:R2):Prop:=∀(π:List (aE×Obj)) (s:Shared) (σ:St) (H:Hp) (x y:V) (v u:Value) (Q:VK),IM X π σ H s->Sk x v->Sk y u->r x y H Q->aK (aT X.prog X.w) X.A (f v u) (EP X π σ Q) X.xe s
def WU(X:Cx)(f:Value->Sem Value)(r:V->Hp->VK->Prop):Prop:=∀(π:List (aE×Obj)) (s:Shared) (σ:St) (H:Hp) (x:V) (v:Value) (Q:VK),IM X π σ H s->Sk x v->r x H Q->aK (aT X.prog X.w) X.A (f v) (EP X π σ Q) X.xe s
def jc(X:Cx)(f:Value)(r:List V->Hp->VK->Prop):Prop:=∀(π:List (aE×Obj)) (s:Shared) (σ:St) (H:Hp) (xs:List V) (us:List Value) (Q:VK),IM X π σ H s->cu xs us->r xs H Q->aK (aT X.prog X.w) X.A (call f us) (EP X π σ Q) X.xe s
def Y8(r:R2)(ta tb:TE):TE:=λσ H Q=>ta σ H λx H1=>tb σ H1 λy H2=>r x y H2 Q
def tUn(r:V->Hp->VK->Prop)(ta:TE):TE:=λσ H Q=>ta σ H λx H1=>r x H1 Q
def rI(C:Int->Int->Prop)(g:Int->Int->V):R2:=λx y H Q=>∃i j,x=.int i/\y=.int j/\C i j/\Q (g i j) H
def Nc(g:Int->Int->V):R2:=λx y H Q=>∃i j,x=.int i/\y=.int j/\Q (g i j) H
def rU(g:Int->V):V->Hp->VK->Prop:=λx H Q=>∃i,x=.int i/\Q (g i) H
section
variable {X:Cx}{a b c:Expr}{ta tb tc:TE}{pos:Pos}
def RJ(ha:PE X a ta)(hb:PE X b tb){π:List (aE×Obj)}{s:Shared}{σ:St}{H:Hp}{R:V->V->Hp->Prop}(I:IM X π σ H s) (h:ta σ H λx H1=>tb σ H1 λy H2=>R x y H2) {Q:Value->Shared->Prop} {f:Value->Value->Sem Value} (hf:∀v u s2 x y H2,IM X π σ H2 s2->Sk x v->Sk y u->R x y H2->aK (aT X.prog X.w) X.A (f v u) Q X.xe s2):aK (aT X.prog X.w) X.A (cq a X.env) (λv s₁=>aK (aT X.prog X.w) X.A (cq b X.env) (λu s₂=>aK (aT X.prog X.w) X.A (f v u) Q X.xe s₂) X.xe s₁) X.xe s:=by refine fS (ha π s σ H _ I h) λv s1 zz=>?_;obtain⟨x,H1,I1,r1,q1⟩:=zz;refine fS (hb π s1 σ H1 _ I1 q1) λu s2 ⟨y,H2,I2,r2,q2⟩=>?_;exact hf v u s2 x y H2 I2 r1 r2 q2
def Wi{op:Operator}{r:R2}(ho:lQ X (qg op) r)(ha:PE X a ta)(hb:PE X b tb):PE X (.BinOp a op b pos) (Y8 r ta tb):=by intro π s σ H Q I h;exact wpAny_BinOp (RJ ha hb I h λv u s2 x y H2 I2 rx ry q=>ho π s2 σ H2 x y v u Q I2 rx ry q)
def X6{op:UnaryOp}{r:V->Hp->VK->Prop}(ho:WU X (UJ op) r)(ha:PE X a ta):PE X (.UnaryOp op a pos) (tUn r ta):=by intro π s σ H Q I h;exact UnaryOp_ (fS (ha π s σ H _ I h) λv s1 ⟨x,H1,I1,r1,q1⟩=>ho π s1 σ H1 x v Q I1 r1 q1)
def Vq{f:Value->Value->Sem Value}{C:Int->Int->Prop}{g:Int->Int->Int} (GZ:∀(i j:Int) (t u:Tok) (s:Shared) (Q:Value->Shared->Prop) (E:Value->Shared->Prop),C i j->Q (.int (g i j) s.toks) {s with toks:=s.toks+1}->aK (aT X.prog X.w) X.A (f (.int i t) (.int j u)) Q E s):lQ X f (rI C λi j=>.int (g i j)):=by intro π s σ H x y v u Q I rx ry h;obtain⟨i,j,rfl,rfl,hc,q⟩:=h;obtain⟨t,rfl⟩:=rx;obtain⟨t',rfl⟩:=ry;exact GZ i j t t' s _ _ hc ⟨.int (g i j),H,I.tok _,⟨_,rfl⟩,q⟩
def HM{f:Value->Value->Sem Value}{g:Int->Int->Bool} (GZ:∀(i j:Int) (t u:Tok) (s:Shared) (Q:Value->Shared->Prop) (E:Value->Shared->Prop),Q (.bool (g i j)) s->aK (aT X.prog X.w) X.A (f (.int i t) (.int j u)) Q E s):lQ X f (Nc λi j=>.bl (g i j)):=by intro π s σ H x y v u Q I rx ry h;obtain⟨i,j,rfl,rfl,q⟩:=h;obtain⟨t,rfl⟩:=rx;obtain⟨t',rfl⟩:=ry;exact GZ i j t t' s _ _ ⟨.bl (g i j),H,I,rfl,q⟩
def Ee(k:Nat):(0:Int)<=2^k:=by rw[two_pow_cast];exact Int.natCast_nonneg _
def OC:lQ X (qg .Mod) (rI (λ_ j=>j≠0) λi j=>.int (i.fmod j)):=Vq λ_ _ _ _ _ _ _ hc q=>mod_int' hc q
def So:lQ X (qg .RShift) (rI (λ_ j=>0<=j) λi j=>.int (i/2^j.toNat)):=Vq λi j _ _ _ _ _ hc q=>rshift_int hc (by rw[dH i (Ee _)];exact q)
def unI{f:Value->Sem Value}{g:Int->Int} (GZ:∀(i:Int) (t:Tok) (s:Shared) (Q:Value->Shared->Prop) (E:Value->Shared->Prop),Q (.int (g i) s.toks) {s with toks:=s.toks+1}->aK (aT X.prog X.w) X.A (f (.int i t)) Q E s):WU X f (rU λi=>.int (g i)):=by intro π s σ H x v Q I rx h;obtain⟨i,rfl,q⟩:=h;obtain⟨t,rfl⟩:=rx;exact GZ i t s _ _ ⟨.int (g i),H,I.tok _,⟨_,rfl⟩,q⟩
def SA:WU X (UJ .USub) (rU λi=>.int (-i)):=unI λ_ _ _ _ _ q=>neg_int q
end
section
variable {X:Cx}{a b c:Expr}{ta tb tc:TE}{pos:Pos}
def Ko{π:List (aE×Obj)}{σ:St}{H:Hp}{s:Shared}{Q:VK}{k k':Bool}(I:IM X π σ H s)(q:Q (.bl k) H)(e:k=k'):EP X π σ Q (.bool k') s:=by subst e;exact⟨.bl k,H,I,rfl,q⟩
def Xw:lQ X (cQ .Lt) (Nc λi j=>.bl (decide (i<j))):=HM λ_ _ _ _ _ _ _ q=>lt_int q
def X9:lQ X (cQ .LtE) (Nc λi j=>.bl (decide (i<=j))):=HM λ_ _ _ _ _ _ _ q=>le_int q
def VQ:lQ X (cQ .Gt) (Nc λi j=>.bl (decide (j<i))):=HM λ_ _ _ _ _ _ _ q=>gt_int q
def Xf:lQ X (cQ .GtE) (Nc λi j=>.bl (decide (j<=i))):=HM λ_ _ _ _ _ _ _ q=>ge_int q
def Ub:lQ X (cQ .Is) (λx y H Q=>y=.ie/\Q (.bl (decide (x=.ie))) H):=by intro π s σ H x y v u Q I rx ry h;obtain⟨rfl,q⟩:=h;subst ry;refine is_none_gen (Ko I q ?_);cases x<;>first|(subst rx;rfl)|(obtain⟨t,rfl⟩:=rx;rfl)
def PH:lQ X (cQ .IsNot) (λx y H Q=>y=.ie/\Q (.bl (!decide (x=.ie))) H):=by intro π s σ H x y v u Q I rx ry h;obtain⟨rfl,q⟩:=h;subst ry;refine isnot_none_gen (Ko I q ?_);cases x<;>first|(subst rx;rfl)|(obtain⟨t,rfl⟩:=rx;rfl)
def TF(b:Expr){op:CmpOp}(h:op≠.In:=by decide)(h2:op≠.NotIn:=by decide):behindInMarks op b=false:=by have e1:(op==CmpOp.In)=false:=by{cases op<;>first|rfl|exact absurd rfl h};have e2:(op==CmpOp.NotIn)=false:=by{cases op<;>first|rfl|exact absurd rfl h2};cases b<;>simp[behindInMarks,e1,e2]
def O1{op:CmpOp}{r:R2}(ho:lQ X (cQ op) r)(ha:PE X a ta)(hb:PE X b tb)(hm:behindInMarks op b=false):PE X (.Compare a [op] [b] pos) (Y8 r ta tb):=by intro π s σ H Q I h;exact Zo (RJ ha hb I h λv u s2 x y H2 I2 rx ry q=>ho π s2 σ H2 x y v u Q I2 rx ry q) hm
def Q3(t:TE):TT:=λσ H Q=>t σ H λx H'=>∃k,x=.bl k/\Q k H'
def O0{op:CmpOp}{r:R2}(ho:lQ X (cQ op) r)(ha:PE X a ta)(hb:PE X b tb)(hm:behindInMarks op b=false):PT X (.Compare a [op] [b] pos) (Q3 (Y8 r ta tb)):=by intro π s σ H Q I h;refine MS (fS (ha π s σ H _ I h) λv s1 ⟨x,H1,I1,r1,q1⟩=>fS (hb π s1 σ H1 _ I1 q1) λu s2 ⟨y,H2,I2,r2,q2⟩=>fS (ho π s2 σ H2 x y v u _ I2 r1 r2 q2) λc s3 zz=>?_) hm;obtain⟨z,H3,I3,r3,k,e,q3⟩:=zz;subst e;subst r3;exact ef ⟨H3,I3,q3⟩
def Ke(r r':R2)(ta tb tc:TE):TE:=λσ H Q=>ta σ H λx H1=>tb σ H1 λy H2=>r x y H2 λz H3=>∃k,z=.bl k/\(if k=true then tc σ H3 λw' H4=>r' y w' H4 Q else Q (.bl false) H3)
def Kw{op op':CmpOp}{r r':R2}(ho:lQ X (cQ op) r)(ho':lQ X (cQ op') r')(ha:PE X a ta)(hb:PE X b tb)(hc:PE X c tc) (hm:yU [op,op'] [b,c]=false:=by with_unfolding_all rfl):PE X (.Compare a [op,op'] [b,c] pos) (Ke r r' ta tb tc):=by intro π s σ H Q I h;refine Compare_chain (fS (ha π s σ H _ I h) λv s1 ⟨x,H1,I1,r1,q1⟩=>chain_link (fS (hb π s1 σ H1 _ I1 q1) λu s2 ⟨y,H2,I2,r2,q2⟩=>fS (ho π s2 σ H2 x y v u _ I2 r1 r2 q2) λd s3 zz=>?_)) hm;obtain⟨z,H3,I3,r3,k,e,q3⟩:=zz;subst e;subst r3;refine ef ?_;cases k with|false=>exact ite_ff ⟨.bl false,H3,I3,rfl,q3⟩|true=>exact ite_tt (chain_last (fS (hc π s3 σ H3 _ I3 q3) λw' s4 ⟨z',H4,I4,r4,q4⟩=>ho' π s4 σ H4 y z' u w' Q I4 r2 r4 q4))
def K8{op op':CmpOp}{r r':R2}(ho:lQ X (cQ op) r)(ho':lQ X (cQ op') r')(ha:PE X a ta)(hb:PE X b tb)(hc:PE X c tc) (hm:yU [op,op'] [b,c]=false:=by with_unfolding_all rfl):PT X (.Compare a [op,op'] [b,c] pos) (Q3 (Ke r r' ta tb tc)):=by intro π s σ H Q I h;refine isTrue_chain (fS (ha π s σ H _ I h) λv s1 ⟨x,H1,I1,r1,q1⟩=>test_link (fS (hb π s1 σ H1 _ I1 q1) λu s2 ⟨y,H2,I2,r2,q2⟩=>fS (ho π s2 σ H2 x y v u _ I2 r1 r2 q2) λd s3 zz=>?_)) hm;obtain⟨z,H3,I3,r3,k,e,q3⟩:=zz;subst e;subst r3;refine ef ?_;cases k with|false=>obtain⟨k',e',q'⟩:=q3;cases e';exact ite_ff ⟨H3,I3,q'⟩|true=>refine ite_tt (test_last (fS (hc π s3 σ H3 _ I3 q3) λw' s4 ⟨z',H4,I4,r4,q4⟩=>fS (ho' π s4 σ H4 y z' u w' _ I4 r2 r4 q4) λd' s5 ⟨z2,H5,I5,r5,k2,e2,q5⟩=>?_));subst e2;subst r5;exact ef ⟨H5,I5,q5⟩
def zy:(aG:Nat)<2^63:=by rw[sP];decide
def vals1{x:V}{us:List Value}(r:cu [x] us):∃u,us=[u]/\Sk x u:=by cases r with|cons r1 r2=>cases r2;exact⟨_,rfl,r1⟩
def vals2{x y:V}{us:List Value}(r:cu [x,y] us):∃u w',us=[u,w']/\Sk x u/\Sk y w':=by cases r with|cons r1 r2=>cases r2 with|cons r3 r4=>cases r4;exact⟨_,_,rfl,r1,r3⟩
def LB:jc X (.builtin "abs") (λxs H Q=>∃i,xs=[.int i]/\Q (.int (if i<0 then -i else i)) H):=by intro π s σ H xs us Q I r h;obtain⟨i,rfl,q⟩:=h;obtain⟨u,rfl,t,rfl⟩:=vals1 r;exact call_abs_int λu tk=>⟨.int (if i<0 then -i else i),H,I.tok _,⟨_,rfl⟩,q⟩
def IX(hc:X.calm=true):jc X (.builtin "max") (λxs H Q=>∃i j,xs=[.int i,.int j]/\Q (.int (if j>i then j else i)) H):=by intro π s σ H xs us Q I r h;obtain⟨i,j,rfl,q⟩:=h;obtain⟨u,w',rfl,⟨t,rfl⟩,⟨t',rfl⟩⟩:=vals2 r;refine max_two_ints (I.ok.hd hc) λh' tk k=>⟨_,H,I.kept k,?_,q⟩;by_cases hj:j>i;{rw[au hj,au hj];exact⟨_,rfl⟩};.rw[ax hj,ax hj];exact⟨_,rfl⟩
def KO:jc X (.builtin "ord") (λxs H Q=>∃x,xs=[.str x]/\x.length=1/\Q (.int (x.cps.getD 0 0:Nat)) H):=by intro π s σ H xs us Q I r h;obtain⟨x,rfl,hz,q⟩:=h;obtain⟨u,rfl,t,rfl⟩:=vals1 r;exact ord_of_one hz ⟨.int _,H,I.tok _,⟨_,rfl⟩,q⟩
end
structure EJ(h:Heap)(x dx C:aE)(mA:Str->Option Value):Prop where
 obj:h.get? x=some (iT C dx)
 ns:h.Ns1 dx mA
 ne:dx≠x
def Iy{h:Heap}{r}{s}(n:h.Ns1 r s):∃od,h.get? r=some od/\∀name,oB name od=some (s name):=by obtain ⟨o,es,B,w,A,v,_,u⟩:=n;refine⟨o,w,λname=>?_⟩;have e:=u name;unfold nsFind findBy at e;rw[<-Array.find?_toList] at e;unfold oB;rw[A];dsimp only;split;{grind};.rename_i q;rw[q] at e;have a:es.toList.any (·.refKey)=false:=by{rw[List.any_eq_false];intro y x;obtain ⟨z,t,hkey⟩:=v y (Array.mem_toList_iff.mp x);simp[DictEntry.refKey,hkey]};grind
def EJ.look(I:EJ h x c C d):∃od,PySem.W.InstAt h x (iT C c) C (some od)/\∀name,oB name od=some (d name):=
 let⟨od,b,e⟩:=Iy I.ns
 ⟨od,⟨I.obj,rfl,rfl,b⟩,e⟩
section
variable {prog:Program}{w:World}{A:Around}{E:Value->Shared->Prop}{s:Shared}{K:ah}{x dx C f:aE}{mA:Str->Option Value}{name:Str}{v:Value}
def get_map{Q:Value->Shared->Prop}(X:K.In s.heap)(I:EJ s.heap x dx C mA)(f:jM K C name=true)(g:lT K C=true) (j:da K (.ref C) name=some none) (i:mA name=some v) (c:G1 v=true) (h:Q v {s with toks:=s.toks+1}):aK (aT prog w) A (getAttr (.ref x) name expr) Q E s:=by obtain ⟨od,J,k⟩:=I.look;exact PySem.W.get_value X J (qh f).1 (PySem.W.findObj_own g j rfl (by rw[k,i])) c h
def My{Q}(X:K.In s.heap)(I:EJ s.heap x dx C mA)(hg:jM K C name=true) (g:da K (.ref C) name=some (some (.ref f))) (e:nr K (.ref f)=true) (i:mA name=none) (h:Q (.ref f,[.ref x]) s):aK (aT prog w) A (m7 (.ref x) name pl) Q E s:=by obtain ⟨od,J,j⟩:=I.look;exact PySem.W.method_fn X J (qh hg).1 (qh hg).2 g (fQ.mp e) (by show(oB name od).map (·.isSome)=some false;simp_all) h
def OQ(X:K.In s.heap)(I:EJ s.heap x dx C mA) (z:da K (.ref C) "__setattr__" =some (some (.builtin "object.__setattr__"))) (D:rn K C=true) (r:uB K C name=some none) (q:lT K C=true) (t:AF mA ns) (hsz:ns.length<=aG) (h:∀h',EJ h' x dx C (λy=>if y=name then some v else mA y)->iH dx s.heap h'->Q () {s with heap:=h',toks:=s.toks+2}):aK (aT prog w) A (setAttr (.ref x) name v) Q E s:=by obtain ⟨od,J,F⟩:=I.look;refine PySem.W.set_plain X J z (PySem.W.osa_open X J D r λb=>?_);have⟨G,B,f⟩:=PySem.W.any_some q;have p:=I.obj;refine ab (aq (ab (ab (wpAny_loadPart p (ab (VE (PySem.W.looks_clsIn X B) ?_))))));rw[f];refine aq (ab (aq (ab ?_)));refine wpAny_nsSet1 I.ns λh' d e=>?_;have⟨H,o,n,i,u,m⟩:=d.count (YA name v t);refine ab (wpAny_lookBehind i (by grind [pastItsLine_dict,aM,aI]) ?_);exact aq (h _ ⟨(e.2 _ (dQ I.ne)).trans I.obj,d,I.ne⟩ e)
def LQ{vs}{c}(X:K.In s.heap)(e:uC K C=true) (hi:da K (.ref C) "__init__" =some (some (.ref f))) (g:PySem.W.typeIn K (.ref f)=some (.type "function")) (h:iI (aT prog w) (A.under (.builtin "type.__call__" ⟨.ref C::vs,c⟩)) (.call (.ref f) ⟨.ref (s.heap.objs.size+1)::vs,c⟩) (PySem.W.InitBack (s.heap.objs.size+1) R) {s with heap:=(s.heap.push fX).push (iT C s.heap.objs.size)}):iI (aT prog w) A (.call (.ref C) ⟨vs,c⟩) R s:=PySem.W.make_core (PySem.W.makes_of X e) (PySem.W.looks_findIn X hi) (λb=>PySem.W.bind_fn X b g) (.inl rfl) h
end
def mr(f:Str)(v:V):List (Str×V)->List (Str×V)|[]=>[(f,v)]|(g,x)::r=>if g=f then(g,v)::r else(g,x)::mr f v r
theorem uk(f g)(v):∀b:List (Str×V),(mr f v b).lookup g=if g=f then some v else b.lookup g|[]=>by show qp g [(f,v)]=_;grind|(k,x)::r=>by have c:=uk f g v r;grind [mr]
theorem tJ(f)(v):∀b:List (Str×V),f∈(mr f v b).map (·.1)/\∀g,g∈b.map (·.1)->g∈(mr f v b).map (·.1)|[]=>⟨by simp[mr],λg h=>by simp at h⟩|(k,x)::r=>by obtain ⟨e,d⟩:=tJ f v r;grind [mr]
theorem ur(f)(v):∀b:List (Str×V),(mr f v b).length<=b.length+1|[]=>by simp[mr]|(k,x)::r=>by have d:=ur f v r;grind [mr]
def uS.some_of(r:uS (some v) o):∃u,o=some u/\Sk v u:=by cases o with|none=>exact(show False from r).elim|some u=>exact⟨u,rfl,r⟩
def uS.none_of(r:uS none o):o=none:=by cases o with|none=>rfl|some u=>exact(show False from r).elim
def IF(r:Sk v u):G1 u=true:=by cases v with|ie=>cases(show u=Value.none from r);rfl|bl b=>cases(show u=Value.bool b from r);rfl|int i=>obtain ⟨t,e⟩:=(show ∃t,u=Value.int i t from r);subst e;rfl|str x=>have⟨t,e⟩:=(show ∃t,u=Value.str x t from r);subst e;rfl|Rg b=>obtain ⟨t,e⟩:=(show ∃t,u=Value.bytes b t from r);subst e;rfl|Zd b=>obtain ⟨t,e⟩:=(show ∃t,u=Value.float b t from r);cases e;rfl|ref a=>cases(show u=Value.ref a from r);rfl|ty n=>cases(show u=Value.type n from r);rfl
section
variable {P:Program}{w:World}{H H':Hp}{h h':Heap}{a C dx:aE}{fs fs':List (Str×V)}
def ze(c:rh P w H h)(e:H a=some (.ins C dx fs)):∃b,EJ h a dx C b/\(∀f,uS (fs.lookup f) (b f))/\AF b (fs.map (·.1))/\fs.length<=1000/\H dx=some (.own a):=by obtain ⟨d,z,j,k,b,n,r,q⟩:=(show gB P w H h a (.ins C dx fs) from c a _ e);exact⟨b,⟨k,n,j⟩,r,q,z,d⟩
end
structure AA(K:ah)(C:aE):Prop where
 pg:jM K C lU=true
 hd:lT K C=true
 po:rn K C=true
 sa:da K (.ref C) "__setattr__" =some (some (.builtin "object.__setattr__"))
def AA.get{K}{C}(c:AA K C)(f):jM K C f=true:=c.pg
def iy(K:ah)(C:aE)(f:Str):Prop:=da K (.ref C) f=some none
def iy.WJ{K}{C}{f}(n:iy K C f):uB K C f=some none:=by unfold uB;rw[show da K (.ref C) f=some none from n];rfl
structure uN(K:ah)(C:aE)(m:Str)(f:aE):Prop where
 at_:da K (.ref C) m=some (some (.ref f))
 fn:nr K (.ref f)=true
 kp:b8 K (.ref f)=true
section
variable {X:Cx}{π:List (aE×Obj)}{σ:St}{H:Hp}{s:Shared}{a C dx:aE}{fs:List (Str×V)}{f:Str}{v:V}{A:Around}{E:Value->Shared->Prop}
def Ew{Q}(I:IM X π σ H s)(e:H a=some (.ins C dx fs))(c:AA X.K C)(n:iy X.K C f)(l:fs.lookup f=some v) (h:∀u i,IM X π σ H i->Sk v u->Q u i):aK (aT X.prog X.w) A (getAttr (.ref a) f b) Q E s:=by obtain ⟨k,O,r,_,_,_⟩:=ze I.fR e;obtain ⟨u,m,j⟩:=uS.some_of (v:=v) (o:=k f) (by grind);exact get_map I.Ae O (c.get f) c.hd n m (IF j) (h u _ (I.tok _) j)
def wk{Q}(I:IM X π σ H s)(e:H a=some (.ins C dx fs))(c:AA X.K C)(k:uN X.K C m g)(l:fs.lookup m=none) (h:Q (.ref g,[.ref a]) s):aK (aT X.prog X.w) A (m7 (.ref a) m pl) Q E s:=by obtain ⟨f,O,r,_,_,_⟩:=ze I.fR e;have i:f m=none:=uS.none_of (by grind);exact My I.Ae O (c.get m) k.at_ k.fn i h
def D6(I:IM X π σ H s)(e:H a=some (.ins C dx fs))(c:AA X.K C)(n:iy X.K C f)(L:fs.length<1000)(M:Sk y u) (h:∀x,IM X π σ (IZ H a (.ins C dx (mr f y fs))) x->Q () x):aK (aT X.prog X.w) A (setAttr (.ref a) f u) Q E s:=by obtain ⟨J,O,r,t,_,v⟩:=ze I.fR e;have hz:(fs.map (·.1)).length<=aG:=by{rw[ak,sP];omega};refine OQ I.Ae O c.sa c.po n.WJ c.hd t hz λh' p D=>h _ ?_;have G:∃o,h'.get? dx=some o:=let⟨o,_,_,e',_⟩:=p.ns;⟨o,e'⟩;refine I.write (by rw[e];exact True.intro) (.inr v) (λb q B z=>(D.2 b B).trans z) G ?_;refine⟨by rw[aS O.ne];exact v,?_,O.ne,p.obj,_,p.ns,λg=>?_,λg F=>?_⟩;{have:=ur f y fs;lia};{grind only [uS,mr,uk]};.by_cases q:g=f;{rw[q];exact(tJ f y fs).1};.refine(tJ f y fs).2 g (t g λz=>F ?_);simp_all
def IM.made(I:IM X π σ H s):IM X π σ (IZ (IZ H s.heap.objs.size (.own (s.heap.objs.size+1))) (s.heap.objs.size+1) (.ins C s.heap.objs.size [])) {s with heap:=(s.heap.push fX).push (iT C s.heap.objs.size)}:=by have d:(s.heap.push fX).get? s.heap.objs.size=some fX:=ay s.heap rfl;have i:=by{have:=ay (s.heap.push fX) (o:=iT C s.heap.objs.size) rfl;rwa[bR] at this};have l:(s.heap.push fX).Ns s.heap.objs.size (λ_=>none):=⟨fX,#[],_,d,rfl,(λe k=>absurd k (by simp)),λ_=>rfl⟩;have n:=I.laid (o:=.own (s.heap.objs.size+1)) (t':=s.toks) (λb u q=>ae _ q) (aB _) ⟨_,d⟩;refine n.laid (λb u q=>ae _ q) (uD (bR _ _)) ?_;have f:s.heap.objs.size≠s.heap.objs.size+1:=a7 (gC _);refine⟨by rw[aS f,bh],fJ _,f,i,λ_=>none,(Heap.Ns1.of_empty l).at λo q=>ae _ q,λ_=>True.intro,λy m=>absurd rfl m⟩
def PQ{env}{e}{f}{pos}{s}{Q}(b:fV e f env (cq e env)=cq e env) (h:aK (aT prog w) A (cq e env) (λo a=>aK (aT prog w) A (getAttr o f true) Q E a) E s):aK (aT prog w) A (cq (.Attribute e f pos) env) Q E s:=Attribute_any_ h (by rw[arm_eval_Attribute,b])
end
def ZO(K:ah)(g:TE)(f:Str):TE:=λσ H Q=>g σ H λx c=>∃a C e d v,x=.ref a/\c a=some (.ins C e d)/\AA K C/\iy K C f/\d.lookup f=some v/\Q v c
def aas(K:ah)(h g:TE)(f:Str):TS:=λD σ H=>g σ H λy i=>h σ i λx e=>∃a C d b,x=.ref a/\e a=some (.ins C d b)/\AA K C/\iy K C f/\b.length<1000/\D.nx σ (IZ e a (.ins C d (mr f y b)))
section
variable {X:Cx}{o e value:Expr}{f:Str}{pos pos' tpos:Pos}{ta tv:TE}
def UA(z:PE X e ta)(k:fV e f X.env (cq e X.env)=cq e X.env):PE X (.Attribute e f pos) (ZO X.K ta f):=by intro π s σ H Q I h;refine PQ k (fS (z π s σ H _ I h) λu A zz=>?_);obtain⟨x,p,y,t,a,C,B,F,v,w,r,c,n,l,q⟩:=zz;subst w;obtain rfl:u=Value.ref a:=t;exact Ew y r c n l λD E o m=>⟨v,p,o,m,q⟩
def Es(r:PE X o ta)(A:PE X value tv)(p:fz value (some (.Attribute o f pos')) pos.line X.env=pure false):PS X (.Assign [.Attribute o f pos'] value pos) (aas X.K ta tv f):=by intro π s σ H D I h;refine plainObj_wpAny_Assign_Attribute (fS (A π s σ H _ I h) λu j ⟨y,m,G,B,q⟩=>fS (r π j σ m _ G q) λz N zz=>?_) p;obtain⟨x,O,k,t,a,C,M,L,v,F,c,n,l,w⟩:=zz;subst v;obtain rfl:z=Value.ref a:=t;exact D6 k F c n l B λJ E=>⟨σ,_,E,w⟩
end
structure gH(k:Nat)(A:Around):Prop where
 hd:A.handled=none
 dp:A.depth+3*k+5<CY
 un:A.units+16*k+200<cLine
def gH.mono{j k}{A}(r:gH k A)(h:j<=k):gH j A:=⟨r.hd,by have:=r.dp;lia,by have:=r.un;lia⟩
theorem gH.deeper(r:gH (k+1) A)(env):gH k (A.deeper env):=⟨r.hd,by have:=r.dp;show A.depth+1+3*k+5<_;lia,by have:=r.un;show A.units+3+16*k+200<_;lia⟩
def EG{A:Around}{C}{us}{b}:(A.under (.builtin "type.__call__" ⟨.ref C::us,b⟩)).depth=A.depth+1:=by first|rfl|simp
def DR{A:Around}{C}{us}{b}:(A.under (.builtin "type.__call__" ⟨.ref C::us,b⟩)).units=A.units+1:=by first|rfl|simp
def gH.make(r:gH (k+1) A)(C)(us)(c):gH k (A.under (.builtin "type.__call__" ⟨.ref C::us,c⟩)):=⟨r.hd,by have:=r.dp;rw[EG];lia,by have:=r.un;rw[DR];lia⟩
theorem gH.depth(r:gH k A):A.depth<CY:=by have:=r.dp;lia
theorem gH.units(r:gH k A):A.units+64<cLine:=by have:=r.un;lia
def Lk:TA:=λ_ H Q=>Q [] H
def Rh(c:TE)(a:TA):TA:=λσ H Q=>c σ H λx b=>a σ b λxs d=>Q (x::xs) d
section
variable {X:Cx}{e:Expr}{es:List Expr}{te:TE}{t:TA}{pos:Pos}
def hF:PA X [] Lk:=λ_ _ _ _ H Q I h=>Jc ⟨[],H,I,.nil,h⟩
def fK(o:PE X e te)(j:PA X es t)(p:aH (e::es) X.env=(false,cq e X.env)::aH es X.env:=by rfl):PA X (e::es) (Rh te t):=by intro pos π s σ H Q I h;rw[p];refine G2 (fS (o π s σ H _ I h) λu l zz=>?_);obtain⟨x,m,g,n,i⟩:=zz;exact fS (j pos π l σ m _ g i) λus v ⟨xs,q,k,f,r⟩=>⟨x::xs,q,k,.cons n f,r⟩
def ZL(t:TA):TE:=λσ H Q=>t σ H λxs a=>xs.length<=aG/\∀p,a p=none->Q (.ref p) (IZ a p (.tup xs))
def aad(t:TA):TE:=λσ H Q=>t σ H λxs a=>xs.length<=aG/\∀p,a p=none->Q (.ref p) (IZ a p (.lst xs))
def RL(h:PA X es t):PE X (.Tuple es m pos) (ZL t):=by intro π s σ H Q I i;refine wpAny_Tuple_spliced (fS (h pos π s σ H _ I i) λus f ⟨xs,j,g,r,z,q⟩=>⟨by rw[<-r.length];exact z,?_⟩);have k:=g.fR.fresh (aB _);refine⟨.ref f.heap.objs.size,IZ j f.heap.objs.size (.tup xs),g.laid (λb u e=>ae _ e) (aB _) ?_,rfl,q _ k⟩;exact⟨z,us,r,⟨_,ay _ rfl,rfl,_,rfl⟩⟩
def DK(h:PA X es t):PE X (.List es pos) (aad t):=by intro π s σ H Q I k;refine wpAny_List_spliced (fS (h pos π s σ H _ I k) λus f ⟨xs,i,g,r,z,q⟩=>⟨by rw[<-r.length];exact z,?_⟩);have j:=g.fR.fresh (aB _);refine⟨.ref f.heap.objs.size,IZ i f.heap.objs.size (.lst xs),g.laid (λb u e=>ae _ e) (aB _) ?_,rfl,q _ j⟩;exact⟨z,us,0,r,ay _ rfl⟩
end
abbrev Sp:=List V->Hp->VK->XK->Prop
abbrev T8:=List Env->Hp->Shared->XK->Value->Shared->Prop
structure DD(P:Program)(w:World)(K:ah)(mg:Str->Option Value)(base:Heap)(A:Around)(outer:List Env)(s:Shared)(H:Hp):Prop where
 frames:A.frames=some outer
 mod:Mod K mg base
 bs:∀b o,base.get? b=some o->s.heap.get? b=some o/\H b=none
 Mq:base.objs.size<=s.heap.objs.size
 uK:s.heap.FunFrames base outer
 S9:∀b∈ML outer,H b=none
 fR:rh P w H s.heap
 bare:xo s.gens
inductive CE(outer:List Env)(P:Program)(w:World)(H:Hp)(s:Shared)(Q:VK)(u:Value)(a:Shared):Prop
 |mk(v H')(_:a.os=s.os)(_:xo a.gens)(_:Un (ML outer) [] H H' s.heap a.heap)(_:rh P w H' a.heap)(_:Sk v u)(_:Q v H')
def CR(CX:T8)(outer:List Env)(P:Program)(w:World)(H:Hp)(s:Shared)(Q:VK)(E:XK)(r:Zq)(a:Shared):Prop:=match r with|.ok (.ret u)=>CE outer P w H s Q u a|.ok _=>False|.error e=>CX outer H s E e a
structure gm(P:Program)(w:World)(K:ah)(mg:Str->Option Value)(base:Heap)(CX:T8)(k:Nat)(f:aE)(fd:FuncData)(ps:List Str)(sp:Sp):Prop where
 len:∀vs H Q E,sp vs H Q E->vs.length=ps.length
 run:∀(A:Around) (outer:List Env) (s:Shared) (H:Hp) (args:Args) (us:List Value) (vs:List V) (Q:VK) (E:XK),gH k A->DD P w K mg base A outer s H->UK s fd args (ps.zip us)->cu vs us->sp vs H Q E->
  iI (aT P w) A (.call (.ref f) args) (CR CX outer P w H s Q E) s
def DD.make{K}{d}{a}{A}{outer}{s}{H}(e:DD P w K d a A outer s H)(C)(us)(f):DD P w K d a (A.under (.builtin "type.__call__" ⟨.ref C::us,f⟩)) outer s H:=⟨by first|exact e.frames|(simpa[Around.under,Code.envs,Code.isFrame,pushEnvs] using e.frames),e.mod,e.bs,e.Mq,e.uK,e.S9,e.fR,e.bare⟩
section
variable {X:Cx}{π:List (aE×Obj)}{σ:St}{H:Hp}{s s':Shared}
def IM.XG(I:IM X π σ H s):DD X.prog X.w X.K X.mg X.base X.A X.stack s H:=⟨I.ok.frames,I.ok.mod,I.bs,aM I.ok.Mq I.sz,I.stack,I.Gs,I.fR,I.bare⟩
def IM.after(I:IM X π σ H s)(h:CE X.stack X.prog X.w H s Q u s'):EP X π σ Q u s':=by obtain ⟨v,H',os,a,k,e,r,q⟩:=h;obtain ⟨l,g,d,t,f⟩:=s';obtain rfl:f=s.os:=os;exact⟨v,H',I.call k e a (λb z=>absurd z (by simp)),r,q⟩
end
def QV(sp:Sp)(a:List V)(E:XK)(t:TA):TE:=λσ H Q=>t σ H λvs b=>sp (vs++a) b Q E
def QM(C:aE)(m:Str)(sp:Sp)(b:List V)(E:XK)(g:TE)(t:TA):TE:=λσ H Q=>g σ H λx d=>∃a f c,x=.ref a/\d a=some (.ins C f c)/\c.lookup m=none/\t σ d λvs e=>sp (x::(vs++b)) e Q E
def W1(C:aE)(sp:Sp)(b:List V)(E:XK)(t:TA):TE:=λσ H Q=>t σ H λvs c=>∀x a,c x=none->c a=none->a≠x->sp (.ref x::(vs++b)) (IZ (IZ c a (.own x)) x (.ins C a [])) (λv d=>v=.ie/\Q (.ref x) d) E
def AR(K:ah)(b:FuncData)(ps:List Str)(ds:List Value):Prop:=∀(s:Shared) (us:List Value),K.In s.heap->(us++ds).length=ps.length->UK s b ⟨us,[]⟩ (ps.zip (us++ds))
def AR.all{K}{b}{ps}(h:∀us:List Value,us.length=ps.length->xr b ⟨us,[]⟩=pure (ps.zip us)):AR K b ps []:=λs us _ c=>by rw[bM] at c⊢;exact .of_eq (h us c)
def oO(CX:T8)(X:Cx)(E:XK):Prop:=∀(π:List (aE×Obj)) (σ:St) (H:Hp) (s:Shared) (e:Value) (a:Shared),IM X π σ H s->CX X.stack H s E e a->X.xe e a
section
variable {X:Cx}{CX:T8}{k:Nat}{f C:aE}{fd:FuncData}{ps:List Str}{sp:Sp}{dvs:List V}{ds:List Value}{E:XK}{x m:Str}{p pos apos:Pos}{e o:Expr}{es:List Expr}{ta:TE}{t:TA}
def vY{σ:St}{H}{s}{Q}{us}{vs}(F:gm X.prog X.w X.K X.mg X.base CX k f fd ps sp)(n:gH k X.A)(q:AR X.K fd ps ds)(o:cu dvs ds)(p:oO CX X E) (I:IM X π σ H s) (r:cu vs us) (h:sp (vs++dvs) H Q E):aK (aT X.prog X.w) X.A (call (.ref f) us) (EP X π σ Q) X.xe s:=by have i:=r.append o;have t:(us++ds).length=ps.length:=by{rw[<-i.length];exact F.len _ _ _ _ h};refine CZ (mH (F.run X.A X.stack s H ⟨us,[]⟩ (us++ds) (vs++dvs) Q E n I.XG (q s us I.Ae t) i h) λr v c=>?_);cases r with|error e=>exact p π σ H s e v I c|ok x=>cases x with|ret u=>exact I.after c|next=>exact eK c|brk=>exact eK c|cont=>exact eK c
def GO(F:gm X.prog X.w X.K X.mg X.base CX k f fd ps sp)(u:gH k X.A)(z:Gl X x)(v:X.mg x=some (.ref f))(y:b8 X.K (.ref f)=true)(o:AR X.K fd ps ds)(m:cu dvs ds)(n:oO CX X E) (l:PA X (e::es) t) (g:qq9 x:=by decide) (B:aH (e::es) X.env=(false,cq e X.env)::aH es X.env:=by rfl) (c:(dU pos (aH es X.env)).any (·.1)=false:=by rfl):PE X (.Call (.Name x p) (e::es) [] pos) (QV sp dvs E t):=by intro π s σ H Q I h;refine gb (pO I z v ?_ g);refine qE I.ok.mod.XR y (fS (l pos π s σ H _ I h) λus C ⟨vs,D,j,r,q⟩=>⟨j.Ae,?_⟩) B c;exact vY F u o m n j r q
def LN(F:gm X.prog X.w X.K X.mg X.base CX k f fd ps sp)(l:gH k X.A)(o:Gl X x)(j:X.mg x=some (.ref f))(n:b8 X.K (.ref f)=true)(i:AR X.K fd ps ds)(m:cu dvs ds)(g:oO CX X E) (d:qq9 x:=by decide):PE X (.Call (.Name x p) [] [] pos) (QV sp dvs E Lk):=by intro π s σ H Q I h;refine gb (pO I o j ?_ d);exact qi I.Ae n (vY F l i m g I .nil h)
def Ou{pl}(Y:PE X o ta)(c:AA X.K C)(B:uN X.K C m f)(F:gm X.prog X.w X.K X.mg X.base CX k f fd ps sp)(S:gH k X.A)(N:AR X.K fd ps ds)(U:cu dvs ds)(P:oO CX X E)(M:PA X (e::es) t)
  (p:aH (e::es) X.env=(false,cq e X.env)::aH es X.env:=by rfl) (i:(dU pos (aH es X.env)).any (·.1)=false:=by rfl)
  (T:cq (.Call (.Attribute o m apos) (e::es) [] pos) X.env=(do
   let D<-cq o X.env
   lJ apos.atName
   let(f,first)<-fw [D] (m7 D m pl)
   xt pos f first (dU pos (aH (e::es) X.env)) (gT pos (eA [] X.env))):=by rfl):
  PE X (.Call (.Attribute o m apos) (e::es) [] pos) (QM C m sp dvs E ta t):=by
 intro π s σ H Q I h
 refine Ao (fS (Y π s σ H _ I h) λu G ⟨x,R,y,L,a,dx,fs,Z,J,l,q⟩=>?_) T
 subst Z
 obtain rfl:u=Value.ref a:=L
 refine wk y J c B l ?_
 refine qE I.ok.mod.XR B.kp (fS (M pos π G σ R _ y q) λus s2 ⟨vs,H2,z,r,O⟩=>⟨z.Ae,?_⟩) p i
 exact vY (vs:=.ref a::vs) F S N U P z (.cons rfl r) O
def Cp(G:PE X o ta)(c:AA X.K C)(r:uN X.K C m f)(F:gm X.prog X.w X.K X.mg X.base CX k f fd ps sp)(L:gH k X.A)(y:AR X.K fd ps ds)(t:cu dvs ds)(J:oO CX X E)
  (v:cq (.Call (.Attribute o m apos) [] [] pos) X.env=(do
   let p<-cq o X.env
   lJ apos.atName
   let(f,first)<-fw [p] (m7 p m pl)
   xt pos f first (dU pos (aH [] X.env)) (gT pos (eA [] X.env))):=by rfl):
  PE X (.Call (.Attribute o m apos) [] [] pos) (QM C m sp dvs E ta Lk):=by
 intro π s σ H Q I h
 refine Ao (fS (G π s σ H _ I h) λu M ⟨x,P,i,z,a,O,N,B,D,l,q⟩=>?_) v
 subst B
 obtain rfl:u=Value.ref a:=z
 refine wk i D c r l ?_
 exact qi i.Ae r.kp (vY (vs:=[.ref a]) F L y t J i (.cons rfl .nil) q)
structure Mk(K:ah)(C f:aE):Prop where
 makes:uC K C=true
 init:da K (.ref C) "__init__" =some (some (.ref f))
 fn:nr K (.ref f)=true
 kp:b8 K (.ref C)=true
def KL{σ:St}{H}{s}{Q}{us}{vs}(M:Mk X.K C f)(F:gm X.prog X.w X.K X.mg X.base CX k f fd ps sp)(z:gH (k+1) X.A)(q:AR X.K fd ps ds)(t:cu dvs ds) (y:oO CX X E) (I:IM X π σ H s) (r:cu vs us) (h:∀x i,H x=none->H i=none->i≠x->sp (.ref x::(vs++dvs)) (IZ (IZ H i (.own x)) x (.ins C i [])) (λv R=>v=.ie/\Q (.ref x) R) E):aK (aT X.prog X.w) X.A (call (.ref C) us) (EP X π σ Q) X.xe s:=by have m:=h (s.heap.objs.size+1) s.heap.objs.size (I.fR.fresh (m8 _)) (I.fR.fresh (aB _)) (a7 (gC _));have g:=IM.made (C:=C) I;have o:cu (V.ref (s.heap.objs.size+1)::(vs++dvs)) (Value.ref (s.heap.objs.size+1)::(us++ds)):=.cons rfl (r.append t);have N:=by{have e:=o.length;rw[F.len _ _ _ _ m] at e;exact e.symm};refine CZ (LQ I.Ae M.makes M.init (fQ.mp M.fn) (mH (F.run _ X.stack _ _ ⟨Value.ref (s.heap.objs.size+1)::us,[]⟩ (Value.ref (s.heap.objs.size+1)::(us++ds)) _ _ E (z.make C us []) (g.XG.make C us []) (q _ (Value.ref (s.heap.objs.size+1)::us) g.Ae N) o m) λr P b=>?_));cases r with|error e=>exact y π σ _ _ e P g b|ok O=>cases O with|ret u=>obtain ⟨v,H',J,G,D,L⟩:=g.after b;subst D;exact⟨G,⟨V.ref (s.heap.objs.size+1),H',J,rfl,L⟩⟩|next=>exact eK b|brk=>exact eK b|cont=>exact eK b
def KC(M:Mk X.K C f)(F:gm X.prog X.w X.K X.mg X.base CX k f fd ps sp)(l:gH (k+1) X.A)(n:Gl X x)(j:X.mg x=some (.ref C))(i:AR X.K fd ps ds)(m:cu dvs ds)(g:oO CX X E) (e:qq9 x:=by decide):PE X (.Call (.Name x p) [] [] pos) (W1 C sp dvs E Lk):=by intro π s σ H Q I h;refine gb (pO I n j ?_ e);exact qi I.Ae M.kp (KL M F l i m g I .nil h)
end
def PK(X:Cx)(a:List Keyword)(t:TA):Prop:=∀(pos:Pos) (π:List (aE×Obj)) (s:Shared) (σ:St) (H:Hp) (Q:List V->Hp->Prop),IM X π σ H s->t σ H Q->aK (aT X.prog X.w) X.A (evalAll ((gT pos (eA a X.env)).map (·.2))) (AP X π σ Q) X.xe s
section
variable {X:Cx}{CX:T8}{k:Nat}{f C:aE}{fd:FuncData}{ps ks:List Str}{sp:Sp}{E:XK}{x m:Str}{p pos apos kpos:Pos}{e o:Expr}{es:List Expr}{kws:List Keyword}{te ta:TE}{t tk:TA}{nm:Option Str}
def ER:PK X [] Lk:=λ_ _ _ _ H Q I h=>wpAny_evalAll_nil ⟨[],H,I,.nil,h⟩
def zS(m:PE X e te)(i:PK X kws t):PK X (⟨nm,e,kpos⟩::kws) (Rh te t):=by intro pos π s σ H Q I h;refine wpAny_evalAll_cons (ab (fS (m π s σ H _ I h) λu d ⟨x,k,g,f,n⟩=>ab (uX (aq ?_))));exact fS (i pos π d σ k _ g n) λus q ⟨xs,o,l,j,p⟩=>⟨x::xs,o,l,.cons f j,p⟩
variable {g:List Value->List Value->List Value}{gV:List V->List V->List V}
end
structure j5(N P:List Str)(sc:Scope):Prop where
 kind:sc.kind=.function
 co:sc.isCoroutine=false
 gen:sc.isGenerator=false
 nd:N.Nodup
 pre:N.take P.length=P
 par:∀x∈P,sc.names.lookup x=some .local\/sc.names.lookup x=some .cell
 Tv:∀y∈sc.names,y.2≠.free
theorem yP{kindOf}{x}:∀{binds} {m},(∀v,(x,v)∉binds)->bindL kindOf binds m x=m x|[],_,_=>rfl|(n,v)::r,m,h=>by dsimp only[bindL];rw[yP λw hw=>h w (af _ hw)];split;{grind};.rfl
theorem yk{kindOf}{x}:∀{a} {m},(∀v,(x,v)∉a)->Nh kindOf a m x=m x|[],_,_=>rfl|(n,v)::r,m,h=>by dsimp only[Nh];rw[yk λw e=>h w (af _ e)];split;{rfl};.grind
theorem yw{kindOf}{x}{v}:∀{P:List Str} {vs} {i:Nat} {m},P.Nodup->P[i]?=some x->vs[i]?=some v->kindOf x=some .local->bindL kindOf (P.zip vs) m x=some v|[],_,_,_,_,h,_,_=>by simp at h|_::_,[],_,_,_,_,h,_=>by simp at h|p::P,w::vs,0,m,f,h1,l,j=>by simp at h1 l;subst h1;subst l;show bindL kindOf ((p,w)::P.zip vs) m p=_;unfold bindL;rw[yP λv n=>(ia.mp f).1 (df n).1,au j];simp|p::P,w::vs,i+1,m,f,h1,l,j=>by unfold bindL;exact yw (i:=i) (ia.mp f).2 (by assumption) Eg j
theorem ya{kindOf:Str->Option NameKind}{x:Str}{v:Value}:∀{P:List Str} {vs:List Value} {i:Nat} {m:Str->Option Value},P.Nodup->P[i]?=some x->vs[i]?=some v->kindOf x≠some .local->Nh kindOf (P.zip vs) m x=some v|[],_,_,_,_,h,_,_=>by simp at h|_::_,[],_,_,_,_,h,_=>by simp at h|p::P,w::vs,0,m,g,e,k,j=>by simp at e k;subst e;subst k;show Nh kindOf ((p,w)::P.zip vs) m p=_;unfold Nh;rw[yk λv l=>(ia.mp g).1 (df l).1,ax j];simp|p::P,w::vs,i+1,m,g,e,k,j=>by show Nh kindOf ((p,w)::P.zip vs) m x=_;exact ya (i:=i) (ia.mp g).2 (by assumption) Eg j
def start(N:List Str)(vs:List V):St:=vs.map some++iF (N.length -vs.length) none
def zt(CX:T8)(P:Program)(w:World)(K:ah)(mg:Str->Option Value)(base:Heap)(N:List Str)(b:Str)(a:Scope)(f:aE)(g:Value)(A:Around)(outer:List Env)(s:Shared)(H:Hp)(E:XK):Cx where
 prog:=P
 w:=w
 K:=K
 mg:=mg
 base:=base
 A:=A.deeper (sQ b a s.heap.objs.size f g)
 N:=N
 yR:=s
 X8:=H
 env:=sQ b a s.heap.objs.size f g
 outer:=outer
 stack:=sQ b a s.heap.objs.size f g::outer
 ex:=[]
 calm:=true
 fn:=λ_=>true
 pn:=[]
 xe:=λe l=>aK (aT P w) (A.deeper (sQ b a s.heap.objs.size f g)) (leaving (sQ b a s.heap.objs.size f g) e) (λ_ d=>CX outer H s E e d) (λe' d=>CX outer H s E e' d) l
def BR{b:Scope}{n}{x}(h:b.names.lookup x=some .cell):∃c,(dX n b.names []).lookup x=some c:=by have q:=yV b.names n [] (.inl h);exact Option.isSome_iff_exists.mp q
def Ia{P}{w}{K}{mg}{base}{N ps}{qual}{a}{f}{Q}{A}{outer}{s s1}{H}{E}{us}{vs} (S:j5 N ps a) (hd:A.handled=none) (e0:DD P w K mg base A outer s H) (hl:vs.length=ps.length) (r:cu vs us) (x:InCallC s s.heap.objs.size (bindL (sQ qual a s.heap.objs.size f Q).kindOf (ps.zip us) λ_=>none) (dX (s.heap.objs.size+1) a.names []) (Nh (sQ qual a s.heap.objs.size f Q).kindOf (ps.zip us) λ_=>none) s1):IM (zt CX P w K mg base N qual a f Q A outer s H E) [] (start N vs) H s1:=by have hpl:ps.length<=N.length:=by{have:=ip mG S.pre;grind};obtain⟨h1,tk,rfl,hk⟩:=x.done;have noA:∀b:aE,b∉(zt CX P w K mg base N qual a f Q A outer s H E).ex:=λb z=>absurd (show b∈([]:List aE) from z) (by simp);refine⟨⟨e0.mod,S.kind,rfl,rfl,aB _,λy z c h1 T=>?_,λy hy=>?_,λy c _ h=>?_,λ_=>hd,Around.frames_deeper e0.frames,.inr ⟨rfl,rfl⟩,λb z=>absurd z (noA b),e0.bs,e0.Mq,λb _ _=>noA b,λb z=>absurd z (noA b),e0.uK,e0.S9⟩,rfl,e0.bare,Un.kept hk,⟨_,x.toInCall.ns,λi y v h1 T h3=>?_⟩,λy c h=>⟨_,x.cell y c h⟩,e0.fR.fresh (aB _),λy c h=>?_,λp hp=>absurd (show p∈([]:List (aE×Obj)) from hp) (by simp),e0.fR.kept hk,?_⟩;{exact name_of_addr x.apart (bS h1) (bS T)};{have hy:a.names.lookup y=some .cell\/a.names.lookup y=some .free:=hy;rcases hy with hy|hy;{exact BR hy};.exact absurd rfl (S.Tv _ (bS hy))};{exact eU (x.above y c (bS h))};{have hi:i<vs.length:=by{grind [start]};have ha:vs[i]?=some v:=by{unfold start at T;rw[f7 (by simpa using hi),aP] at T;simp_all};obtain⟨u,hu,rv⟩:=r.get ha;have hp:ps[i]?=some y:=by{rw[<-S.pre,m9 Eg];exact h1};have ndP:ps.Nodup:=by{rw[<-S.pre];exact S.nd.sublist (Ju _ _)};refine⟨u,rv,?_⟩;rcases S.par y (cx hp) with k|k;{exact .inl ⟨k,yw ndP hp hu k⟩};.obtain⟨c,e⟩:=BR (n:=s.heap.objs.size+1) k;refine .inr ⟨.inl k,c,e,?_⟩;have q:=x.cell y c e;rw[ya ndP hp hu (by show a.names.lookup y≠_;rw[k];decide)] at q;exact q};{exact e0.fR.fresh (eU (x.above y c (bS h)))};.unfold start;show _=N.length;rw[bo,ak,List.length_replicate];simp_all
def QL{K}{R}{j}{k}{f}{name d}{l}{m}{a}{dV kV G pm h ct oc}{an od} {Y} {N ps} {sp} (lk:K.lookup f=some ⟨oc,od,.func (fg name d l m a dV kV G pm an h ct),Y⟩) (hcd:lg K h d=true) (S:j5 N ps a) (M:∀vs H Q E,sp vs H Q E->vs.length=ps.length) (B:∀(A) (outer) (s) (H) (vs) (Q) (E),gH k (A.deeper (sQ d a s.heap.objs.size f h))->sp vs H Q E->∃t,CQ (zt CX P w K R j N d a f h A outer s H E) m t/\t {nx:=λ_ H'=>Q .ie H',rt:=Q} (start N vs) H):gm P w K R j CX (k+1) f (fg name d l m a dV kV G pm an h ct) ps sp:=by refine⟨M,λA outer s H args us vs Q E U F hb r L=>?_⟩;have hl:=M _ _ _ _ L;have KX:=F.mod.XR.keeps λb o e=>(F.bs b o e).1;have lim:=F.mod.nolimit.keeps λb o e=>(F.bs b o e).1;have C:∀y∈ps.zip us,a.names.lookup y.1=some .local\/(a.names.lookup y.1=some .cell/\((dX (s.heap.objs.size+1) a.names []).lookup y.1).isSome=true):=λ⟨n,v⟩ hy=>by{rcases S.par n (df hy).1 with q|q;{exact .inl q};.simp_all [yV]};refine codeAny_call_function U.depth (KX _ _ lk) rfl S.co S.gen rfl (PySem.W.codeRec_of KX hcd) (hb _ _ _ _ ?_);refine wpAny_newFunctionEnv_cells S.kind C λenv he s1 x=>?_;subst he;refine⟨lim.keeps x.toInCall.keep,codeAny_func ?_⟩;obtain ⟨t,ht,hq⟩:=B A outer s H vs Q E (U.deeper _) L;have I:IM (zt CX P w K R j N d a f h A outer s H E) [] (start N vs) H s1:=Ia S U.hd F hl r x;refine fB (ht [] s1 (start N vs) H _ I hq) (λfl s' D=>?_) λe s' D=>D;have O:∀{p:St} {H':Hp} {v:V} {u:Value},IM (zt CX P w K R j N d a f h A outer s H E) [] p H' s'->Sk v u->Q v H'->CE outer P w H s Q u s':=λ{p H' v u} J rv q=>⟨v,H',J.os,J.bare,J.base,J.fR,rv,q⟩;cases fl with|ret u=>obtain ⟨v,p,H',J,rv,q⟩:=D;exact O J rv q|next=>obtain ⟨p,H',J,q⟩:=D;exact O (v:=V.ie) J rfl q|brk=>have⟨_,_,_,q⟩:=D;simp_all|cont=>obtain ⟨_,_,_,q⟩:=D;exact eK q
section
variable {X:Cx}{x:Str}{p pos:Pos}{e:Expr}{es:List Expr}{t:TA}{id T:String}{r:List V->Hp->VK->Prop}
def tCB(r:List V->Hp->VK->Prop)(t:TA):TE:=λσ H Q=>t σ H λvs a=>r vs a Q
def mX(k:jc X (.builtin id) r)(i:Gl X x)(m:X.mg x=none)(q:iq x=some (.builtin id))(l:PA X (e::es) t)(u:x≠"__name__" :=by decide)(f:qq9 x:=by decide) (y:aH (e::es) X.env=(false,cq e X.env)::aH es X.env:=by rfl) (d:(dU pos (aH es X.env)).any (·.1)=false:=by rfl):PE X (.Call (.Name x p) (e::es) [] pos) (tCB r t):=by intro π s σ H Q I h;refine gb (oQ I i m q ?_ u f);exact YB (fS (l pos π s σ H _ I h) λus n ⟨vs,o,w,v,j⟩=>k π n σ o vs us Q w v j) y d
def qc(k:jc X (.type T) r)(i:Gl X x)(m:X.mg x=none)(q:iq x=some (.type T))(l:PA X (e::es) t)(u:x≠"__name__" :=by decide)(f:qq9 x:=by decide) (y:aH (e::es) X.env=(false,cq e X.env)::aH es X.env:=by rfl) (d:(dU pos (aH es X.env)).any (·.1)=false:=by rfl):PE X (.Call (.Name x p) (e::es) [] pos) (tCB r t):=by intro π s σ H Q I h;refine gb (oQ I i m q ?_ u f);exact d4 (fS (l pos π s σ H _ I h) λus n ⟨vs,o,w,v,j⟩=>k π n σ o vs us Q w v j) y d
end
end L2
namespace HT
open PySem PyProof.Rows
section
variable {prog:Program}{w:World}{A:Around}{E:Value->Shared->Prop}{s:Shared}
def xS(n d:Nat):Option Int->Nat|none=>d|some v=>if v<0 then(v+(n:Int)).toNat else min v.toNat n
def wF(n d):xS n d none=d:=rfl
def ve(n d k:Nat):xS n d (some (k:Int))=min k n:=by show(if(k:Int)<0 then((k:Int)+(n:Int)).toNat else min (k:Int).toNat n)=min k n;grind
end
end HT
namespace L2
open PySem PySem.Spec PyProof.Rows
abbrev TO:=St->Hp->(Option Int->Hp->Prop)->Prop
def PO(X:Cx)(e:Option Expr)(t:TO):Prop:=∀(π:List (aE×Obj)) (s:Shared) (σ:St) (H:Hp) (Q:Option Int->Hp->Prop),IM X π σ H s->t σ H Q->aK (aT X.prog X.w) X.A (C0 e X.env) (λu a=>∃o H',IM X π σ H' a/\IsPart u o/\Q o H') X.xe s
def O8:TO:=λ_ H Q=>Q none H
def Xc(t:TE):TO:=λσ H Q=>t σ H λx a=>∃i,x=.int i/\Q (some i) a
section
variable {X:Cx}{e:Expr}{te:TE}{lo hi:Option Expr}{tl th:TO}{pos p2:Pos}
def OH:PO X none O8:=by intro π s σ H Q I h;exact aq ⟨none,H,I,.none,h⟩
def OW(h:PE X e te):PO X (some e) (Xc te):=by intro π s σ H Q I g;refine fS (h π s σ H _ I g) λu m zz=>?_;obtain⟨x,j,k,f,l⟩:=zz;obtain⟨i,rfl,q⟩:=l;obtain⟨t,rfl⟩:=f;exact⟨some i,j,k,.int i t,q⟩
def SlR(X:Cx)(r:V->Option Int->Option Int->Hp->VK->Prop):Prop:=∀(π:List (aE×Obj)) (s:Shared) (σ:St) (H:Hp) (x:V) (v a c:Value) (lo hi:Option Int) (b:aE) (Q:VK),IM X π σ H s->Sk x v->s.heap.IsSliceOf b a c .none->IsPart a lo->IsPart c hi->r x lo hi H Q->∃T id,RA (.type T) "__getitem__" =pure (some (.builtin id))/\s.TypeIs v T/\aK (aT X.prog X.w) X.A (Jv v (.ref b)) (EP X π σ Q) X.xe s
def tSl(r:V->Option Int->Option Int->Hp->VK->Prop)(te:TE)(tl th:TO):TE:=λσ H Q=>te σ H λx b=>tl σ b λl a=>th σ a λu c=>r x l u c Q
def LJ(w:SlR X r)(M:PE X e te)(L:PO X lo tl)(R:PO X hi th):PE X (.Subscript e (.Slice lo hi none p2) pos) (tSl r te tl th):=by intro π s σ H Q I h;refine vk (fS (M π s σ H _ I h) λv A zz=>?_);obtain⟨x,p,G,D,O⟩:=zz;refine wpAny_Slice (fS (L π A σ p _ G O) λn J ⟨l,S,y,pl,t⟩=>fS (R π J σ S _ y t) λj g ⟨u,o,F,z,N⟩=>?_);refine aq ?_;have B:IM X π σ o {g with heap:=g.heap.push {cls:=.type "slice",data:=.fields #[n,j,.none]}}:=F.kept λb U q=>ae _ q;obtain ⟨T,id,C,E,P⟩:=w π {g with heap:=g.heap.push {cls:=.type "slice",data:=.fields #[n,j,.none]}} σ o x v n j l u g.heap.objs.size Q B D (UL ..) pl z N;exact tail_any E C P (by with_unfolding_all rfl)
def Hj(xs:List V)(lo hi:Option Int):List V:=(xs.drop (HT.xS xs.length 0 lo)).take (HT.xS xs.length xs.length hi -HT.xS xs.length 0 lo)
def Cg(xs)(lo hi):(Hj xs lo hi).length<=xs.length:=by unfold Hj;rw[kh,cX];exact Nat.le_trans (Nat.min_le_right ..) (Nat.sub_le ..)
end
def Fi(n:Nat)(i:Int):Option Nat:=if 0<=i then(if i<n then some i.toNat else none) else if -(n:Int)<=i then some (i+n).toNat else none
def yB{a:Type}(xs:List a)(i:Int):Option a:=(Fi xs.length i).bind λj=>xs[j]?
theorem Gg(h:Fi n i=some j):VF i n=some j/\j<n/\ -(n:Int)<=i/\i<n:=by unfold Fi at h;by_cases f:0<=i;{rw[au f] at h;by_cases e:i<n;{rw[au e] at h;grind [bA,Ni]};simp_all};.rw[ax f] at h;by_cases e: -(n:Int)<=i;{rw[au e] at h;grind [bA,Jw]};simp_all
def Fv(h:yB xs i=some v):∃j,VF i xs.length=some j/\xs[j]?=some v/\j<xs.length/\ -(xs.length:Int)<=i/\i<xs.length:=by grind [yB,Fi,Gg]
def vc(b:Expr):Prop:=∀o i,Ap b false o i=operate [o,i] (Jv o i)
def XO(X:Cx)(r:R2):Prop:=∀(b a:Expr) (π:List (aE×Obj)) (s:Shared) (σ:St) (H:Hp) (x y:V) (v u:Value) (Q:VK),IM X π σ H s->Sk x v->Sk y u->r x y H Q->Ap a false v u=operate [v,u] (Jv v u)->aK (aT X.prog X.w) X.A (subscriptTail b a v u) (EP X π σ Q) X.xe s
def Vv(X:Cx)(id:String)(r:V->List V->Hp->VK->Prop):Prop:=∀(π:List (aE×Obj)) (s:Shared) (σ:St) (H:Hp) (x:V) (xs:List V) (v:Value) (us:List Value) (Q:VK),IM X π σ H s->Sk x v->cu xs us->r x xs H Q->aK (aT X.prog X.w) X.A (call (.builtin id) (v::us)) (EP X π σ Q) X.xe s
section
variable {X:Cx}{a b:Expr}{ta tb:TE}{pos:Pos}
def Q4(g:XO X r)(j:PE X a ta)(m:PE X b tb)(i:vc b):PE X (.Subscript a b pos) (Y8 r ta tb):=by intro π s σ H Q I h;exact vk (RJ j m I h λv u n x y l f k e q=>g a b π n σ l x y v u Q f k e q (i _ _))
def aav(K:ah):R2:=λx y H Q=>∃p xs i v,x=.ref p/\y=.int i/\nj K H p xs/\yB xs i=some v/\Q v H
def aao(K:ah):R2:=λx y H Q=>∃p xs i v,x=.ref p/\y=.int i/\qR K H p xs/\yB xs i=some v/\Q v H
def Fj:XO X (aav X.K):=by intro value slice π s σ H x y v u Q I J F h A;obtain⟨p,xs,i,z,rfl,rfl,B,D,q⟩:=h;subst J;obtain⟨t,rfl⟩:=F;obtain⟨its,r,pl,hz⟩:=I.list B;obtain⟨j,S,G,P,O,T⟩:=Fv D;obtain ⟨w,M,rw'⟩:=r.get G;have N:=r.length;have L:=zy;have g:EP X π σ Q w s:=⟨z,H,I,rw',q⟩;by_cases C:0<=i;{have E:i.toNat=j:=by{grind [Ni,bA]};exact item_listR pl.isList C (by lia) Eg g A};.have E:(i+(its.toArray.size:Int)).toNat=j:=by{grind [Jw,bx,bA]};exact qF (x:=w) pl.isList.typeIs UM.lookup (wpAny_getItem_list_neg pl.isList Eg (by rw[bx]<;>simp_all) (by lia) Eg ⟨rfl,g⟩) A
def Uo:XO X (aao X.K):=by intro l d π s σ H x y v u Q I D B h A;obtain⟨p,xs,i,z,rfl,rfl,n,o,q⟩:=h;subst D;obtain⟨t,rfl⟩:=B;obtain ⟨its,r,pl,hz⟩:=I.tuple n;have⟨j,L,C,J,G,M⟩:=Fv o;obtain ⟨w,E,m⟩:=r.get C;have F:=r.length;have N:=zy;have k:EP X π σ Q w s:=⟨z,H,I,m,q⟩;exact qF pl.typeIs RB.lookup (getItem_tuple (j:=j) pl (by omega) (by lia) Eg (by grind) ⟨rfl,k⟩) A
def DF(its:List Value)(n j)(u):jl (·.setIfInBounds j u) {cls:=.type "list",data:=.seq its.toArray n}={cls:=.type "list",data:=.seq (its.set j u).toArray n}:=by simp[jl]
theorem IM.lst{σ:St}{H}{s}{p}{xs}(I:IM X π σ H s)(h:H p=some (.lst xs)):∃(its:List Value) (n:Nat),cu xs its/\s.heap.get? p=some {cls:=.type "list",data:=.seq its.toArray n}/\xs.length<=aG:=by obtain ⟨z,its,n,r,e⟩:=I.fR p _ h;grind
def IM.TU{σ:St}{H}{s}{p}{xs ys}{its its':List Value}{n g}{f}(I:IM X π σ H s)(h:H p=some (.lst xs)) (v:s.heap.get? p=some {cls:=.type "list",data:=.seq its.toArray n}) (l:f {cls:=.type "list",data:=.seq its.toArray n}={cls:=.type "list",data:=.seq its'.toArray g}) (r:cu ys its') (hz:ys.length<=aG) (t):IM X π σ (IZ H p (.lst ys)) {s with heap:=s.heap.update p f,toks:=t}:=by have e:(s.heap.update p f).get? p=some {cls:=.type "list",data:=.seq its'.toArray g}:=by{rw[d6 f v (by rw[l]<;>rfl),l]};refine I.write (by rw[h];trivial) (.inl rfl) (λb u o q=>(a9 _ _ (dQ o)).trans q) ⟨_,e⟩ ?_;exact⟨hz,its',g,r,e⟩
def Yc:V->V->V->Hp->(Hp->Prop)->Prop:=λo i v H Q=>∃p xs k j,o=.ref p/\i=.int k/\H p=some (.lst xs)/\Fi xs.length k=some j/\Q (IZ H p (.lst (xs.set j v)))
def set_list:Wk X Yc:=by intro π s σ H o i v ov iv u Q I ro ri rv h;obtain⟨p,xs,k,j,rfl,rfl,hp,hj,q⟩:=h;subst ro;obtain⟨t,rfl⟩:=ri;obtain⟨its,n,r,ho,hz⟩:=I.lst hp;obtain⟨h1,h2,h3,h4⟩:=Gg hj;have hl:=r.length;have hn:=zy;have I':=I.TU hp ho (DF its n j u) (r.set rv j) Eg s.toks;by_cases h0:0<=k;{have hk:k.toNat=j:=by{rw[Ni h0 h4] at h1;exact bA h1};exact PySem.W.ki_setAt ho h0 (by lia) (by rw[bx,<-hl];exact h4) (by rw[hk];exact⟨_,I',q⟩)};have hk:(k+(its.toArray.size:Int)).toNat=j:=by{rw[Jw (by omega) h3] at h1;rw[bx,<-hl];exact bA h1};exact PySem.W.ki_setBack ho (by omega) (by rw[bx,<-hl];exact h3) (by omega) (by rw[hk];exact⟨_,I',q⟩)
def zT(lo hi)(n):(oo lo hi none n).1=((HT.xS n 0 lo:Nat):Int)/\(oo lo hi none n).2.1=((HT.xS n n hi:Nat):Int)/\(oo lo hi none n).2.2=1:=by refine⟨?_,?_,rfl⟩;{cases lo with|none=>rfl|some i=>simp only[oo,HT.xS,Jd,show(1:Int)>0 by decide,sG];by_cases h:i<0;{simp only[h,sG]<;>omega};.simp only[h,AG]<;>omega};.cases hi with|none=>rfl|some i=>simp only[oo,HT.xS,Jd,show(1:Int)>0 by decide,sG];by_cases h:i<0;{simp only[h,sG]<;>omega};.simp only[h,AG]<;>omega
def xO(its:List Value)(lo hi):slicePick its.toArray lo hi none=((its.drop (HT.xS its.length 0 lo)).take (HT.xS its.length its.length hi -HT.xS its.length 0 lo)).toArray:=by obtain ⟨f,e,d⟩:=zT lo hi its.toArray.size;unfold slicePick;rw[f,e,d];simp only[sliceRange_one,pick_run]<;>rfl
def ZK(K:ah):V->Option Int->Option Int->Hp->VK->Prop:=λx lo hi H Q=>∃a xs,x=.ref a/\nj K H a xs/\∀p,H p=none->Q (.ref p) (IZ H p (.lst (Hj xs lo hi)))
def P9:SlR X (ZK X.K):=by intro π s σ H x v vl vu lo hi sl Q I rx hs pl pu h;obtain⟨a,xs,rfl,hx,q⟩:=h;subst rx;obtain⟨its,r,ht,hz⟩:=I.list hx;have hlen:=r.length;refine⟨"list",_,UM.lookup,ht.isList.typeIs,?_⟩;refine wpAny_getItem_list_slice ht.isList hs pl pu .none (by simp) ?_ (by rw[bx]<;>simp_all);rw[xO,<-hlen];refine⟨.ref s.heap.objs.size,_,I.laid (t':=s.toks) (o:=.lst (Hj xs lo hi)) (λb ob q=>ae _ q) (aB _) ?_,rfl,q _ (I.fR.fresh (aB _))⟩;exact⟨aM (Cg xs lo hi) hz,_,0,(r.drop (HT.xS xs.length 0 lo)).take (HT.xS xs.length xs.length hi -HT.xS xs.length 0 lo),ay _ rfl⟩
def n8:V->Bool|.ie=>true|.bl _=>true|.int _=>true|.str _=>true|_=>false
def M3:V->V->Bool|.ie,.ie=>true|.bl a,.bl b=>a==b|.bl a,.int b=>(if a then 1 else 0)==b|.int a,.bl b=>a==(if b then 1 else 0)|.int a,.int b=>a==b|.str a,.str b=>a==b|_,_=>false
def RY{A:Around}{s:Shared}{y x:V}{u v:Value}(ry:Sk y u)(rx:Sk x v)(fy:n8 y=true)(fx:n8 x=true):VG A s u v (M3 y x):=by
 cases y with
  |ie=>cases ry;cases x with|ie=>subst rx;exact SeqAt.EqAt.same _|bl b=>subst rx;exact SeqAt.EqAt.none_bool b|int b=>obtain⟨t,rfl⟩:=rx;exact SeqAt.EqAt.none_int b t|str b=>obtain⟨t,rfl⟩:=rx;exact SeqAt.EqAt.none_str b t|_=>exact absurd (show false=true from fx) c9
  |bl a=>subst ry;cases x with|ie=>cases rx;exact SeqAt.EqAt.bool_none a|bl b=>subst rx;exact SeqAt.EqAt.bool_bool a b|int b=>obtain⟨t,rfl⟩:=rx;exact SeqAt.EqAt.bool_int a b t|str b=>obtain⟨t,rfl⟩:=rx;exact SeqAt.EqAt.bool_str a b t|_=>exact absurd (show false=true from fx) c9
  |int a=>obtain⟨t',rfl⟩:=ry;cases x with|ie=>subst rx;exact SeqAt.EqAt.int_none a t'|bl b=>subst rx;exact SeqAt.EqAt.int_bool a t' b|int b=>obtain⟨t,rfl⟩:=rx;exact SeqAt.EqAt.int_int a t' b t|str b=>obtain⟨t,rfl⟩:=rx;exact Al a t' b t|_=>exact absurd (show false=true from fx) c9
  |str a=>obtain⟨t',rfl⟩:=ry;cases x with|ie=>cases rx;exact SeqAt.EqAt.str_none a t'|bl b=>subst rx;exact SeqAt.EqAt.str_bool a t' b|int b=>obtain⟨t,rfl⟩:=rx;exact Am a t' b t|str b=>obtain⟨t,rfl⟩:=rx;exact SeqAt.EqAt.str_str a t' b t|_=>exact absurd (show false=true from fx) c9
  |_=>exact absurd (show false=true from fy) c9
def M9(x:V)(u:Value):Bool:=match u with|.none=>M3 .ie x|.bool b=>M3 (.bl b) x|.int i _=>M3 (.int i) x|.str z _=>M3 (.str z) x|_=>false
theorem zO{x y:V}{u:Value}(r:Sk y u)(f:n8 y=true):M9 x u=M3 y x:=by cases y with|ie=>subst r;rfl|bl b=>subst r;rfl|int i=>obtain⟨t,rfl⟩:=r;rfl|str z=>obtain⟨t,rfl⟩:=r;rfl|_=>exact absurd (show false=true from f) c9
theorem zb{x:V}:∀{xs:List V} {us:List Value},cu xs us->xs.all n8=true->us.any (M9 x)=xs.any λy=>M3 y x|_,_,.nil,_=>rfl|y::xs,u::us,.cons r t,f=>by rw[eS,aa] at f;rw[rq,rq,zO r f.1,zb t f.2]
theorem rV{A:Around}{s:Shared}{x:V}{v:Value}(rx:Sk x v)(fx:n8 x=true):∀{xs:List V} {us:List Value},cu xs us->xs.all n8=true->∀u∈us,VG A s u v (M9 x u)|_,_,.nil,_=>λu hu=>by cases hu|y::xs,u::us,.cons r t,f=>λu' hu=>by rw[eS,aa] at f;rcases aD.mp hu with rfl|hu;{rw[zO r f.1];exact RY r rx f.1 fx};.exact rV rx fx t f.2 u' hu
def Y5(x:V)(xs:List V):Bool:=xs.any λy=>M3 y x
def rIn(K:ah)(neg:Bool):R2:=λx y H Q=>∃p xs,y=.ref p/\(nj K H p xs\/qR K H p xs)/\n8 x=true/\xs.all n8=true/\Q (.bl (if neg then !Y5 x xs else Y5 x xs)) H
def zz:lQ X (cQ .NotIn) (rIn X.K true):=by intro π s σ H x y v u Q I rx ry h;obtain⟨p,xs,rfl,hq,fx,fs,q⟩:=h;subst ry;rcases hq with hq|hq;{obtain⟨its,r,pl,hz⟩:=I.list hq;refine SeqAt.notIn_listAt (M9 x) pl.isList (λw hw=>rV rx fx r fs w (by simpa using hw)) ⟨.bl _,H,I,rfl,?_⟩;rw[show its.toArray.any (M9 x)=its.any (M9 x) by simp,zb r fs];exact q};.obtain⟨its,r,pl,hz⟩:=I.tuple hq;refine SeqAt.notIn_tupleAt (M9 x) pl (λw hw=>rV rx fx r fs w (by simpa using hw)) ⟨.bl _,H,I,rfl,?_⟩;rw[show its.toArray.any (M9 x)=its.any (M9 x) by simp,zb r fs];exact q
def kR:jc X (.builtin "len") (λxs H Q=>∃p ys,xs=[.ref p]/\(nj X.K H p ys\/qR X.K H p ys)/\Q (.int ys.length) H):=by intro π s σ H xs us Q I r h;obtain⟨p,ys,rfl,hq,q⟩:=h;obtain⟨u,rfl,rx⟩:=vals1 r;subst rx;have hn:=zy;rcases hq with hq|hq;{obtain⟨its,r',pl,hz⟩:=I.list hq;have hlen:=r'.length;exact Calls.call_len_list pl.isList (by simp only[bx]<;>omega) ⟨.int ys.length,H,I.tok _,⟨s.toks+1,by rw[bx,hlen]⟩,q⟩};.obtain⟨its,r',pl,hz⟩:=I.tuple hq;have hlen:=r'.length;exact len_tuple pl (by simp only[bx]<;>omega) ⟨.int ys.length,H,I.tok _,⟨s.toks+1,by rw[bx,hlen]⟩,q⟩
def zY:jc X (.type "list") (λxs H Q=>∃p ys,xs=[.ref p]/\(nj X.K H p ys\/qR X.K H p ys)/\∀l,H l=none->Q (.ref l) (IZ H l (.lst ys))):=by intro π s σ H xs us Q I r h;obtain⟨p,ys,rfl,hq,q⟩:=h;obtain⟨u,rfl,rx⟩:=vals1 r;subst rx;have fin:∀(its:List Value),cu ys its->ys.length<=aG->∀(h':Heap) (c':Nat),(∀b o',s.heap.get? b=some o'->h'.get? b=some o')->h'.get? s.heap.objs.size=some {cls:=.type "list",dict:=none,data:=.seq its.toArray c',slots:=#[]}->EP X π σ Q (.ref s.heap.objs.size) {s with heap:=h'}:=λits r' hz h' c' kp e=>⟨.ref s.heap.objs.size,_,I.laid (t':=s.toks) kp (aB _) (show gB X.prog X.w _ h' _ (.lst ys) from⟨hz,its,c',r',e⟩),rfl,q _ (I.fR.fresh (aB _))⟩;rcases hq with hq|hq;{obtain⟨its,r',pl,hz⟩:=I.list hq;have hlen:=r'.length;obtain⟨o,ho,hc,n,hd⟩:=pl.isList;exact call_list_seq p (.inl rfl) ho hc hd (λh' c' kp e=>fin its r' hz h' c' kp e) (by simp only[bx]<;>omega)};.obtain⟨its,r',pl,hz⟩:=I.tuple hq;have hlen:=r'.length;obtain⟨o,ho,hc,n,hd⟩:=pl;exact call_list_seq p (.inr rfl) ho hc hd (λh' c' kp e=>fin its r' hz h' c' kp e) (by simp only[bx]<;>omega)
def tyV(K:ah)(T:String)(x:V)(H:Hp):Prop:=match x with|.str _=>T="str"|.int _=>T="int"|.ref p=>(T="list" /\∃xs,nj K H p xs)\/(T="tuple" /\∃o,K.lookup p=some o/\o.cls=.type "tuple" /\o.dict=none)\/(T="dict" /\((∃kvs,H p=some (.dK kvs))\/∃kvs,H p=some (.dT kvs)))\/(T="set" /\∃S n,H p=some (.set S n))|_=>False
def J2{π:List (aE×Obj)}{σ:St}{H:Hp}{s:Shared}{T:String}{x:V}{v:Value}(I:IM X π σ H s)(r:Sk x v)(ty:tyV X.K T x H):s.TypeIs v T/\∀a,v=.ref a->∃ob,s.heap.get? a=some ob/\ob.dict=none:=by
 cases x with
  |str z=>obtain⟨t,rfl⟩:=r;cases(show T="str" from ty);exact⟨typeIs_str s z t,λ_ e=>nomatch e⟩
  |int i=>obtain⟨t,rfl⟩:=r;cases(show T="int" from ty);exact⟨typeIs_int s i t,λ_ e=>nomatch e⟩
  |ref p=>subst r;rcases ty with⟨rfl,xs,hq⟩|⟨rfl,o,hk,hc,hd⟩|⟨rfl,hk⟩|⟨rfl,S,n,hk⟩;{obtain⟨its,_,pl,_⟩:=I.list hq;refine⟨pl.isList.typeIs,λa e=>?_⟩;cases e;obtain⟨o,n,e,c,hd,_⟩:=pl;exact⟨o,e,hd⟩};{refine⟨⟨o,I.Ae p o hk,hc⟩,λa e=>?_⟩;cases e;exact⟨o,I.Ae _ o hk,hd⟩};{have z:∃o,s.heap.get? p=some o/\o.ExactDict:=by{rcases hk with⟨kvs,hk⟩|⟨kvs,hk⟩;{obtain⟨_,_,_,_,o,_,_,e,ex,_⟩:=I.fR p _ hk;exact⟨o,e,ex⟩};.obtain⟨_,_,_,_,o,_,_,e,ex,_⟩:=I.fR p _ hk;exact⟨o,e,ex⟩};obtain⟨o,e,ex⟩:=z;refine⟨⟨o,e,ex.1⟩,λa e2=>?_⟩;cases e2;exact⟨o,e,ex.2.1⟩};.obtain⟨o,_,_,_,e,ex,_⟩:=I.fR p _ hk;refine⟨⟨o,e,ex.1⟩,λa e2=>?_⟩;cases e2;exact⟨o,e,ex.2.1⟩
  |_=>exact eK ty
def ZQ(K:ah)(T:String)(r:V->List V->Hp->VK->Prop)(to:TE):TE:=λσ H Q=>to σ H λx H1=>tyV K T x H1/\r x [] H1 Q
def tBM(K:ah)(T:String)(r:V->List V->Hp->VK->Prop)(to:TE)(t:TA):TE:=λσ H Q=>to σ H λx H1=>tyV K T x H1/\t σ H1 λxs H2=>r x xs H2 Q
variable {o e:Expr}{es:List Expr}{to:TE}{t:TA}{name:Str}{apos cpos:Pos}{T id:String}{r:V->List V->Hp->VK->Prop}
def Uu(pa:PlainAttrs T)(slot:Slot T name id)(hty:typeOf (.builtin id)=pure (.type "method_descriptor"))(hm:Vv X id r)(ho:PE X o to) (hbase:fV o name X.env (cq o X.env)=cq o X.env:=by rfl) (hline:(apos.endLine==cpos.line)=true:=by rfl):PE X (.Call (.Attribute o name apos) [] [] cpos) (ZQ X.K T r to):=by intro π s σ H Q I h;refine wpAny_Call_method0_late hbase hline (fS (ho π s σ H _ I h) λv s1 zz=>?_);obtain⟨x,H1,I1,r1,ty,q1⟩:=zz;obtain⟨h1,h2⟩:=J2 I1 r1 ty;exact⟨T,id,pa,slot,hty,h1,h2,og rfl (PySem.evalArgs_none (hm π s1 σ H1 x [] v [] Q I1 r1 .nil q1))⟩
def JD(pa:PlainAttrs T)(slot:Slot T name id)(hty:typeOf (.builtin id)=pure (.type "method_descriptor"))(hm:Vv X id r)(ho:PE X o to)(ha:PA X (e::es) t) (hbase:fV o name X.env (cq o X.env)=cq o X.env:=by rfl) (hfew:((dU cpos (aH (e::es) X.env)).all (λx=>!x.1)&&(gT cpos (eA [] X.env)).all (λx=>x.1.isSome)&&decide ((e::es).length+([]:List Keyword).length+(if([]:List Keyword).isEmpty then 0 else 1)<30))=true:=by rfl) (hline:(apos.endLine==cpos.line)=true:=by rfl) (hs:aH (e::es) X.env=(false,cq e X.env)::aH es X.env:=by rfl) (hplain:(dU cpos (aH es X.env)).any (·.1)=false:=by rfl):PE X (.Call (.Attribute o name apos) (e::es) [] cpos) (tBM X.K T r to t):=by intro π s σ H Q I h;refine wpAny_Call_method_late hbase hfew hline rfl (fS (ho π s σ H _ I h) λv s1 zz=>?_);obtain⟨x,H1,I1,r1,ty,q1⟩:=zz;obtain⟨h1,h2⟩:=J2 I1 r1 ty;refine⟨T,id,pa,slot,hty,h1,h2,?_⟩;have hA:=ha cpos π s1 σ H1 _ I1 q1;rw[hs] at hA⊢;refine og (by show(false||(dU cpos (aH es X.env)).any (·.1))=false;rw[hplain]<;>rfl) (C2 ?_);exact fS hA λus s2 ⟨vs,H2,I2,r2,q2⟩=>hm π s2 σ H2 x vs v us Q I2 r1 r2 q2
end
def MtM(X:Cx)(id:String)(r:V->List V->Hp->VK->Prop):Prop:=∀(π:List (aE×Obj)) (s:Shared) (σ:St) (H:Hp) (x:V) (xs:List V) (v:Value) (us:List Value) (Q:VK),IM X π σ H s->Sk x v->cu xs us->r x xs H Q->aK (aT X.prog X.w) X.A (call (.builtin id) (v::us)) (EP X π σ Q) X.xe s
def cu.one{x}{us}(h:cu [x] us):∃u,us=[u]/\Sk x u:=by cases h with|cons r t=>cases t;exact⟨_,rfl,r⟩
section
variable {X:Cx}{π:List (aE×Obj)}{σ:St}{H:Hp}{s:Shared}{l b:aE}{xs ys zs:List V}
def IM.RM{its its':List Value}{n}{f}{t'}(I:IM X π σ H s)(j:H l=some (.lst xs)) (e:s.heap.get? l=some {cls:=.type "list",data:=.seq its.toArray n}) (p:f its.toArray=its'.toArray) (i:cu ys its') (hz:ys.length<=aG):IM X π σ (IZ H l (.lst ys)) {s with heap:=s.heap.update l (jl f),toks:=t'}:=by have q:=PySem.IsL.update e f;rw[p] at q;refine I.write (by rw[j];exact trivial) (.inl rfl) (λt u k o=>(a9 s.heap (jl f) (dQ k)).trans o) ⟨_,q⟩ ?_;exact⟨hz,its',_,i,q⟩
def IM.ZG(I:IM X π σ H s)(e:cu ys its)(hz:ys.length<=aG):IM X π σ (IZ H s.heap.objs.size (.lst ys)) {s with heap:=s.heap.push {cls:=.type "list",data:=.seq its.toArray},toks:=t'}:=I.laid (λ_ _ q=>ae _ q) (aB _) ⟨hz,its,0,e,ay _ rfl⟩
theorem IM.fresh(I:IM X π σ H s):H s.heap.objs.size=none:=I.fR.fresh (aB _)
def IM.VZ(I:IM X π σ H s)(c:H l=some (.lst xs)):xs.length<=aG/\∃(its:List Value) (n:Nat),cu xs its/\xs.length=its.length/\s.heap.get? l=some {cls:=.type "list",data:=.seq its.toArray n}:=by obtain ⟨z,its,n,r,e⟩:=I.fR l _ c;exact⟨z,its,n,r,r.length,e⟩
def BJ(h:n<=aG):fL n=false:=by simp_all [fL,decide_eq_false]
end
section
variable {X:Cx}
def NT:V->List V->Hp->VK->Prop:=λx vs H Q=>∃l xs y,x=.ref l/\vs=[y]/\H l=some (.lst xs)/\xs.length<aG/\Q .ie (IZ H l (.lst (xs++[y])))
def IS:MtM X "list.append" NT:=by intro π s σ H x vs v us Q I o p h;obtain⟨l,xs,y,rfl,rfl,hH,hz,q⟩:=h;subst o;obtain⟨u,rfl,m⟩:=p.one;obtain ⟨z,its,n,r,t,e⟩:=I.VZ hH;refine C3 C4 ⟨_,e,rfl⟩ F.entry_list_append (F.args_list_append_2 _ _) (PySem.list_append l its.toArray n u Eg) ⟨e,?_⟩;refine⟨.ie,_,I.RM (its':=its++[u]) hH e (by simp) (r.append (.cons m .nil)) ?_,rfl,q⟩;grind
end
theorem cu.ints:∀{ns} {us},cu (ns.map V.int) us->IntsAre us ns|[],us,h=>by cases h;exact IntsAre.nil|n::ns,us,h=>by cases h with|cons r t=>obtain⟨k,rfl⟩:=r;exact IntsAre.cons n k (cu.ints t)
theorem sx:∀{us} {ns},IntsAre us ns->cu (ns.map V.int) us|_,_,.nil=>Paired.nil|_,_,.cons n t h=>Paired.cons (show Sk (V.int n) (Value.int n t) from⟨t,rfl⟩) (sx h)
theorem cu.PR:∀{c:List Bool} {us},cu (c.map V.bl) us->us=c.map Value.bool|[],us,h=>by cases h;rfl|b::c,us,h=>by cases h with|cons r t=>subst r;rw[cu.PR t,aX]
def cu.qW(r:cu [V.ref a] us):us=[Value.ref a]:=by cases r with|cons r t=>cases t;subst r;rfl
section
variable {prog:Program}{w:World}{A:Around}{E:Value->Shared->Prop}{s:Shared}{l:aE}{its:List Value}{ns:List Int}{Q:Value->Shared->Prop}
def OI(m:A.handled=none)(k:s.heap.IsList l its.toArray)(hi:IntsAre its ns) (h:∀h' tk t',(∀b o,s.heap.get? b=some o->h'.get? b=some o)->Q (.int ns.sum t') {s with heap:=h',toks:=tk}):aK (aT prog w) A (call (.builtin "sum") [.ref l]) Q E s:=by obtain ⟨xs,e⟩:=hi.allInts.items;have i:Zr (nu xs).toList=ns:=by{rw[<-e];exact hi.numsOf};grind [uY,PySem.sum_intListG,preSum_eq,jE]
def OS(C:A.handled=none)(x:s.heap.IsList l its.toArray)(hi:IntsAre its ns)(p:0<ns.length) (h:∀h' tk M t',(∀b o,s.heap.get? b=some o->h'.get? b=some o)->M∈ns->(∀a,a∈ns->a<=M)->Q (.int M t') {s with heap:=h',toks:=tk}):aK (aT prog w) A (call (.builtin "max") [.ref l]) Q E s:=by obtain ⟨xs,e⟩:=hi.allInts.items;have u:Zr (nu xs).toList=ns:=by{rw[<-e];exact hi.numsOf};rw[uY] at u;subst u;rw[e] at x;have hsz:=by{simpa using p};refine PySem.max_intList C x hsz λv h' tk G B=>?_;obtain⟨t,rfl⟩:=Aq G;obtain⟨H,D⟩:=argBest_gt (UN xs) (xs.size -1);refine h h' tk _ t B ?_ λa z=>?_;{grind [xu,ju,ak,br]};.obtain⟨j,F,rfl⟩:=C5 z;rw[ak,br] at F;rw[<-xu];exact D j (by grind)
def O3(C:A.handled=none)(x:s.heap.IsList l its.toArray)(hi:IntsAre its ns)(p:0<ns.length) (h:∀h' tk M t',(∀b o,s.heap.get? b=some o->h'.get? b=some o)->M∈ns->(∀a,a∈ns->M<=a)->Q (.int M t') {s with heap:=h',toks:=tk}):aK (aT prog w) A (call (.builtin "min") [.ref l]) Q E s:=by obtain ⟨xs,e⟩:=hi.allInts.items;have u:Zr (nu xs).toList=ns:=by{rw[<-e];exact hi.numsOf};rw[uY] at u;subst u;rw[e] at x;have hsz:=by{simpa using p};refine PySem.min_intList C x hsz λv h' tk G B=>?_;obtain⟨t,rfl⟩:=Aq G;obtain ⟨H,D⟩:=argBest_lt (UN xs) (xs.size -1);refine h h' tk _ t B ?_ λa z=>?_;{rw[xu];exact ju (by grind)};.obtain⟨j,F,rfl⟩:=C5 z;rw[ak,br] at F;rw[<-xu];exact D j (by lia)
end
section
variable {X:Cx}
def ZN(K:ah):List V->Hp->VK->Prop:=λvs H Q=>∃(a:aE) (ns:List Int),vs=[V.ref a]/\nj K H a (ns.map V.int)/\Q (.int ns.sum) H
def aau(K:ah):List V->Hp->VK->Prop:=λvs H Q=>∃(a:aE) (ns:List Int),vs=[V.ref a]/\nj K H a (ns.map V.int)/\0<ns.length/\∀m,m∈ns->(∀y,y∈ns->y<=m)->Q (.int m) H
def abf(K:ah):List V->Hp->VK->Prop:=λvs H Q=>∃(a:aE) (ns:List Int),vs=[V.ref a]/\nj K H a (ns.map V.int)/\0<ns.length/\∀m,m∈ns->(∀y,y∈ns->m<=y)->Q (.int m) H
def Uc(i:X.calm=true):jc X (.builtin "sum") (ZN X.K):=by intro π s σ H vs us Q I r h;obtain⟨a,ns,rfl,e,q⟩:=h;obtain ⟨its,g,f,_⟩:=I.list e;rw[cu.qW r];exact OI (I.ok.hd i) f.isList g.ints λh' tk t' j=>⟨.int _,H,I.kept j,⟨_,rfl⟩,q⟩
def RU(j:X.calm=true):jc X (.builtin "max") (aau X.K):=by intro π s σ H vs us Q I r h;obtain⟨a,ns,rfl,k,d,q⟩:=h;obtain ⟨its,f,i,_⟩:=I.list k;rw[cu.qW r];exact OS (I.ok.hd j) i.isList f.ints d λh' tk m t' g n l=>⟨.int _,H,I.kept g,⟨_,rfl⟩,q m n l⟩
def Ul(j:X.calm=true):jc X (.builtin "min") (abf X.K):=by intro π s σ H vs us Q I r h;obtain⟨a,ns,rfl,k,d,q⟩:=h;obtain ⟨its,f,i,_⟩:=I.list k;rw[cu.qW r];exact O3 (I.ok.hd j) i.isList f.ints d λh' tk m t' g n l=>⟨.int _,H,I.kept g,⟨_,rfl⟩,q m n l⟩
end
section
variable {X:Cx}
def RX(K:ah):V->List V->Hp->VK->Prop:=λx xs H Q=>∃(a:aE) (ys:List V) (y:V) (j:Nat) (z:V),x=V.ref a/\xs=[y]/\nj K H a ys/\n8 y=true/\ys.all n8=true/\ys[j]?=some z/\M3 z y=true/\(∀(m:Nat) (c:V),m<j->ys[m]?=some c->M3 c y=false)/\Q (.int (j:Nat)) H
theorem Gi{ys:List V}(f:ys.all n8=true){j:Nat}{z}(h:ys[j]?=some z):n8 z=true:=aN.mp f z (cx h)
def K0:Vv X "list.index" (RX X.K):=by intro π s σ H x xs v us Q I T rxs h;obtain⟨a,ys,y,j,z,rfl,rfl,hs,W,l,hz,A,hno,q⟩:=h;subst T;cases rxs with|cons Z S=>rename_i uy ut;cases S;obtain ⟨its,o,⟨⟨cls,Y,O,sl⟩,n,N,hc,P,hd⟩,M⟩:=I.list hs;subst hc hd;obtain ⟨u,hu,ru⟩:=o.get hz;obtain ⟨B,hje⟩:=aQ.mp hu;have hvl:=o.length;have hj:=by{simpa using B};have hsl:=sP;refine C3 xX ⟨_,N,rfl⟩ PySem.F.entry_list_index (PySem.F.args_list_index_2 _ _) (SeqAt.list_indexAt a its.toArray n Y sl uy (M9 y) j hj (by omega) ?_ ?_) ⟨N,λR G=>rV Z W o l R (by simpa using G),?_⟩;{have U:its.toArray[j]=u:=by{assumption};rw[U,zO ru (Gi l hz)];exact A};{intro m hm hmj;have E:m<ys.length:=Eg;have D:=ai E;obtain ⟨u2,hu2,ru2⟩:=o.get D;grind [zO,Gi]};.exact⟨.int (j:Nat),H,I.tok _,⟨_,rfl⟩,q⟩
end
def B0{s}{l}{items}{Q}(d:s.heap.IsList l items) (h:∀a:Shared,a={s with heap:=s.heap.push {cls:=.type "list_iterator",data:=.fields #[.ref l,.int 0 0]}}->(a.heap.IsListIter s.heap.objs.size l 0/\a.heap.IsList l items)->l≠s.heap.objs.size->Q (.ref s.heap.objs.size) a):aK (aT prog w) A (yT (.ref l)) Q E s:=by have c:l<s.heap.objs.size:=by{obtain ⟨_,e,_⟩:=d;exact aF e};exact oq d (h _ rfl ⟨⟨_,ay _ rfl,rfl,rfl⟩,d.push _⟩ (a7 c))
def ug{g:List Bool}{its}(e:its=g.map Value.bool):TruthOf prog w A (λi v=>its.toArray[i]?=some v) (λi=>g.getD i false):=λi v s Q E h k=>by have a:=by{simpa using h};rw[e,aP] at a;obtain⟨b,l,rfl⟩:=et.mp a;simp_all [ef]
theorem any_range:∀a:List Bool,(aj a.length).any (λi=>a.getD i false)=a.any id|[]=>rfl|b::a=>by rw[aI,ot,rq,ou,rq,<-any_range a];rfl
theorem all_range:∀a:List Bool,(aj a.length).all (λi=>a.getD i false)=a.all id|[]=>rfl|b::a=>by rw[aI,ot,eS,iJ,eS,<-all_range a];rfl
section
variable {X:Cx}
def aaw(K:ah):List V->Hp->VK->Prop:=λvs H Q=>∃(a:aE) (c:List Bool),vs=[V.ref a]/\nj K H a (c.map V.bl)/\Q (.bl (c.any id)) H
def aaa(K:ah):List V->Hp->VK->Prop:=λvs H Q=>∃(a:aE) (c:List Bool),vs=[V.ref a]/\nj K H a (c.map V.bl)/\Q (.bl (c.all id)) H
def Th(z:X.calm=true):jc X (.builtin "any") (aaw X.K):=by intro π s σ H vs us Q I r h;obtain⟨a,C,rfl,u,q⟩:=h;obtain ⟨its,t,x,_⟩:=I.list u;rw[cu.qW r];have n:=t.PR;refine call_any_walk (B0 x.isList λm B st i=>?_);subst B;refine⟨_,_,_,_,_,_,_,rfl,xw (A:=X.A.in1) (I.ok.hd z) _ a i its.toArray,st,ug n,λh' tk w=>?_⟩;refine⟨.bl _,H,I.kept λb o p=>w b o (λd=>?_) (ae _ p),?_,q⟩;{rcases aD.mp d with v|d;{exact absurd (v▸aF p) (fI _)};grind};.show Value.bool _=Value.bool _;rw[<-any_range,n,bx,ak]
def Sf(z:X.calm=true):jc X (.builtin "all") (aaa X.K):=by intro π s σ H vs us Q I r h;obtain⟨a,C,rfl,u,q⟩:=h;obtain ⟨its,t,x,_⟩:=I.list u;rw[cu.qW r];have n:=t.PR;refine call_all_walk (B0 x.isList λm B st i=>?_);subst B;refine⟨_,_,_,_,_,_,_,rfl,xw (A:=X.A.in1) (I.ok.hd z) _ a i its.toArray,st,ug n,λh' tk w=>?_⟩;refine⟨.bl _,H,I.kept λb o p=>w b o (λd=>?_) (ae _ p),?_,q⟩;{rcases aD.mp d with v|d;{exact absurd (v▸aF p) (fI _)};grind};.show Value.bool _=Value.bool _;rw[<-all_range,n,bx,ak]
end
mutual
inductive Dp(K:ah)(H:Hp):V->PyData->Prop
 |ie:Dp K H .ie .none
 |bl (b:Bool):Dp K H (.bl b) (.bool b)
 |int (i:Int):Dp K H (.int i) (.int i)
 |str (x:Str):Dp K H (.str x) (.str x)
 |lst {a:aE} {xs:List V} {ds:List PyData}:nj K H a xs->vx K H xs ds->Dp K H (.ref a) (.list ds)
 |tup {a:aE} {xs:List V} {ds:List PyData}:qR K H a xs->vx K H xs ds->Dp K H (.ref a) (.tuple ds)
inductive vx(K:ah)(H:Hp):List V->List PyData->Prop
 |nil:vx K H [] []
 |cons {v:V} {vs:List V} {d:PyData} {ds:List PyData}:Dp K H v d->vx K H vs ds->vx K H (v::vs) (d::ds)
end
section
variable {X:Cx}{π:List (aE×Obj)}{σ:St}{H:Hp}{s:Shared}
mutual
theorem Dp.reads(I:IM X π σ H s):∀(d:PyData) (v:V) (u:Value),Dp X.K H v d->Sk v u->∃as,Reads s.heap u d as
 |.none,_,_,h,r=>by
  cases h
  cases r
  exact⟨_,Reads.none⟩
 |.bool b,_,_,h,r=>by
  cases h
  cases r
  exact⟨_,Reads.bool b⟩
 |.int i,_,_,h,r=>by
  cases h
  obtain⟨t,rfl⟩:=r
  exact⟨_,Reads.int i t⟩
 |.str x,_,_,h,r=>by
  cases h
  obtain⟨t,rfl⟩:=r
  exact⟨_,Reads.str x t⟩
 |.list ds,_,_,h,r=>by
  cases h with
  |lst hs ha=>
   cases r
   obtain⟨its,rv,⟨o,n,ho,hc,_,hd⟩,_⟩:=I.list hs
   obtain⟨as,hr⟩:=Dp.readsAll I ds _ its ha rv
   exact⟨_,Reads.list ho hc hd hr⟩
 |.tuple ds,_,_,h,r=>by
  cases h with
  |tup hs ha=>
   cases r
   obtain⟨its,rv,⟨o,ho,hc,n,hd⟩,_⟩:=I.tuple hs
   obtain⟨as,hr⟩:=Dp.readsAll I ds _ its ha rv
   exact⟨_,Reads.tuple ho hc hd hr⟩
 |.dict _,_,_,h,_=>by cases h
theorem Dp.readsAll(I:IM X π σ H s):∀(ds:List PyData) (vs:List V) (us:List Value),vx X.K H vs ds->cu vs us->∃as,ReadsAll s.heap us ds as
 |[],_,_,h,r=>by
  cases h
  cases r
  exact⟨_,ReadsAll.nil⟩
 |d::ds,_,_,h,r=>by
  cases h with
  |cons h1 h2=>
   cases r with
   |cons r1 r2=>
    obtain⟨as,q1⟩:=Dp.reads I d _ _ h1 r1
    obtain⟨bs,q2⟩:=Dp.readsAll I ds _ _ h2 r2
    exact⟨_,ReadsAll.cons q1 q2⟩
end
end
section
variable {X:Cx}
def abc(K:ah):R2:=λx y H Q=>∃d e,Dp K H x d/\Dp K H y e/\sR d=true/\sR e=true/\Q (.bl (UO d e)) H
def UC(l:X.A.units+64<cLine):lQ X (cQ .Eq) (abc X.K):=by intro π s σ H x y v u Q I o f h;obtain ⟨d,e,m,k,n,j,q⟩:=h;have⟨r,i⟩:=Dp.reads I d x v m o;have⟨p,g⟩:=Dp.reads I e y u k f;exact SeqAt.compareEq_shaped i g n j l ⟨.bl _,H,I,rfl,q⟩
end
abbrev JH(h:Heap)(c:aE)(v:Option Value):Prop:=h.IsCell c v
def qT(a b:Scope):Scope:={a with names:=a.names.map λ(n,k)=>if(k==.free&&b.kind==.function&&b.names.lookup n==some .cell) then(n,.cell) else(n,k)}
def eN(cells:List (Str×aE)):List (Str×NameKind)->List (Str×aE)->List (Str×aE)|[],acc=>acc|(n,k)::r,acc=>if k==.free then eN cells r ((n,(cells.lookup n).getD 0)::acc) else eN cells r acc
theorem rP(env)(f:Str×NameKind->List (Str×aE)->Sem (ForInStep (List (Str×aE)))) (hf:∀n k c,f (n,k) c=if k==.free then(do let a<-cellOf env n;pure (.yield ((n,a)::c))) else pure (.yield c)):∀(names) (acc),(∀y∈names,y.2=.free->∃c,env.cells.lookup y.1=some c)->forIn names acc f=pure (eN env.cells names acc)|[],acc,_=>by rw[xY];rfl|(n,k)::r,acc,h=>by rw[xg,hf];have ih:=λacc=>rP env f hf r acc λy t=>h y (af _ t);dsimp only[eN];by_cases hk:(k==NameKind.free)=true;{rw[au hk,au hk];obtain⟨c,hc⟩:=h (n,k) ag Eg;have e:cellOf env n=pure c:=by{unfold cellOf;rw[hc]};rw[e];have e2:(env.cells.lookup n).getD 0=c:=by{rw[hc];rfl};rw[e2];exact ih _};.rw[ax hk,ax hk];exact ih _
def wV(h:∀y∈a.names,y.2=.free->∃c,env.cells.lookup y.1=some c):vm a env=pure (eN env.cells a.names []):=by dsimp only[vm];rw[rP env _ (λn k c=>rfl) a.names [] h];rfl
theorem mem_lookup{g:Type}:∀{l:List (Str×g)} {n} {c},(n,c)∈l->∃i,l.lookup n=some i|(k,v)::r,n,c,h=>by rw[nU];cases m:n==k with|true=>exact⟨_,rfl⟩|false=>rcases aD.mp h with e|h;{simp_all};.exact mem_lookup h
theorem l4:∀{names} {acc} {n} {c},(n,c)∈eN cells names acc->(n,c)∈acc\/((n,.free)∈names/\c=(cells.lookup n).getD 0)|[],_,_,_,h=>.inl h|(m,k)::r,acc,n,c,h=>by dsimp only[eN] at h;split at h;{rename_i l;rcases l4 h with h|⟨j,i⟩;{grind};grind};.rcases l4 h with h|⟨j,i⟩;{exact .inl h};.grind
theorem oJ:∀{names} {acc} {p},p∈acc->p∈eN cells names acc|[],_,_,h=>h|(m,k)::r,acc,p,h=>by dsimp only[eN];split;{exact oJ (af _ h)};.exact oJ h
theorem oN:∀{names} {acc} {n},(n,.free)∈names->(n,(cells.lookup n).getD 0)∈eN cells names acc|(m,k)::r,acc,n,h=>by dsimp only[eN];rcases aD.mp h with e|h;{simp_all [oJ]};.split;{exact oN h};.exact oN h
theorem mU:∀{names} {h:Heap} {acc} {x} {c},(x,c)∈dX h.objs.size names acc->(x,c)∈acc\/((x,.cell)∈names/\h.objs.size<=c/\JH (ng h names) c none)|[],_,_,_,_,h=>.inl h|(n,k)::r,h,acc,x,c,d=>by dsimp only[dX] at d;unfold ng;split at d;{rename_i m;rw[au m];have m:k=.cell:=Eg;rw[<-bR h {cls:=.type "cell",data:=.cell none}] at d;rcases mU d with d|⟨t,s,p⟩;{rcases aD.mp d with e|d;{cases e;exact .inr ⟨m▸ag,aB _,_,qZ r _ _ _ (ay _ rfl),rfl⟩};grind};.simp_all [bR,af,uE]};.rcases mU d with d|⟨t,s,p⟩;{simp_all};.simp_all
theorem qe:∀{names} {n} {acc} {p},p∈acc->p∈dX n names acc|[],_,_,_,h=>h|(m,k)::r,n,acc,p,h=>by unfold dX;split;{exact qe (af _ h)};.exact qe h
theorem tI:∀{names} {n} {acc} {x},(x,.cell)∈names->∃c,(x,c)∈dX n names acc|(m,k)::r,n,acc,x,h=>by unfold dX;rcases aD.mp h with e|h;{grind [qe]};.split;{exact tI h};.exact tI h
theorem tL:∀{names} {h:Heap} {acc:List (Str×aE)} {x y} {c},(∀p∈acc,p.2<h.objs.size)->(∀x y c,(x,c)∈acc->(y,c)∈acc->x=y)->(x,c)∈dX h.objs.size names acc->(y,c)∈dX h.objs.size names acc->x=y|[],_,_,_,_,_,_,hi,f,e=>hi _ _ _ f e|(n,k)::r,h,acc,x,y,c,t,hi,f,e=>by unfold dX at f e;split at f;{rename_i o;rw[au o] at e;rw[<-bR h {cls:=.type "cell",data:=.cell none}] at f e;refine tL (λp v=>?_) (λx y c a b=>?_) f e;{rw[bR];grind};.grind};.rename_i o;rw[ax o] at e;exact tL t hi f e
def A0{s}{b}{e}{a}{j}{i}{code}{f}{d}{Q} (h:Q (newEnv b s.heap.objs.size e (dX (s.heap.objs.size+1) b.names a) j i code (some f) d) {s with heap:=ng (s.heap.push {cls:=.type "dict",data:=.dict #[]}) b.names}):aK M A (Zs b e a [] j i code (some f) d) Q E s:=by simp only[Zs,Option.isSome_some,sG];refine ab (wpAny_alloc ?_);refine ab (wpAny_layCells _ (λn k c=>rfl) b.names a _ _ ?_);rw[show({s with heap:=s.heap.push {cls:=.type "dict",data:=.dict #[]}}:Shared).heap.objs.size=s.heap.objs.size+1 from bR ..];exact ab (aq (aq h))
theorem pC{c:Scope}:∀{names:List (Str×NameKind)} {x} {k},(names.map λ(n,k)=>if(k==NameKind.free&&c.kind==.function&&c.names.lookup n==some .cell) then(n,NameKind.cell) else(n,k)).lookup x=some k->∃b,names.lookup x=some b/\(k=b\/(b=.free/\k=.cell))|[],_,_,h=>by simp at h|(n,e)::r,x,k,h=>by have f:=@pC c r x k;grind
theorem jQ{a:Scope}:∀{names:List (Str×NameKind)} {x} {k},k≠.free->names.lookup x=some k->(names.map λ(n,k)=>if(k==NameKind.free&&a.kind==.function&&a.names.lookup n==some .cell) then(n,NameKind.cell) else(n,k)).lookup x=some k|[],_,_,_,h=>by simp at h|(n,d)::r,x,k,e,h=>by have f:=@jQ a r x k e;grind
structure mO(N:List Str)(sc scope:Scope)(own:List (Str×Nat)):Prop where
 kind:scope.kind=.function
 uniq:∀y∈scope.names,scope.names.lookup y.1=some y.2
 ix:∀p∈own,N[p.2]?=some p.1
 free:∀y∈scope.names,y.2=.free->sc.names.lookup y.1=some .cell\/sc.names.lookup y.1=some .free
 own:∀y∈scope.names,y.2=.local\/y.2=.cell->y.1∈own.map (·.1)\/y.1∉N
def wipe(σ:St):List Nat->St|[]=>σ|v::vs=>(wipe σ vs).set v none
theorem i8(σ):∀vs:List Nat,(wipe σ vs).length=σ.length|[]=>rfl|v::vs=>by simp_all [wipe,i8]
theorem tE:∀{vs},(wipe σ vs)[i]?=some (some x)->σ[i]?=some (some x)/\i∉vs|[],h=>⟨h,by simp⟩|v::vs,h=>by dsimp only[wipe] at h;by_cases hi:v=i;{grind};.rw[aU hi] at h;obtain ⟨f,e⟩:=tE h;grind
abbrev Cx.lK(X:Cx)(s:Shared)(H:Hp)(a:Scope)(b:Env)(e:List aE):Cx:={X with yR:=s,X8:=H,env:=b,outer:=X.stack,ex:=e,fn:=λx=>a.names.lookup x==some .cell,pn:=[],xe:=λ_ _=>False}
section
variable {X:Cx}{π:List (aE×Obj)}{σ:St}{H:Hp}{s:Shared}
def Bp(I:IM X π σ H s)(ok:mO X.N X.env.scope scope own)(hN:X.N.Nodup)(hfp:∀b∈fp,uV X π H b/\b<s.heap.objs.size):IM (X.lK s H scope (cJ scope (dX (s.heap.objs.size+1) scope.names (eN X.env.cells scope.names [])) s.heap.objs.size X.env) fp) [] (wipe σ (own.map (·.2))) H {s with heap:=ng (s.heap.push {cls:=.type "dict",data:=.dict #[]}) scope.names}:=by have hfree:∀y∈scope.names,y.2=.free->∃c,X.env.cells.lookup y.1=some c:=λy hy e=>by{rcases ok.free y hy e with k|k;{exact I.ok.has _ (.inl k)};.exact I.ok.has _ (.inr k)};generalize hcenv:cJ scope (dX (s.heap.objs.size+1) scope.names (eN X.env.cells scope.names [])) s.heap.objs.size X.env=cenv;have kp:∀b o,s.heap.get? b=some o->(ng (s.heap.push {cls:=.type "dict",data:=.dict #[]}) scope.names).get? b=some o:=λb o e=>qZ _ _ _ _ (ae _ e);have hL:cenv.locals=s.heap.objs.size:=by{rw[<-hcenv];rfl};have hcl:cenv.cells=dX (s.heap.objs.size+1) scope.names (eN X.env.cells scope.names []):=by{rw[<-hcenv];rfl};have Hs:cenv.scope=qT scope X.env.scope:=by{rw[<-hcenv];rfl};rw[<-bR s.heap {cls:=.type "dict",data:=.dict #[]}] at hcl;have cm:∀{y c},(y,c)∈eN X.env.cells scope.names []->X.env.cells.lookup y=some c/\c<s.heap.objs.size:=λ{y c} hm=>by{rcases l4 hm with hm|⟨h1,rfl⟩;{cases hm};.obtain⟨c,hc⟩:=hfree _ h1 rfl;rw[hc];obtain⟨w,z⟩:=I.cell _ _ hc;exact⟨rfl,z.lt⟩};have mem:∀{y c},cenv.cells.lookup y=some c->(X.env.cells.lookup y=some c/\c<s.heap.objs.size)\/(s.heap.objs.size+1<=c/\JH (ng (s.heap.push {cls:=.type "dict",data:=.dict #[]}) scope.names) c none):=λ{y c} e=>by{rw[hcl] at e;rcases mU (bS e) with hm|⟨_,h2,h3⟩;{exact .inl (cm hm)};.rw[bR] at h2;exact .inr ⟨h2,h3⟩};have look:∀{y},scope.names.lookup y=some .free->∃c,cenv.cells.lookup y=some c/\X.env.cells.lookup y=some c:=λ{y} hl=>by{have hy:(y,NameKind.free)∈scope.names:=bS hl;obtain ⟨c',e'⟩:=mem_lookup (qe (names:=scope.names) (n:=(s.heap.push {cls:=.type "dict",data:=.dict #[]}).objs.size) (oN (cells:=X.env.cells) (acc:=[]) hy));rw[<-hcl] at e';refine⟨c',e',?_⟩;rw[hcl] at e';rcases mU (bS e') with hm|⟨h1,_,_⟩;{exact(cm hm).1};.have:=ok.uniq _ h1;rw[hl] at this;cases this};have CP:(X.lK s H scope cenv fp).Ok:=by{refine⟨I.ok.mod,by show cenv.scope.kind=_;rw[Hs];exact ok.kind,by show cenv.globals=_;rw[<-hcenv];exact I.ok.glob,by show cenv.builtins=_;rw[<-hcenv];exact I.ok.blt,by show s.heap.objs.size<=cenv.locals;rw[hL];exact aB _,λy z c e1 e2=>?_,λy hy=>?_,λy c z e=>?_,I.ok.hd,I.ok.frames,.inl rfl,λb hb=>⟨?_,λy c e z=>?_⟩,I.bs,aM I.ok.Mq I.sz,λb o e hb=>?_,λb hb z=>?_,I.stack,I.Gs⟩;{have e1:cenv.cells.lookup y=some c:=e1;have e2:cenv.cells.lookup z=some c:=e2;rw[hcl] at e1 e2;refine tL (λp hp=>?_) (λy z c a b=>I.ok.inj y z c (cm a).1 (cm b).1) (bS e1) (bS e2);rw[bR];exact fc (cm (y:=p.1) (c:=p.2) hp).2};{show ∃c,cenv.cells.lookup y=some c;have key:∀k,cenv.kindOf y=some k->(k=.cell\/k=.free)->∃c,cenv.cells.lookup y=some c:=λk hk hk'=>by{unfold Env.kindOf at hk;rw[Hs] at hk;obtain⟨k',e,r⟩:=pC hk;have:k'=.cell\/k'=.free:=by{rcases r with rfl|⟨rfl,_⟩;{exact hk'};.exact .inr rfl};rcases this with rfl|rfl;{obtain ⟨c,hm⟩:=tI (n:=(s.heap.push {cls:=.type "dict",data:=.dict #[]}).objs.size) (acc:=eN X.env.cells scope.names []) (bS e);obtain⟨c',e'⟩:=mem_lookup hm;exact⟨c',by rw[hcl];exact e'⟩};.obtain⟨c,h1,_⟩:=look e;exact⟨c,h1⟩};rcases hy with hy|hy;{exact key _ hy (.inl rfl)};.exact key _ hy (.inr rfl)};{have z:(scope.names.lookup y==some NameKind.cell)=true:=z;have z:scope.names.lookup y=some .cell:=by{simpa using z};have e:cenv.cells.lookup y=some c:=e;rw[hcl] at e;rcases mU (bS e) with hm|⟨_,h2,_⟩;{rcases l4 hm with hm|⟨h1,_⟩;{cases hm};.have q:=ok.uniq _ h1;rw[z] at q;cases q};.rw[bR] at h2;exact uE h2};{show b≠cenv.locals;rw[hL];exact a7 (hfp b hb).2};{have e:cenv.cells.lookup y=some c:=e;rcases mem e with⟨h1,_⟩|⟨h1,_⟩;{exact(hfp b hb).1.2.2.2.2.1 y c h1 z};grind};{rcases(hfp b hb).1.2.2.2.1 with z|z;{exact I.ok.Mm b o e z};.exact absurd (aJ (aF e) (aM I.ok.Mq z)) (fI _)};.rcases aD.mp (I.EE b z) with z|z;{exact(hfp b hb).1.2.1 z};.exact(hfp b hb).1.2.2.1 z};refine⟨CP,rfl,I.bare,Un.kept kp,⟨λ_=>none,?_,λi y av e1 e2 e3=>?_⟩,λy c e=>?_,?_,λy c e=>?_,λp hp=>?_,I.fR.kept kp,by rw[i8];exact I.len⟩;{grind [Heap.Ns,Heap.Ns.keeps,Heap.Ns.new,qZ]};{obtain⟨e2,hne⟩:=tE e2;have hfr:scope.names.lookup y=some .free/\(cenv.kindOf y=some .cell\/cenv.kindOf y=some .free):=by{have key:∀k,cenv.scope.names.lookup y=some k->k=.local\/k=.cell\/k=.free->scope.names.lookup y=some .free/\(cenv.kindOf y=some .cell\/cenv.kindOf y=some .free):=λk hk hk'=>by{have hk0:=hk;rw[Hs] at hk;obtain⟨k',e,r⟩:=pC hk;have no:¬(k'=.local\/k'=.cell):=λhh=>by{rcases ok.own _ (bS e) hh with e'|e';{obtain⟨p,hp,hpy⟩:=bg.mp e';have e3:=ok.ix p hp;have:p.1=y:=hpy;rw[this] at e3;exact hne (bg.mpr ⟨p,hp,w6 hN e3 e1⟩)};.exact e' (cx e1)};rcases r with rfl|⟨rfl,rfl⟩;{rcases hk' with rfl|rfl|rfl;{exact absurd (.inl rfl) no};{exact absurd (.inr rfl) no};.exact⟨e,.inr hk0⟩};.exact⟨e,.inl hk0⟩};have e3:vb cenv.scope y:=e3;rcases e3 with e3|e3|e3;{exact key _ e3 (.inl rfl)};{exact key _ e3 (.inr (.inl rfl))};.exact key _ e3 (.inr (.inr rfl))};obtain⟨m,hn,hl⟩:=I.loc;have hvis:vb X.env.scope y:=(ok.free _ (bS hfr.1) rfl).elim (λk=>.inr (.inl k)) (λk=>.inr (.inr k));obtain⟨w,r,q⟩:=hl i y av e1 e2 hvis;refine⟨w,r,.inr ⟨hfr.2,?_⟩⟩;obtain⟨c,h1,h2⟩:=look hfr.1;rcases q with⟨k,_⟩|⟨_,c',e',z⟩;{have k:X.env.scope.names.lookup y=some .local:=k;rcases ok.free _ (bS hfr.1) rfl with k'|k'<;>rw[show X.env.scope.names.lookup y=_ from k'] at k<;>cases k};.rw[h2] at e';obtain rfl:=bA e';exact⟨c,h1,z.keeps kp⟩};{have e:cenv.cells.lookup y=some c:=e;rcases mem e with⟨h1,_⟩|⟨_,z⟩;{obtain⟨w,z⟩:=I.cell y c h1;exact⟨w,z.keeps kp⟩};.exact⟨_,z⟩};{show H cenv.locals=none;rw[hL];exact I.fR.fresh (aB _)};{have e:cenv.cells.lookup y=some c:=e;rcases mem e with⟨h1,_⟩|⟨h1,_⟩;{exact I.oV y c h1};.exact I.fR.fresh (uE h1)};.exact absurd (show p∈([]:List (aE×Obj))++[] from hp) (by simp)
def Ui{E:Value->Shared->Prop}{D:aE}{xs:List V}{y:V}{v:Value}{Q:Value->Shared->Prop}(I:IM X π σ H s)(hD:H D=some (.lst xs))(hz:xs.length<aG)(r:Sk y v) (h:∀s',IM X π σ (IZ H D (.lst (xs++[y]))) s'->Q .none s'):aK (aT X.prog X.w) X.A (call (.builtin "list.append") [.ref D,v]) Q E s:=by obtain⟨hz',its,n,ri,e⟩:=I.fR D _ hD;have hl:=ri.length;refine append_at (hsz:=by rw[bx];simp_all) e λh' sb ho'=>?_;refine h {s with heap:=h'} (I.write (t':=s.toks) (by rw[hD];trivial) (.inl rfl) (λb u hb q=>(sb.2 b hb).trans q) ⟨_,ho'⟩ ⟨by rw[bo];exact hz,its++[v],n+1,ri.append (.cons r .nil),?_⟩);rw[ho'];simp
def WR(X:Cx)(ifs:List Expr)(t:TT):Prop:=∀(π:List (aE×Obj)) (s:Shared) (σ:St) (H:Hp) (Q:Bool->Hp->Prop),IM X π σ H s->t σ H Q->aK (aT X.prog X.w) X.A (forIn ifs true λc r=>if r=true then do let ok<-qB c X.env (cq c X.env);pure (ForInStep.yield ok) else pure (ForInStep.yield r)) (TP X π σ Q) X.xe s
def ZR:TT:=λ_ H Q=>Q true H
def Od:WR X [] ZR:=λ_ _ _ H _ I h=>wpAny_tests_nil ⟨H,I,h⟩
def Qp{c:Expr}{t:TT}(h:PT X c t):WR X [c] t:=λπ s σ H Q I hw=>wpAny_tests_one (h π s σ H Q I hw)
end
def Hg{α:Type}{t:Sem α}{Q Q':α->Shared->Prop}{M:Model}{A:Around}{E:Value->Shared->Prop}{s:Shared}(h:aK M A t Q (λ_ _=>False) s)(hQ:∀a s,Q a s->Q' a s):aK M A t Q' E s:=fB h hQ λ_ _ z=>eK z
def zd{prog:Program}{w:World}{A:Around}{R:Zq->Shared->Prop}{s:Shared}{elt target iter:Expr}{ifs:List Expr}{scope:Scope}{pos:Pos}{it acc:Value}{env:Env}(I:Nat->Shared->Prop)
  (turn:∀n s,I n s->aK (aT prog w) A (jk it) (λr s₁=>match r with
   |none=>R (.ok .next) s₁
   |some v=>aK (aT prog w) A (qY target it v) (λ_ s₁'=>aK (aT prog w) A (qD target env v) (λ_ s₂=>
     aK (aT prog w) A (forIn ifs true λc r=>if r=true then do let ok<-qB c env (cq c env);pure (ForInStep.yield ok) else pure (ForInStep.yield r)) (λok s₃=>
      if ok=true then aK (aT prog w) A (cq elt env) (λx s₄=>
       aK (aT prog w) A (call (.builtin "list.append") [acc,x]) (λ_ s₅=>∃m,m<n/\I m s₅) (CC (aT prog w) A env λe s'=>R (.error e) s') s₄) (CC (aT prog w) A env λe s'=>R (.error e) s') s₃
      else ∃m,m<n/\I m s₃) (CC (aT prog w) A env λe s'=>R (.error e) s') s₂) (CC (aT prog w) A env λe s'=>R (.error e) s') s₁') (CC (aT prog w) A env λe s'=>R (.error e) s') s₁) (CC (aT prog w) A env λe s'=>R (.error e) s') s)
  (n:Nat) (h:I n s):
  iI (aT prog w) A (.compLoop (.ListComp elt [⟨target,iter,ifs,0⟩] scope pos) 0 it acc env) R s:=by
 refine codeAny_loop rfl I (λn s hI=>?_) n h
 show aK _ A ((compTurn (.ListComp elt [⟨target,iter,ifs,0⟩] scope pos) 0 it acc env).onRaise (λx=>do noteFrame x env;theTreesLotGoes x)) _ _ s
 refine wpAny_noted ?_
 rw[compTurn_list]
 refine ab (uX (ab (fB (turn n s hI) (λr s₁ h₁=>?_) λ_ _ h'=>h')))
 cases r with
 |none=>exact aq h₁
 |some v=>
  refine ab (fB h₁ (λ_ s₁' h₁'=>?_) λ_ _ h'=>h')
  refine ab (fB h₁' (λ_ s₂ h₂=>ab (fB h₂ (λok s₃ h₃=>?_) λ_ _ h'=>h')) λ_ _ h'=>h')
  cases ok with
  |false=>exact aq ⟨rfl,h₃⟩
  |true=>
   exact ab (ab (fB h₃ (λx s₄ h₄=>ab (fB h₄ (λ_ s₅ h₅=>aq (aq ⟨rfl,h₅⟩)) λ_ _ h'=>h')) λ_ _ h'=>h'))
section
variable {X:Cx}
def Vj(wi:TI)(g:TG)(tt:TT)(te:TE)(vs:List Nat):TE:=λσ H Q=>wi σ H λJ H1=>∀D,H1 D=none->∃W:Nat->Nat->Hp->Prop,(∃m,W 0 m (IZ H1 D (.lst [])))/\∀i m H,W i m H->(J.stop i H/\Q (.ref D) H)\/(J.go i H/\∃Nx:Hp->Prop,(∀H',Nx H'->∃m',m'<m/\W (i+1) m' H')/\∀x H',J.YT i H x H'->g x (wipe σ vs) H' λσ2 H2=>wipe σ2 vs=wipe σ vs/\tt σ2 H2 λb H3=>if b=true then te σ2 H3 λy H4=>∃acc,H4 D=some (.lst acc)/\acc.length<aG/\Nx (IZ H4 D (.lst (acc++[y]))) else Nx H3)
def Ft{π:List (aE×Obj)}{s:Shared}{σ:St}{H:Hp}{Q:VK}{elt tg iter:Expr}{ifs:List Expr}{scope:Scope}{own:List (Str×Nat)}{pos pos':Pos}{wi:TI}{g:TG}{tt:TT}{te:TE}{use:Option (Value->Sem Unit)}{Qf:Value->Shared->Prop} (hc:X.calm=true) (hN:X.N.Nodup) (I:IM X π σ H s) (hi:PI X tg iter wi) (ok:mO X.N X.env.scope scope own) (hg:∀(s:Shared) (H:Hp) (C:aE) (cl:List (Str×aE)) (fp:List aE),PG (X.lK s H scope (cJ scope cl C X.env) fp) tg g) (ht:∀(s:Shared) (H:Hp) (C:aE) (cl:List (Str×aE)) (fp:List aE),WR (X.lK s H scope (cJ scope cl C X.env) fp) ifs tt) (he:∀(s:Shared) (H:Hp) (C:aE) (cl:List (Str×aE)) (fp:List aE),PE (X.lK s H scope (cJ scope cl C X.env) fp) elt te) (hs:∀x,cH iter X.env x=pure x) (h:Vj wi g tt te (own.map (·.2)) σ H Q) (hRR:∀D C s' m H',IM X π σ H' s'->Q (.ref D) H'->s'.heap.Ns C m->uV X π H' C->Zu (aT X.prog X.w) X.A X.xe use Qf (.ref D) C (.ok .next) s'):aK (aT X.prog X.w) X.A (comprehension (.ListComp elt [⟨tg,iter,ifs,0⟩] scope pos) scope X.env pos' (UP []) false (cq iter X.env) use) Qf X.xe s:=by
 have hfree:∀y∈scope.names,y.2=.free->∃c,X.env.cells.lookup y.1=some c:=λy hy e=>by rcases ok.free y hy e with k|k;{exact I.ok.has _ (.inl k)};.exact I.ok.has _ (.inr k)
 refine wpAny_comprehension_free (use:=use) rfl hs (wV hfree) ok.kind (λy hy e=>by rw[ok.uniq y hy,e]) (fS (hi π s σ H _ I h) λxv s1 hx=>fS hx λuf s2 h2=>?_);obtain⟨it,fp,tn,J,H2,e,I2,T,st2,f2,q⟩:=h2;subst e;refine eh (A0 ?_) (by show 0<=aG;decide);generalize hD:s2.heap.objs.size=D;have hDn:H2 D=none:=I2.fR.fresh (uD hD);obtain⟨W,⟨m0,w0⟩,turn⟩:=q D hDn;generalize hs3:({s2 with heap:=s2.heap.push {cls:=.type "list",data:=.seq ([]:List Value).toArray}}:Shared)=s3;have I3:IM X π σ (IZ H2 D (.lst [])) s3:=by rw[<-hs3];refine I2.laid (t':=s2.toks) (λb o e=>ae _ e) (uD hD) ⟨fJ _,[],0,.nil,?_⟩;rw[<-hD];exact ay _ rfl
 have h3:s3.heap=s2.heap.push {cls:=.type "list",data:=.seq ([]:List Value).toArray}:=by rw[<-hs3]
 have sz:∀b∈fp,b<s2.heap.objs.size:=λb hb=>by obtain⟨o,e,_⟩:=T.obj _ _ st2 b hb;exact aF e
 have f3:∀b∈fp,uV X π (IZ H2 D (.lst [])) b/\b<s3.heap.objs.size:=λb hb=>by have hlt:=sz b hb;refine⟨⟨?_,(f2 b hb).2⟩,by rw[h3,bR];exact fc hlt⟩;rw[aS (by rw[<-hD];exact a7 hlt)];exact(f2 b hb).1
 have st3:tn 0 s3.heap:=T.keep _ _ _ st2 λb _ o e=>by rw[h3];exact ae _ e
 have I4:=Bp I3 ok hN f3;have pg:=hg s3 (IZ H2 D (.lst [])) s3.heap.objs.size (dX (s3.heap.objs.size+1) scope.names (eN X.env.cells scope.names [])) fp;have pt:=ht s3 (IZ H2 D (.lst [])) s3.heap.objs.size (dX (s3.heap.objs.size+1) scope.names (eN X.env.cells scope.names [])) fp;have pe:=he s3 (IZ H2 D (.lst [])) s3.heap.objs.size (dX (s3.heap.objs.size+1) scope.names (eN X.env.cells scope.names [])) fp;show iI _ _ (.compStart (.ListComp elt [⟨tg,iter,ifs,0⟩] scope pos) 0 (.ref it) (.ref D) (cJ scope (dX (s3.heap.objs.size+1) scope.names (eN X.env.cells scope.names [])) s3.heap.objs.size X.env)) (Zu (aT X.prog X.w) X.A X.xe use Qf (.ref D) s3.heap.objs.size) {s3 with heap:=ng (s3.heap.push {cls:=.type "dict",data:=.dict #[]}) scope.names};have nfp:∀b∈fp,(IZ H2 D (.lst [])) b=none:=λb hb=>(f3 b hb).1.1;generalize hce:cJ scope (dX (s3.heap.objs.size+1) scope.names (eN X.env.cells scope.names [])) s3.heap.objs.size X.env=ce at I4 pg pt pe⊢;have cL:ce.locals=s3.heap.objs.size:=by subst hce;rfl
 generalize hH3:IZ H2 D (.lst [])=H3 at I3 I4 pg pt pe w0 nfp f3;generalize hs4:({s3 with heap:=ng (s3.heap.push {cls:=.type "dict",data:=.dict #[]}) scope.names}:Shared)=s4 at I4⊢;have st4:tn 0 s4.heap:=T.keep _ _ _ st3 λb _ o e=>by rw[<-hs4];exact qZ _ _ _ _ (ae _ e)
 have stat:∀{σ':St} {H':Hp} {s':Shared},IM (X.lK s3 H3 scope ce fp) [] σ' H' s'->(∀b∈fp,H' b=none)->∀b∈fp,uV (X.lK s3 H3 scope ce fp) [] H' b:=λ{σ' H' s'} I' hn b hb=>⟨hn b hb,(I'.ok.YV b hb).1,I'.ok.K6 b hb,.inl hb,λx c e=>(I'.ok.YV b hb).2 x c e,λp hp=>absurd (show p∈([]:List (aE×Obj))++[] from hp) (by simp)⟩;have loop:iI (aT X.prog X.w) X.A (.compLoop (.ListComp elt [⟨tg,iter,ifs,0⟩] scope pos) 0 (.ref it) (.ref D) ce) (Zu (aT X.prog X.w) X.A X.xe use Qf (.ref D) s3.heap.objs.size) s4:=by
  refine zd (λn s'=>∃i H',IM (X.lK s3 H3 scope ce fp) [] (wipe σ (own.map (·.2))) H' s'/\tn i s'.heap/\(∀b∈fp,H' b=none)/\W i n H') ?_ m0 ⟨0,H3,I4,st4,nfp,w0⟩;rintro n s5 ⟨i,H5,I5,st5,n5,w5⟩;rcases turn i n H5 w5 with⟨stop,qq⟩|⟨go,Nx,hNx,step⟩;{have td:=T.done (X.lK s3 H3 scope ce fp) rfl rfl rfl hc i [] s5 _ H5 (λ_ _=>False) I5 (stat I5 n5) st5 stop;refine Hg td λr s6 zz=>?_;obtain⟨hr,I6⟩:=zz;subst hr;have I7:IM X π σ H5 s6:=I3.XF (ch:=fp) I6.os I6.base I6.fR I6.bare λb hb=>⟨(f3 b hb).1.2.2.2.1,(f3 b hb).1.2.1,(f3 b hb).1.2.2.2.2.1,(f3 b hb).1.2.2.2.2.2⟩;have nC:H5 s3.heap.objs.size=none:=by{have z:H5 ce.locals=none:=I6.free;rw[cL] at z;exact z};obtain⟨m,hn,_⟩:=I6.loc;have hn:s6.heap.Ns ce.locals m:=hn;rw[cL] at hn;exact hRR D s3.heap.objs.size s6 m H5 I7 qq hn (I3.E1 (aB _) nC)}
  .have ti:=T.item (X.lK s3 H3 scope ce fp) rfl rfl rfl hc i [] s5 _ H5 (λ_ _=>False) I5 (stat I5 n5) st5 go;refine Hg ti λr s6 ⟨u,hr,h6⟩=>?_;subst hr;refine Hg h6 λ_ s7 ⟨x,H7,I7,r7,y7,st7,n7⟩=>?_;have I7':=I7.pinned (stat I7 n7) (T.obj _ _ st7);refine Hg (pg _ s7 _ H7 x u _ I7' r7 (step x H7 y7)) λ_ s8 ⟨σ8,H8,I8,hw8,q8⟩=>?_;refine Hg (pt _ s8 σ8 H8 _ I8 q8) λb s9 zy=>?_;obtain⟨H9,I9,q9⟩:=zy;have fin:∀{s':Shared} {H':Hp},IM (X.lK s3 H3 scope ce fp) ([]++vt fp s7.heap) σ8 H' s'->Nx H'->∃m,m<n/\∃i H',IM (X.lK s3 H3 scope ce fp) [] (wipe σ (own.map (·.2))) H' s'/\tn i s'.heap/\(∀b∈fp,H' b=none)/\W i m H':=λ{s' H'} I' nx=>by
    obtain⟨m',hm,w'⟩:=hNx H' nx;have pin':∀b∈fp,∀o,s7.heap.get? b=some o->s'.heap.get? b=some o/\H' b=none:=λb hb o e=>
     let z:=I'.pin (b,o) (cS _ (cS _ (qS hb e)))
     ⟨z.1,z.2.1⟩
    have hl:(wipe σ (own.map (·.2))).length=σ8.length:=by{rw[<-hw8,i8]};refine⟨m',hm,i+1,H',(I'.r0 (π:=[])).weak hl (λj v e=>?_),T.keep _ _ _ st7 λb hb o e=>(pin' b hb o e).1,λb hb=>?_,w'⟩;{rw[<-hw8] at e;exact(tE e).1};.obtain⟨o,e,_⟩:=T.obj _ _ st7 b hb;exact(pin' b hb o e).2
   cases b with|false=>simp only[jh,AG] at q9⊢;exact fin I9 q9|true=>simp only[sG] at q9⊢;refine Hg (pe _ s9 σ8 H9 _ I9 q9) λz s10 ⟨yv,H10,I10,r10,acc,hD10,hz10,nx⟩=>?_;exact Ui (X:=X.lK s3 H3 scope ce fp) I10 hD10 hz10 r10 λs11 I11=>fin I11 nx
 exact codeAny_compStart_list loop (T.self X.A 0 _ _ _ st4 loop)
def Yg{elt tg iter:Expr}{ifs:List Expr}{scope:Scope}{own:List (Str×Nat)}{pos:Pos}{wi:TI}{g:TG}{tt:TT}{te:TE}(hc:X.calm=true)(hN:X.N.Nodup)(hi:PI X tg iter wi)(ok:mO X.N X.env.scope scope own) (hg:∀(s:Shared) (H:Hp) (C:aE) (cl:List (Str×aE)) (fp:List aE),PG (X.lK s H scope (cJ scope cl C X.env) fp) tg g) (ht:∀(s:Shared) (H:Hp) (C:aE) (cl:List (Str×aE)) (fp:List aE),WR (X.lK s H scope (cJ scope cl C X.env) fp) ifs tt) (he:∀(s:Shared) (H:Hp) (C:aE) (cl:List (Str×aE)) (fp:List aE),PE (X.lK s H scope (cJ scope cl C X.env) fp) elt te) (hs:∀x,cH iter X.env x=pure x:=by intro _;rfl):PE X (.ListComp elt [⟨tg,iter,ifs,0⟩] scope pos) (Vj wi g tt te (own.map (·.2))):=by intro π s σ H Q I h;rw[eval_ListComp];refine Ft hc hN I hi ok hg ht he hs h λD C s' m H' I' q hn f=>⟨m,hn,λh'' sb=>?_⟩;obtain⟨f0,f1,f2,f3,f4,f5⟩:=f;exact⟨.ref D,H',I'.turned (t':=s'.toks) (λb o hb e=>(sb.2 b hb).trans e) f0 f1 f3 f4 f5,rfl,q⟩
def Ky{i:Nat}{y:Str}{py:Pos}{elt tg iter:Expr}{ifs:List Expr}{scope:Scope}{own:List (Str×Nat)}{pos spos:Pos}{wi:TI}{g:TG}{tt:TT}{te:TE}(hc:X.calm=true)(hN:X.N.Nodup)(hy:X.N[i]?=some y)(hyl:X.env.scope.names.lookup y=some .local) (hsw:fz (.ListComp elt [⟨tg,iter,ifs,0⟩] scope pos) (some (.Name y py)) spos.line X.env=pure true) (hi:PI X tg iter wi) (ok:mO X.N X.env.scope scope own) (hg:∀(s:Shared) (H:Hp) (C:aE) (cl:List (Str×aE)) (fp:List aE),PG (X.lK s H scope (cJ scope cl C X.env) fp) tg g) (ht:∀(s:Shared) (H:Hp) (C:aE) (cl:List (Str×aE)) (fp:List aE),WR (X.lK s H scope (cJ scope cl C X.env) fp) ifs tt) (he:∀(s:Shared) (H:Hp) (C:aE) (cl:List (Str×aE)) (fp:List aE),PE (X.lK s H scope (cJ scope cl C X.env) fp) elt te) (hs:∀x,cH iter X.env x=pure x:=by intro _;rfl):PS X (.Assign [.Name y py] (.ListComp elt [⟨tg,iter,ifs,0⟩] scope pos) spos) (Qr (Vj wi g tt te (own.map (·.2))) (vE i)):=by intro π s σ H D I h;rw[exec_Assign_Name_used _ _ _ _ hsw];refine ab (uX (ab ?_));show aK _ X.A (do let _<-comprehension (.ListComp elt [⟨tg,iter,ifs,0⟩] scope pos) scope X.env (firstIterPos [⟨tg,iter,ifs,0⟩] pos) (UP []) false (cq iter X.env) (some (qD (.Name y py) X.env))) _ _ s;have h:Vj wi g tt te (own.map (·.2)) σ H (λx H1=>vE i x σ H1 D.nx):=h;refine ab (fS (Ft (Qf:=λ_ s'=>SP X π D .next s') hc hN I hi ok hg ht he hs h λL C s' m H' I' q hn f=>?_) λ_ s' hq=>aq (aq hq));show aK _ _ (qD (.Name y py) X.env (.ref L)) _ _ _;refine UH (yf (v:=V.ref L) I' hN hy (.inl hyl) rfl (λs2 I2 zz=>?_) (.inr hyl));obtain⟨a,sb,ha⟩:=zz;obtain⟨f0,f1,f2,f3,f4,f5⟩:=f;have haC:C≠a:=by{rcases ha with z|z;{rw[z];exact f1};.exact λe=>f4 y a z e.symm};refine⟨m,hn.sameBut sb haC,λh3 sb3=>?_⟩;exact⟨_,H',I2.turned (t':=s2.toks) (λb o hb e=>(sb3.2 b hb).trans e) f0 f1 f3 f4 f5,q⟩
end
def v8(N:List Str)(sc scope:Scope)(own:List (Str×Nat)):Bool:=(match scope.kind with|.function=>true|_=>false)&&(scope.names.all λy=>decide (scope.names.lookup y.1=some y.2))&&(own.all λp=>decide (N[p.2]?=some p.1))&&(scope.names.all λy=>match y.2 with|.free=>(match sc.names.lookup y.1 with|some .cell=>true|some .free=>true|_=>false)|.local=>decide (y.1∈own.map (·.1))||decide (y.1∉N)|.cell=>decide (y.1∈own.map (·.1))||decide (y.1∉N)|_=>true)
def KR(h:v8 N j b own=true):mO N j b own:=by unfold v8 at h;simp only[aa,aN,aw] at h;obtain⟨⟨⟨n,k⟩,i⟩,m⟩:=h;refine⟨?_,k,i,λy l e=>?_,λy l e=>?_⟩;{grind};{grind};.grind
section
variable {κ:Type}[DecidableEq κ]
end
def T5(i:Expr):Prop:=∀a b,Ap i false a b=operate [a,b] (Jv a b)
def NH{env}{b a}{pos}{T id}{Q} (p:RA (.type T) "__getitem__" =pure (some (.builtin id))) (n:T5 a) (h:aK (aT prog w) A (cq b env) (λo g=>aK (aT prog w) A (cq a env) (λi c=>c.TypeIs o T/\aK (aT prog w) A (Jv o i) Q E c) E g) E s):aK (aT prog w) A (cq (.Subscript b a pos) env) Q E s:=by refine vk (fB h (λo g k=>fB k (λi c e=>?_) λ_ _ x=>x) λ_ _ x=>x);obtain ⟨q,e⟩:=e;refine ab ?_;refine ab (YC q p ?_);have t:aK (aT prog w) A (Ap a false o i) (λr f=>aK (aT prog w) A (letTemporaryGo b o r>>=λ_=>pure r) Q E f) E c:=by{rw[n o i];exact wpAny_operating (fB e (λr f j=>ab (wpAny_letTemporaryGo (aq j))) λ_ _ x=>x)};grind [aq,ab]
section
variable {X:Cx}{π:List (aE×Obj)}{σ:St}{H:Hp}{s:Shared}{h':Heap}
def IM.O5{ch:List aE}(I:IM X π σ H s)(k:∀b o,b∉ch->s.heap.get? b=some o->h'.get? b=some o)(g:∀b∈ch,uV X π H b):IM X π σ H {s with heap:=h',toks:=t'}:=by have w:∀b u,H b=some u->b∉ch:=λb u e z=>by{have q:=(g b z).1;simp_all};refine I.step (λb h=>⟨(g b h).2.2.2.1,(g b h).2.1,(g b h).2.2.2.2.1,(g b h).2.2.2.2.2⟩) (λb o _ _ f e _=>k b o f e) (λb o _ _ f e _=>⟨o.slots,k b o f e⟩) (λ_ _ _ _ n=>n) (λb o f e=>⟨o,k b o f e⟩) (λ_ _ e=>e) (λ_ _ _ e=>e) (λb ps e=>⟨#[],by rw[e];rfl⟩) (λm t=>?_) (λb u e=>?_) I.bare;{obtain ⟨o,es,y,x,r⟩:=t;exact⟨o,es,y,k _ o (λz=>(g _ z).2.1 rfl) x,r⟩};.refine(I.fR b u e).wR (λc v f q=>k c v ?_ q) (λ_ q=>q) λ_ _ q=>q;grind
def IM.yQ{ch:List aE}{T:aE}{ob}(I:IM X π σ H s)(k:∀b o,b∉ch->s.heap.get? b=some o->h'.get? b=some o)(l:∀b∈ch,uV X π H b)(y:s.heap.objs.size<=T) (C:gB X.prog X.w (IZ H T ob) h' T ob):IM X π σ (IZ H T ob) {s with heap:=h',toks:=t'}:=by have p:=I.fR.fresh y;have G:∀b u,H b=some u->b∉ch:=λb u e z=>by{have q:=(l b z).1;simp_all};refine I.step (λb j=>⟨(l b j).2.2.2.1,(l b j).2.1,(l b j).2.2.2.2.1,(l b j).2.2.2.2.2⟩) (λb o _ _ g e _=>k b o g e) (λb o _ _ g e _=>⟨o.slots,k b o g e⟩) (λb o _ e n=>?_) (λb o g e=>⟨o,k b o g e⟩) (λb xs e=>?_) (λb o u e=>?_) (λb ps e=>⟨#[],?_⟩) (λm F=>?_) (λb u e=>?_) I.bare;{rw[aS (a7 (aJ (aF e) y))];exact n};{rw[aS (aY e p)];exact e};{rw[aS (aY e p)];exact e};{rw[aS (aY e p),e];rfl};{obtain ⟨o,es,E,D,r⟩:=F;exact⟨o,es,E,k _ o (λz=>(l _ z).2.1 rfl) D,r⟩};.by_cases j:b=T;{simp_all [bh]};.rw[aS j] at e;refine(I.fR b u e).wR (λc v g q=>k c v ?_ q) (λc q=>by rw[aS (aY q p)];exact q) λc xs q=>by{rw[aS (aY q p)];exact q};grind
end
section
variable {X:Cx}
def DB{π}{σ:St}{H}{s}{R}{J}{d}{tk}(I:IM X π σ H s)(o) (T:Turn X.prog X.w X.K j J [s.heap.objs.size] s.heap.objs.size d) (st:d 0 (s.heap.push o)) (q:R J H):Y3 X π σ j R (.ref s.heap.objs.size) {s with heap:=s.heap.push o,toks:=tk}:=by refine⟨s.heap.objs.size,[s.heap.objs.size],d,J,H,rfl,I.kept λb l e=>ae _ e,T,st,λb k=>?_,q⟩;have e:=by{simpa using k};subst e;exact I.E1 (aB _) (I.fR.fresh (aB _))
end
def Itc(lo c:Int)(n:Nat):It:=⟨λi _=>i<n,λi H x H'=>H'=H/\x=.int (lo+(i:Nat)*c),λi _=>n<=i⟩
def AY{K}{Z}(f)(lo c)(n):Turn P w K Z (Itc lo c n) [f] f (λi h=>IsRangeIter h f (lo+(i:Nat)*c) ((n:Int) -(i:Nat)) c) where
 mem:=by simp
 obj:=λi h st b p=>by simp_all
 keep:=λi h h' st k=>k f (by simp) _ st
 item:=by
  intro X U N O J i π s σ H E I x st y
  subst U N O
  obtain⟨B,L,f2,z,G,D⟩:=x f (by simp)
  have W:=UI (prog:=X.prog) (w:=X.w) (I.ok.hd J) f lo c n
  refine W.item i s _ _ y st λv h' tk hv q kk=>?_
  obtain⟨t,rfl⟩:=hv
  have Y:IM X π σ H {s with heap:=h',toks:=tk}:=I.turned (λb o p e=>kk b o Eg e) B L z G D
  exact⟨_,rfl,Cs (s:={s with heap:=h',toks:=tk}) q rfl rfl JN ⟨.int (lo+(i:Nat)*c),H,Y,⟨t,rfl⟩,⟨rfl,rfl⟩,q,λb p=>(x b p).1⟩⟩
 done:=by
  intro X U N O J i π s σ H E I x st y
  obtain ⟨B,L,f2,z,G,D⟩:=x f (by simp)
  exact Js (I.ok.hd J) st (by have:n<=i:=y;lia) λh' eb=>⟨rfl,I.turned (λb o p e=>eb b o p e) B L z G D⟩
 self:=λA i s Q E st h=>Jt st h
def RgC(i j c:Int)(n:Nat):Prop:=c≠0/\c.natAbs<1073741824/\jF i j c=true/\dW i j c=n
def Yn(a:TA):TI:=λσ H R=>a σ H λvs b=>∃(i j c:Int) (n:Nat),vs=[.int i,.int j,.int c]/\RgC i j c n/\R (Itc i c n) b
section
variable {X:Cx}{tg:Expr}
def HX{p pos}(Z:Gl X "range")(N:X.mg "range" =none)(L:PA X [a,b,c] ta) (P:aH [a,b,c] X.env=(false,cq a X.env)::aH [b,c] X.env:=by rfl) (x:(dU pos (aH [b,c] X.env)).any (·.1)=false:=by rfl):PI X tg (.Call (.Name "range" p) [a,b,c] [] pos) (Yn ta):=by intro π s σ H R I h;refine Zp (oQ I Z N Rz (d4 (fS (L pos π s σ H _ I h) λus D zz=>?_) P x));obtain⟨vs,H1,T,S,M⟩:=zz;obtain ⟨i,j,k,n,e,⟨U,c1,J,c3⟩,q⟩:=M;subst e;cases S with|cons r u=>cases u with|cons W u=>cases u with|cons v u=>cases u;obtain⟨t,rfl⟩:=r;obtain⟨t',rfl⟩:=W;obtain⟨z,rfl⟩:=v;refine call_range_3 U ?_ (.inl (PyProof.noPylong_small c1));refine Ry (Qx ..) J ?_;have Q:IM X π σ H1 {D with heap:=D.heap.push {cls:=.type "range",data:=.fields #[.int i t,.int j t',.int k z]}}:=T.kept λb o e=>ae _ e;refine DB Q _ (AY _ i k n) ?_ q;have Y:i+((0:Nat):Int)*k=i:=by{simp};have G:(n:Int) -((0:Nat):Int)=dW i j k:=Eg;rw[Y,G];exact ay _ rfl
end
def Its(x:Str):It:=⟨λi _=>i<x.cps.size,λi H v H'=>H'=H/\∃c,x.cps[i]?=some c/\v=.str ⟨#[c]⟩,λi _=>x.cps.size<=i⟩
def Ck{K}{tg}(g)(x)(t)(y)(z:y="str_ascii_iterator" \/y="str_iterator"):
  Turn P w K tg (Its x) [g] g (λi h=>h.IsStrIter g y x t i) where
 mem:=by simp
 obj:=λi h st b m=>by
  have e:b=g:=by simp_all
  obtain ⟨o,e,c,d⟩:=st
  grind
 keep:=λi h h' st k=>let⟨o,ho,r⟩:=st;⟨o,k g (by simp) o ho,r⟩
 item:=by
  intro X hP U hK B i π s σ H E I M st T
  subst hP U hK
  have⟨G,N,f2,C,J,F⟩:=M g (by simp)
  have W:Walks X.prog X.w X.A g [g] [g] x.cps.size (SignAt x) (λi h=>h.IsStrIter g y x t i):=by
   rcases z with e|e
   ·rw[e];exact Walks.strAscii (I.ok.hd B) g x t
   ·rw[e];exact Walks.strWide (I.ok.hd B) g x t
  have R:["enumerate","zip","dict_itemiterator","dict_reverseitemiterator","odict_iterator","itertools.zip_longest","itertools.pairwise"].contains y=false:=by grind
  refine W.item i s _ _ T st λv h' tk hv q kk=>?_
  obtain⟨c,u,Y,rfl⟩:=hv
  have I1:IM X π σ H {s with heap:=h',toks:=tk}:=I.turned (λb o m e=>kk b o (by simpa using m) e) G N C J F
  have⟨oi,e,cc,dd⟩:=id q
  exact⟨_,rfl,Cs e cc dd R ⟨.str ⟨#[c]⟩,H,I1,⟨u,rfl⟩,⟨rfl,c,Y,rfl⟩,q,λb m=>(M b m).1⟩⟩
 done:=by
  intro X hP U hK B i π s σ H E I M st T
  subst hP U hK
  have⟨G,N,f2,C,J,F⟩:=M g (by simp)
  have hx:x.cps[i]?=none:=gM T
  rcases z with e|e
  ·rw[e] at st
   exact wpAny_pyNext_ascii_end (I.ok.hd B) st hx λh' O=>⟨rfl,I.turned (λb o m e=>O b o m e) G N C J F⟩
  ·rw[e] at st
   exact wpAny_pyNext_wide_end (I.ok.hd B) st hx λh' O=>⟨rfl,I.turned (t':=s.toks) (λb o m e=>O b o m e) G N C J F⟩
 self:=λA i s Q E st h=>by grind [st,wpAny_pyIter_striter_ascii,wpAny_pyIter_striter_wide]
def aae(a:TE):TI:=λσ H R=>a σ H λv b=>∃x,v=.str x/\R (Its x) b
def TC{l e}{j}(m:PE X e j):PI X l e (aae j):=by intro π s σ H R I h;refine fS (m π s σ H _ I h) λv p zz=>?_;obtain⟨y,r,i,o,x,n,q⟩:=zz;subst n;obtain⟨t,rfl⟩:=o;cases k:x.cps.all (·<128);{exact wpAny_pyIter_wide k (DB i _ (Ck _ x t "str_iterator" (.inr rfl)) ⟨_,ay _ rfl,rfl,rfl⟩ q)};.exact wpAny_pyIter_ascii k (DB i _ (Ck _ x t "str_ascii_iterator" (.inl rfl)) ⟨_,ay _ rfl,rfl,rfl⟩ q)
def HF:iq "zip" =some (.type "zip"):=by decide+kernel
end L2
namespace L2
open PySem PySem.Spec PyProof.Rows
theorem nG:∀{ys} {us},cu (ys.map V.str) us->StrsAre us ys|[],_,.nil=>.nil|y::ys,_,.cons r t=>by obtain⟨k,rfl⟩:=r;exact .cons y k (nG t)
section
variable {X:Cx}
def O7:Vv X "str.join" (λx xs H Q=>∃a p,∃ys:List Str,x=.str a/\xs=[.ref p]/\(nj X.K H p (ys.map V.str)\/qR X.K H p (ys.map V.str))/\(ys.map (·.length)).sum+ys.length*a.length<=16777216/\Q (.str (kJ a ys)) H):=by intro π s σ H x xs v us Q I y rs h;obtain⟨a,p,ys,rfl,rfl,hp,hz,h⟩:=h;obtain⟨t,rfl⟩:=y;cases rs with|cons r1 rs=>cases rs;subst r1;rcases hp with hp|hp;{obtain ⟨its,r,⟨o,n,w,A,_,hd⟩,_⟩:=I.list hp;exact YD ⟨o,w,A,n,hd⟩ (by exact nG r) hz λt' k=>⟨.str _,H,I.tok k,⟨t',rfl⟩,h⟩};.have⟨its,r,ht,_⟩:=I.tuple hp;exact YE ht (by rw[G3];exact nG r) hz λt' k=>⟨.str _,H,I.tok k,⟨t',rfl⟩,h⟩
end
section
variable {X:Cx}{o e:Expr}{to te:TE}
def tM1(r:V->List V->Hp->VK->Prop)(to te:TE):TE:=λσ H Q=>to σ H λx c=>(∃a,x=.str a)/\te σ c λy b=>r x [y] b Q
def V1{id}{name}{apos pos:Pos}{r:V->List V->Hp->VK->Prop}(slot:Slot "str" name id)(B:typeOf (.builtin id)=pure (.type "method_descriptor"))(GZ:Vv X id r)(C:PE X o to)(J:PE X e te) (M:aH [e] X.env=[(false,cq e X.env)]:=by rfl) (hbase:fV o name X.env (cq o X.env)=cq o X.env:=by rfl) (g:(apos.endLine==pos.line)=true:=by rfl):PE X (.Call (.Attribute o name apos) [e] [] pos) (tM1 r to te):=by intro π s σ H Q I h;refine PySem.Call_method1 hbase M g (fS (C π s σ H _ I h) λv q zz=>?_);obtain⟨x,A,D,p,q1⟩:=zz;obtain⟨⟨a,rfl⟩,q1⟩:=q1;obtain⟨t,rfl⟩:=_root_.id p;refine⟨"str",_,F.plainAttrs_str,slot,B,typeIs_str _ _ _,(λ_ e=>nomatch e),og rfl (C2 (G2 ?_))⟩;exact fS (J π q σ A _ D q1) λu G ⟨y,L,z,E,w⟩=>Jc (GZ π G σ L _ [y] _ [u] Q z p (.cons E .nil) w)
def Qa{b pos}(h:PE X o to)(i:PE X e te)(g:aH [e] X.env=[(false,cq e X.env)]:=by rfl)(c:fV o "join" X.env (cq o X.env)=cq o X.env:=by rfl)(d:(b.endLine==pos.line)=true:=by rfl):PE X (.Call (.Attribute o "join" b) [e] [] pos) (tM1 (λx xs H Q=>∃a p,∃ys:List Str,x=.str a/\xs=[.ref p]/\(nj X.K H p (ys.map V.str)\/qR X.K H p (ys.map V.str))/\(ys.map (·.length)).sum+ys.length*a.length<=16777216/\Q (.str (kJ a ys)) H) to te):=V1 F.slot_str_join F.type_str_join O7 h i g c d
end
def inClass(s:Stmt)(j:Nat):Stmt:=if h:_ then Stmt.ClassDef.elim s h λ_ _ _ a _ _ _ _ _ _ _=>a.getD j (.Pass ⟨0,0,0,0⟩) else .Pass ⟨0,0,0,0⟩
def kT(s:Stmt):Arguments:=if h:_ then Stmt.FunctionDef.elim s h λ_ a _ _ _ _ _ _ _ _=>a else {posonlyargs:=[],args:=[],vararg:=none,kwonlyargs:=[],kw_defaults:=[],kwarg:=none,defaults:=[]}
def gu(s:Stmt):List Stmt:=if h:_ then Stmt.FunctionDef.elim s h λ_ _ b _ _ _ _ _ _ _=>b else []
def cB(s:Stmt):Scope:=if h:_ then Stmt.FunctionDef.elim s h λ_ _ _ _ _ _ d _ _ _=>d else {kind:=.function,names:=[],isGenerator:=false,isCoroutine:=false}
abbrev nM:T8:=λ_ _ _ _ _ _=>False
abbrev E0:XK:=λ_ _ _=>False
def uv:oO nM X E0:=λ_ _ _ _ _ _ _ h=>h.elim
structure M8(K:ah)(x qual:Str)(st:Stmt)(f:aE)(fd:FuncData):Prop where
 ex:∃(oc:Value) (od:Option aE) (kV doc pm:Value) (an:Option aE) (cdv ct:Value) (osl:Array (Option Value)),
  fd=fg x qual (kT st) (gu st) (cB st) .none kV doc pm an cdv ct/\K.lookup f=some ⟨oc,od,.func fd,osl⟩/\lg K cdv qual=true
 kp:b8 K (.ref f)=true
section
variable {P:Program}{w:World}{K:ah}{mg:Str->Option Value}{base:Heap}
def M8.ok{st}{f}{m}{N ps}{k}{sp}(F:M8 K x b st f m)(S:j5 N ps (cB st))(g:∀vs H Q E,sp vs H Q E->vs.length=ps.length) (c:∀(a) (A) (outer) (s) (H) (vs) (Q) (E),gH k (A.deeper (sQ b (cB st) s.heap.objs.size f a))->sp vs H Q E->∃t,CQ (zt nM P w K mg base N b (cB st) f a A outer s H E).QW (gu st) t/\t {nx:=λ_ H'=>Q .ie H',rt:=Q} (start N vs) H):gm P w K mg base nM (k+1) f m ps sp:=by obtain⟨z,od,kV,p,u,B,a,v,o,rfl,n,i⟩:=F.ex;refine QL n i S g λA outer s H vs Q E r j=>?_;obtain ⟨t,h,q⟩:=c a A outer s H vs Q E r j;exact⟨t,h.QW,q⟩
def M8.binds{st}{f}{l}{ps}(F:M8 K x c st f l) (h:∀(kV a e) (k) (b g) (us),us.length=ps.length->xr (fg x c (kT st) (gu st) (cB st) .none kV a e k b g) ⟨us,[]⟩=pure (ps.zip us)):AR K l ps []:=by obtain⟨p,od,kV,a,e,k,b,g,m,rfl,o,n⟩:=F.ex;exact .all (h kV a e k b g)
def DY{st}{f}{m}{od j}{g}{kV e i d h}(l:K.lookup f=some ⟨m,od,.func (fg x b (kT st) (gu st) (cB st) .none kV e i j d h),g⟩) (c:lg K d b=true) (k:b8 K (.ref f)=true):M8 K x b st f (fg x b (kT st) (gu st) (cB st) .none kV e i j d h):=⟨⟨m,od,kV,e,i,j,d,h,g,rfl,l,c⟩,k⟩
end
section
variable {X:Cx}
def pv(i){x}{pos}(e:X.N[i]?=some x:=by rfl)(d:vb X.env.scope x:=by first|exact Or.inl rfl|exact Or.inr (Or.inl rfl)|exact Or.inr (Or.inr rfl))(c:qq9 x:=by decide) (b:xj8 x:=by decide):PE X (.Name x pos) (X0 i):=wM e d c b
end
def eY(H H':Hp):Prop:=∀b o,H b=some o->H' b=some o
def eY.trans(a:eY H d)(b:eY d e):eY H e:=λc o h=>b c o (a c o h)
def eY.seq{K}{H H'}{a}{xs}(e:eY H H')(h:nj K H a xs):nj K H' a xs:=by rcases h with(h|⟨o,h⟩)|h;{exact .inl (.inl (e _ _ h))};{exact .inl (.inr ⟨o,e _ _ h⟩)};.exact .inr h
open PySem.W (WData Codec OpenSpec Well WellAll ReadsW ReadsAllW)
mutual
inductive Dw(K:ah)(H:Hp):V->WData->Prop
 |ie:Dw K H .ie .none
 |bl (b:Bool):Dw K H (.bl b) (.bool b)
 |int (i:Int):Dw K H (.int i) (.int i)
 |str (x:Str):Dw K H (.str x) (.str x)
 |Rg (b:Array UInt8):Dw K H (.Rg b) (.bytes b.toList)
 |lst {a:aE} {xs:List V} {ds:List WData}:nj K H a xs->rL K H xs ds->Dw K H (.ref a) (.list ds)
 |tup {a:aE} {xs:List V} {ds:List WData}:qR K H a xs->rL K H xs ds->Dw K H (.ref a) (.tuple ds)
inductive rL(K:ah)(H:Hp):List V->List WData->Prop
 |nil:rL K H [] []
 |cons {v:V} {vs:List V} {d:WData} {ds:List WData}:Dw K H v d->rL K H vs ds->rL K H (v::vs) (d::ds)
end
theorem GF{K}{H}:∀ns:List Int,rL K H (ns.map V.int) (ns.map WData.int)|[]=>.nil|n::r=>.cons (.int n) (GF r)
theorem Gk{K}{H}:∀(ns:List Int) (xs),rL K H xs (ns.map WData.int)->xs=ns.map V.int|[],xs,h=>by cases h;rfl|n::r,xs,h=>by cases h with|cons d c=>cases d;rw[Gk r _ c]<;>rfl
section
variable {P:Program}{w:World}{K:ah}{H:Hp}{h:Heap}{R:G4}{cl:Str->Option aE}
def Ti(d:rh P w H h)(k:K.In h)(q:nj K H a xs):∃(its:List Value) (o:Obj) (n:Nat),cu xs its/\h.get? a=some o/\o.cls=.type "list" /\o.data=.seq its.toArray n:=by rcases q with q|⟨o,its,n,e,j,_,l,_,g⟩;{obtain ⟨_,its,n,g,e⟩:=(show gB P w H h a (.lst xs) from q.ok d);grind};.exact⟨its.toList,o,n,g,k _ _ e,j,by simp[l]⟩
def RS(d:rh P w H h)(l:K.In h)(q:qR K H a xs):∃(its:List Value) (o:Obj) (n:Nat),cu xs its/\h.get? a=some o/\o.cls=.type "tuple" /\o.data=.seq its.toArray n:=by rcases q with q|⟨o,its,n,e,i,j,_,g⟩;{obtain ⟨_,its,g,o,e,i,n,j⟩:=(show gB P w H h a (.tup xs) from q.ok d);grind};.exact⟨its.toList,o,n,g,l _ _ e,i,by simp[j]⟩
mutual
theorem Dw.reads(fR:rh P w H h)(KX:K.In h):∀(d:WData) (v:V) (u:Value),Dw K H v d->Sk v u->∃as,ReadsW R cl h u d as
 |.none,_,_,x,r=>by
  cases x
  cases r
  exact⟨_,ReadsW.none⟩
 |.bool b,_,_,x,r=>by
  cases x
  cases r
  exact⟨_,ReadsW.bool b⟩
 |.int i,_,_,x,r=>by
  cases x
  obtain⟨t,rfl⟩:=r
  exact⟨_,ReadsW.int i t⟩
 |.str s,_,_,x,r=>by
  cases x
  obtain⟨t,rfl⟩:=r
  exact⟨_,ReadsW.str s t⟩
 |.bytes b,_,_,x,r=>by
  cases x
  obtain⟨t,rfl⟩:=r
  exact⟨_,ReadsW.bytes _ t⟩
 |.list ds,_,_,x,r=>by
  cases x with
  |lst hs ha=>
   cases r
   obtain⟨its,o,n,rv,ho,hc,hd⟩:=Ti fR KX hs
   obtain⟨as,hr⟩:=Dw.readsAll fR KX ds _ its ha rv
   exact⟨_,ReadsW.list ho hc hd hr⟩
 |.tuple ds,_,_,x,r=>by
  cases x with
  |tup hs ha=>
   cases r
   obtain⟨its,o,n,rv,ho,hc,hd⟩:=RS fR KX hs
   obtain⟨as,hr⟩:=Dw.readsAll fR KX ds _ its ha rv
   exact⟨_,ReadsW.tuple ho hc hd hr⟩
 |.float _,_,_,x,_=>by cases x
 |.dict _,_,_,x,_=>by cases x
 |.bytearray _,_,_,x,_=>by cases x
 |.set _,_,_,x,_=>by cases x
 |.frozenset _,_,_,x,_=>by cases x
 |.obj _ _,_,_,x,_=>by cases x
theorem Dw.readsAll(fR:rh P w H h)(KX:K.In h):∀(ds:List WData) (vs:List V) (us:List Value),rL K H vs ds->cu vs us->∃as,ReadsAllW R cl h us ds as
 |[],_,_,x,r=>by
  cases x
  cases r
  exact⟨_,ReadsAllW.nil⟩
 |d::ds,_,_,x,r=>by
  cases x with
  |cons h1 h2=>
   cases r with
   |cons r1 r2=>
    obtain⟨as,q1⟩:=Dw.reads fR KX d _ _ h1 r1
    obtain⟨bs,q2⟩:=Dw.readsAll fR KX ds _ _ h2 r2
    exact⟨_,ReadsAllW.cons q1 q2⟩
end
end
mutual
def Ic:WData->Bool
 |.none=>true
 |.bool _=>true
 |.int _=>true
 |.str _=>true
 |.bytes _=>true
 |.list xs=>uO xs
 |.tuple xs=>uO xs
 |_=>false
def uO:List WData->Bool
 |[]=>true
 |x::r=>Ic x&&uO r
end
theorem Ba{c:Type}{f}(h:∀a,Ic (f a)=true):∀l:List c,uO (l.map f)=true|[]=>rfl|x::r=>by simp_all [uO,Ba]
theorem pD:∀(c:Codec) (a),Ic (c.enc a)=true|.unit,_=>rfl|.bool,_=>rfl|.int _ _,_=>rfl|.nat _ _,_=>rfl|.u8,_=>rfl|.bytes _ _,_=>rfl|.text _ _ _ _,_=>rfl|.list _ _ c,a=>Ba (λx=>pD c x) a|.pair c d,a=>by show(Ic (c.enc a.1)&&(Ic (d.enc a.2)&&true))=true;rw[pD c a.1,pD d a.2]<;>rfl|.triple c d e,a=>by show(Ic (c.enc a.1)&&(Ic (d.enc a.2.1)&&(Ic (e.enc a.2.2)&&true)))=true;rw[pD c a.1,pD d a.2.1,pD e a.2.2]<;>rfl|.option c,none=>rfl|.option c,some x=>pD c x
theorem yM:∀(b) (a),uO (RC b a)=true|[],_=>rfl|c::b,a=>by show(Ic (c.enc a.1)&&uO (RC b a.2))=true;rw[pD c a.1,yM b a.2]<;>rfl
theorem qM:∀{xs} {d},d∈xs->d.weight<=ox xs|[],d,h=>absurd h (by simp)|x::r,d,h=>by show d.weight<=x.weight+1+ox r;rcases aD.mp h with e|m;{grind};.have z:=qM m;lia
def toV:Value->V|.none=>.ie|.bool b=>.bl b|.int i _=>.int i|.str x _=>.str x|.bytes b _=>.Rg b|.ref a=>.ref a|_=>.ie
def IB(A:List aE):Value->Prop|.none=>True|.bool _=>True|.int _ _=>True|.str _ _=>True|.bytes _ _=>True|.ref a=>a∈A|_=>False
def IB.mono(h:∀a∈A,a∈B):∀{u},IB A u->IB B u:=λ{u} x=>by cases u with|ref a=>exact h a x|none=>trivial|bool b=>trivial|int i t=>trivial|str s t=>trivial|bytes b t=>trivial|_=>exact eK x
def Kk(x:IB A u):Sk (toV u) u:=by cases u with|ref a=>rfl|none=>rfl|bool b=>rfl|int i t=>exact⟨t,rfl⟩|str s t=>exact⟨t,rfl⟩|bytes b t=>exact⟨t,rfl⟩|_=>exact eK x
theorem mV:∀{vs},(∀u∈vs,IB A u)->cu (vs.map toV) vs|[],_=>.nil|u::r,h=>.cons (Kk (h u (ag ..))) (mV λx a=>h x (af _ a))
inductive n6(h:Heap)(A:List aE)(a:aE):Prop
 |mk(vs:List Value)(_:vs.length<=aG)(_:∀u∈vs,IB A u)(_:h.get? a=some {cls:=.type "list",data:=.seq vs.toArray}\/h.get? a=some {cls:=.type "tuple",data:=.seq vs.toArray})
theorem n6.mono{A B}{a}(k:∀a∈A,a∈B)(x:n6 h A a):n6 h B a:=by obtain ⟨vs,f,e,c⟩:=x;exact⟨vs,f,λu d=>(e u d).mono k,c⟩
theorem l5:∀{vs} {ds},WellAll P h vs ds->vs.length=ds.length|_,_,.nil=>rfl|_,_,.cons _ b=>by show _+1=_+1;rw[l5 b]
def yC(x:Well P h v (.list ds)):∃(a:aE) (vs:List Value),v=.ref a/\h.get? a=some {cls:=.type "list",data:=.seq vs.toArray}/\WellAll P h vs ds:=by cases x with|list i b=>exact⟨_,_,rfl,i,b⟩
def wH(x:Well P h v (.tuple ds)):∃(a:aE) (vs:List Value),v=.ref a/\h.get? a=some {cls:=.type "tuple",data:=.seq vs.toArray}/\WellAll P h vs ds:=by cases x with|tuple g b=>exact⟨_,_,rfl,g,b⟩
def x9(x:WellAll P h us (d::ds)):∃(v:Value) (vs:List Value),us=v::vs/\Well P h v d/\WellAll P h vs ds:=by cases x with|cons a b=>exact⟨_,_,rfl,a,b⟩
def Fg(h:n<=1048576):n<=aG:=aM h JN
section
variable {P:Params}{h:Heap}
mutual
theorem Mz:∀(d:WData) (v:Value),Well P h v d->Ic d=true->d.weight<=1048576->∃A:List aE,IB A v/\∀a∈A,n6 h A a
 |.none,_,x,_,_=>by
  cases x
  exact⟨[],trivial,λa m=>absurd m (by simp)⟩
 |.bool b,_,x,_,_=>by
  cases x
  exact⟨[],trivial,λa m=>absurd m (by simp)⟩
 |.int i,_,x,_,_=>by
  cases x
  exact⟨[],trivial,λa m=>absurd m (by simp)⟩
 |.str s,_,x,_,_=>by
  cases x
  exact⟨[],trivial,λa m=>absurd m (by simp)⟩
 |.bytes b,_,x,_,_=>by
  cases x
  exact⟨[],trivial,λa m=>absurd m (by simp)⟩
 |.list ds,_,x,p,z=>by
  obtain⟨a,vs,rfl,ho,hall⟩:=yC x
  have z2:ox ds<=1048576:=z
  obtain⟨A,h1,h2⟩:=rO ds _ hall p λd hd=>aM (qM hd) z2
  have k:∀b∈A,b∈a::A:=λb hb=>af _ hb
  refine⟨a::A,ag ..,λb hb=>?_⟩
  rcases aD.mp hb with e|m
  ·rw[e]
   exact⟨vs,Fg (by rw[l5 hall];exact aM (uF ds) z2),λu hu=>(h1 u hu).mono k,.inl ho⟩
  ·exact(h2 b m).mono k
 |.tuple ds,_,x,p,z=>by
  obtain⟨a,vs,rfl,ho,hall⟩:=wH x
  have z2:ox ds<=1048576:=z
  obtain⟨A,h1,h2⟩:=rO ds _ hall p λd hd=>aM (qM hd) z2
  have k:∀b∈A,b∈a::A:=λb hb=>af _ hb
  refine⟨a::A,ag ..,λb hb=>?_⟩
  rcases aD.mp hb with e|m
  ·rw[e]
   exact⟨vs,Fg (by rw[l5 hall];exact aM (uF ds) z2),λu hu=>(h1 u hu).mono k,.inr ho⟩
  ·exact(h2 b m).mono k
 |.float _,_,_,p,_=>cY (show false=true from p)
 |.dict _,_,_,p,_=>cY (show false=true from p)
 |.bytearray _,_,_,p,_=>cY (show false=true from p)
 |.set _,_,_,p,_=>cY (show false=true from p)
 |.frozenset _,_,_,p,_=>cY (show false=true from p)
 |.obj _ _,_,_,p,_=>cY (show false=true from p)
theorem rO:∀(ds:List WData) (vs:List Value),WellAll P h vs ds->uO ds=true->(∀d∈ds,d.weight<=1048576)->∃A:List aE,(∀u∈vs,IB A u)/\∀a∈A,n6 h A a
 |[],_,x,_,_=>by
  cases x
  exact⟨[],λu m=>absurd m (by simp),λa m=>absurd m (by simp)⟩
 |d::ds,_,x,p,z=>by
  obtain⟨v,vs,rfl,x1,x2⟩:=x9 x
  have q:Ic d=true/\uO ds=true:=E6.mp p
  obtain⟨A,a1,a2⟩:=Mz d v x1 q.1 (z d (ag ..))
  obtain⟨B,b1,b2⟩:=rO ds vs x2 q.2 λe he=>z e (af _ he)
  have kA:∀b∈A,b∈A++B:=λb hb=>cz.mpr (.inl hb)
  have kB:∀b∈B,b∈A++B:=λb hb=>cz.mpr (.inr hb)
  refine⟨A++B,λu hu=>?_,λb hb=>?_⟩
  ·rcases aD.mp hu with e|m
   ·rw[e]
    exact a1.mono kA
   ·exact(b1 u m).mono kB
  ·rcases cz.mp hb with m|m
   ·exact(a2 b m).mono kA
   ·exact(b2 b m).mono kB
end
end
def PM(o:Obj):Option HO:=match o.data with|.seq vs _=>if(o.cls==Value.type "list")=true then some (.yH o (.lst (vs.toList.map toV))) else some (.yH o (.tup (vs.toList.map toV)))|_=>none
def mz(K:ah)(h:Heap)(A:List aE):Hp:=λb=>if b∈A then(if(K.lookup b).isNone=true then(h.get? b).bind PM else none) else none
def QO(H:Hp):Prop:=∀b,H b=none\/∃o u,H b=some (.yH o u)
theorem Bv(vs:List Value):PM {cls:=.type "list",data:=.seq vs.toArray}=some (.yH {cls:=.type "list",data:=.seq vs.toArray} (.lst (vs.map toV))):=by show(if(Value.type "list" ==Value.type "list")=true then some (HO.yH {cls:=.type "list",data:=.seq vs.toArray} (.lst (vs.toArray.toList.map toV))) else some (HO.yH {cls:=.type "list",data:=.seq vs.toArray} (.tup (vs.toArray.toList.map toV))))=_;rfl
theorem Cy(vs:List Value):PM {cls:=.type "tuple",data:=.seq vs.toArray}=some (.yH {cls:=.type "tuple",data:=.seq vs.toArray} (.tup (vs.map toV))):=by show(if(Value.type "tuple" ==Value.type "list")=true then some (HO.yH {cls:=.type "tuple",data:=.seq vs.toArray} (.lst (vs.toArray.toList.map toV))) else some (HO.yH {cls:=.type "tuple",data:=.seq vs.toArray} (.tup (vs.toArray.toList.map toV))))=_;rfl
section
variable {P:Program}{w:World}{K:ah}{h:Heap}{A:List aE}
theorem zc(c:b∈A)(d:K.lookup b=none)(e:h.get? b=some o):mz K h A b=PM o:=by grind [mz]
def OX(q:mz K h A b=some u):b∈A/\K.lookup b=none:=by unfold mz at q;by_cases g:b∈A;{rw[au g] at q;cases i:K.lookup b with|none=>exact⟨g,rfl⟩|some o=>rw[i] at q;cases q};simp_all
def vf(f:∀a∈A,n6 h A a){b}{u}(q:mz K h A b=some u):K.lookup b=none/\∃vs:List Value,vs.length<=aG/\(∀u∈vs,IB A u)/\((h.get? b=some {cls:=.type "list",data:=.seq vs.toArray}/\u=.yH {cls:=.type "list",data:=.seq vs.toArray} (.lst (vs.map toV)))\/(h.get? b=some {cls:=.type "tuple",data:=.seq vs.toArray}/\u=.yH {cls:=.type "tuple",data:=.seq vs.toArray} (.tup (vs.map toV)))):=by obtain ⟨g,j⟩:=OX q;obtain ⟨vs,i,k,l⟩:=f b g;grind [zc,Bv,Cy]
def Iw(i:∀a∈A,n6 h A a):QO (mz K h A):=λb=>by cases q:mz K h A b with|none=>exact .inl rfl|some u=>obtain⟨_,vs,_,_,⟨_,e⟩|⟨_,e⟩⟩:=vf i q;{grind};grind
def OB(i:∀a∈A,n6 h A a):rh P w (mz K h A) h:=λb u q=>by obtain⟨_,vs,j,g,⟨e,rfl⟩|⟨e,rfl⟩⟩:=vf i q;{exact⟨e,by grind,vs,_,mV g,e⟩};.exact⟨e,by grind,vs,mV g,_,e,rfl,_,rfl⟩
def ZI(v:K.In h)(r:∀a∈A,n6 h A a){a}{vs:List Value}(n:a∈A)(e:h.get? a=some {cls:=.type "list",data:=.seq vs.toArray}):(∀u∈vs,IB A u)/\nj K (mz K h A) a (vs.map toV):=by obtain ⟨us,y,q,x⟩:=r a n;have t:us=vs:=by{grind};subst t;refine⟨q,?_⟩;cases l:K.lookup a with|none=>exact .inl (.inr ⟨_,by rw[zc n l e,Bv]⟩)|some o=>have m:=v a o l;rw[e] at m;obtain rfl:=bA m;exact .inr ⟨_,us.toArray,_,l,rfl,rfl,rfl,by omega,by exact mV q⟩
def abi(v:K.In h)(r:∀a∈A,n6 h A a){a}{vs:List Value}(n:a∈A)(e:h.get? a=some {cls:=.type "tuple",data:=.seq vs.toArray}):(∀u∈vs,IB A u)/\qR K (mz K h A) a (vs.map toV):=by obtain ⟨us,y,q,x⟩:=r a n;have t:us=vs:=by{grind};subst t;refine⟨q,?_⟩;cases l:K.lookup a with|none=>exact .inl (.inr ⟨_,by rw[zc n l e,Cy]⟩)|some o=>have m:=v a o l;rw[e] at m;obtain rfl:=bA m;exact .inr ⟨_,us.toArray,_,l,rfl,rfl,by omega,by exact mV q⟩
mutual
theorem Tu{Pm:Params}(KX:K.In h)(ar:∀a∈A,n6 h A a):∀(d:WData) (v:Value),Well Pm h v d->Ic d=true->IB A v->Dw K (mz K h A) (toV v) d
 |.none,_,x,_,_=>by
  cases x
  exact .ie
 |.bool b,_,x,_,_=>by
  cases x
  exact .bl b
 |.int i,_,x,_,_=>by
  cases x
  exact .int i
 |.str s,_,x,_,_=>by
  cases x
  exact .str s
 |.bytes b,_,x,_,_=>by
  cases x
  have z:=Dw.Rg (K:=K) (H:=mz K h A) b.toArray
  exact z
 |.list ds,_,x,p,hu=>by
  obtain⟨a,vs,rfl,ho,hall⟩:=yC x
  obtain⟨h2,hs⟩:=ZI KX ar hu ho
  exact .lst hs (zw KX ar ds _ hall p h2)
 |.tuple ds,_,x,p,hu=>by
  obtain⟨a,vs,rfl,ho,hall⟩:=wH x
  obtain⟨h2,hs⟩:=abi KX ar hu ho
  exact .tup hs (zw KX ar ds _ hall p h2)
 |.float _,_,_,p,_=>cY (show false=true from p)
 |.dict _,_,_,p,_=>cY (show false=true from p)
 |.bytearray _,_,_,p,_=>cY (show false=true from p)
 |.set _,_,_,p,_=>cY (show false=true from p)
 |.frozenset _,_,_,p,_=>cY (show false=true from p)
 |.obj _ _,_,_,p,_=>cY (show false=true from p)
theorem zw{Pm:Params}(KX:K.In h)(ar:∀a∈A,n6 h A a):∀(ds:List WData) (vs:List Value),WellAll Pm h vs ds->uO ds=true->(∀u∈vs,IB A u)->rL K (mz K h A) (vs.map toV) ds
 |[],_,x,_,_=>by
  cases x
  exact .nil
 |d::ds,_,x,p,hu=>by
  obtain⟨v,vs,rfl,x1,x2⟩:=x9 x
  have q:Ic d=true/\uO ds=true:=E6.mp p
  exact .cons (Tu KX ar d v x1 q.1 (hu _ (ag ..))) (zw KX ar ds vs x2 q.2 λu m=>hu u (af _ m))
end
end
def wj(h:WData.layableAll ds=true):∀d∈ds,d.weight<=1048576:=λd b=>(PySem.W.layableW_iff.mp (aN.mp h d b)).2.2
end L2
namespace DZ
open PySem PySem.Spec PyProof.Rows L2
def rd(b:Bool)(h:Heap)(it l:aE)(k:Nat):Prop:=(b=true/\h.IsTupleIter it l k)\/(b=false/\h.IsListIter it l k)
def rj(b:Bool)(h:Heap)(l:aE)(xs:Array Value):Prop:=(b=true/\h.IsTuple l xs)\/(b=false/\h.IsList l xs)
theorem rd.at{c l}{k}(x:rd b h c l k)(e:∀o,h.get? c=some o->h'.get? c=some o):rd b h' c l k:=by rcases x with⟨q,x⟩|⟨q,x⟩;{exact .inl ⟨q,x.at e⟩};.exact .inr ⟨q,x.at e⟩
def rj.at{l}{xs}(x:rj b h l xs)(e:∀o,h.get? l=some o->h'.get? l=some o):rj b h' l xs:=by rcases x with⟨q,o,d,r⟩|⟨q,o,d,r⟩;{exact .inl ⟨q,o,e o d,r⟩};.exact .inr ⟨q,o,e o d,r⟩
def rd.obj(x:rd b h f l k):∃o,h.get? f=some o/\∀v,o.data≠.cell v:=by rcases x with⟨_,o,e,_,d⟩|⟨_,o,e,_,d⟩;{grind};grind
section
variable {prog:Program}{w:World}{A:Around}{E:Value->Shared->Prop}{s:Shared}
def Kb(d:s.heap.IsTupleIter f t i)(n:s.heap.IsTuple t items)(p:items[i]?=some x) (m:∀g,g.IsTupleIter f t (i+1)->iH f s.heap g->Q x {s with heap:=g}):aK (aT prog w) A (cy (.ref f)) Q E s:=by obtain⟨o,h,q,e⟩:=id d;obtain⟨r,j,_,v,k⟩:=n;refine ab (c6 d.typeIs iP (dE iP d.typeIs Ar ?_ (yW _)));show aK _ _ (Nj (.ref f) 0>>=_) _ _ s;refine ab (fj h e rfl ?_);refine ab (fj h e rfl ?_);refine ab (dB j k ?_);simp only[bH,p];refine ab (gU h e (by simp) (aq ⟨x,rfl,aq (m _ ?_ (jN ..))⟩));refine⟨_,d6 _ h (Obj.isFreed_of_fields (Jx e _)),(Obj.cls_mapFields ..).trans q,?_⟩;rw[Jx e];rfl
def Mo(r:A.handled=none)(f:s.heap.IsTupleIter k t i)(v:s.heap.IsTuple t items)(y:items[i]?=none) (z:∀g e,VH k s.heap g->(∃o,g.get? e=some o/\o.cls=.type "StopIteration")->E (.ref e) {s with heap:=g}):aK (aT prog w) A (cy (.ref k)) Q E s:=by obtain⟨o,n,D,q⟩:=id f;obtain⟨B,j,_,C,l⟩:=v;unfold cy;refine ab (c6 (name:=aR "__next__") f.typeIs iP (dE iP f.typeIs Ar ?_ (yW _)));show aK _ _ (Nj (.ref k) 0>>=_) _ _ s;refine ab (fj n q rfl ?_);refine ab (fj n q rfl ?_);refine ab (dB j l ?_);simp only[bH,y];refine ab (nv (ab (gU n q (by simp) ?_)));show aK _ _ (Zv (.type "StopIteration") []>>=_) _ _ _;refine ab ?_;simp only[Zv,Zw];refine ab (eh ?_ (by size_fits));refine ab (m:=ny _ _) (sS (by first|rfl|(rfl)) ?_);refine eh ?_ (by size_fits);dsimp only[Zx];refine ab (G5 ?_);(first|rw[show A.in1.handled=none from r]|rw[r]);refine ab (aq (Nk ?_));exact z _ _ (((jN ..).extBut.push _).push _) ⟨_,ay _ rfl,rfl⟩
def rC(a:rd b s.heap j t i)(e:rj b s.heap t items)(m:items[i]?=some x) (n:∀g,rd b g j t (i+1)->iH j s.heap g->Q x {s with heap:=g}):aK (aT prog w) A (cy (.ref j)) Q E s:=by(rcases a with⟨q,a⟩|⟨q,a⟩<;>rcases e with⟨h,e⟩|⟨h,e⟩<;>first|(rw[q] at h;cases h)|skip);{exact Kb a e m λg k f=>n g (.inl ⟨q,k⟩) f};.exact wpAny_nextOf_list_item a e m λg k f=>n g (.inr ⟨q,k⟩) f
def rD(l:A.handled=none)(a:rd b s.heap m t i)(f:rj b s.heap t items)(n:items[i]?=none) (k:∀g e,VH m s.heap g->(∃o,g.get? e=some o/\o.cls=.type "StopIteration")->E (.ref e) {s with heap:=g}):aK (aT prog w) A (cy (.ref m)) Q E s:=by(rcases a with⟨q,a⟩|⟨q,a⟩<;>rcases f with⟨j,f⟩|⟨j,f⟩<;>first|(rw[q] at j;cases j)|skip);{exact Mo l a f n k};.exact wpAny_nextOf_list_end l a f n k
def MH{b c:Bool}{z TI TO i1 i2 l1 l2}{C J}{xs ys:Array Value}{x y u v}{Q:Value->Shared->Prop}(D:ZipApart z TI TO i1 i2 l1 l2) (hz:oy s.heap z TI TO .none) (P:gW s.heap TI (.ref i1) (.ref i2)) (O:gW s.heap TO u v) (a1:rd b s.heap i1 l1 C) (a2:rd c s.heap i2 l2 J) (m1:rj b s.heap l1 xs) (m2:rj c s.heap l2 ys) (hx:xs[C]?=some x) (hy:ys[J]?=some y) (hQ:∀g,oy g z TI TO (cg s.heap.objs.size)->gW g TO x y->rd b g i1 l1 (C+1)->rd c g i2 l2 (J+1)->gW g s.heap.objs.size x y->g.objs.size=s.heap.objs.size+1->(∀p o,p≠z->p≠TO->p≠i1->p≠i2->s.heap.get? p=some o->g.get? p=some o)->Q (.ref s.heap.objs.size) {s with heap:=g}):aK (aT prog w) A (jG.«zip.__next__» ⟨[.ref z],[]⟩) (λfin s'=>∃v,fin=.done (.ret v)/\Q v s') E s:=by show aK _ _ (Nj (.ref z) 2>>=_) _ _ _;refine ab (fj hz rfl (x:=.bool false) rfl ?_);show aK _ _ (Nj (.ref z) 3>>=_) _ _ _;refine ab (fj hz rfl (x:=.ref TI) rfl ?_);refine ab (dB P rfl ?_);show aK _ _ (eL (.ref z)>>=_) _ _ _;refine ab ?_;dsimp only[eL];refine ab (fj hz rfl (x:=.none) rfl (aq ?_));simp only[sG];refine ab (nv ?_);refine ab (fj hz rfl (x:=.ref TO) rfl ?_);refine ab (ir hz (by simp) λg1 Z e1=>?_);replace Z:oy g1 z TI TO .ellipsis:=Z;have k:∀p o,p≠z->s.heap.get? p=some o->g1.get? p=some o:=λp o n q=>e1.extBut p o n q;refine ab ?_;simp only[MT,Nl,xg,xY];refine ab (ab (uZ ?_));show aK _ _ (cy (.ref i1)>>=_) _ _ _;refine ab (rC (a1.at λo q=>k _ o D.i1z q) (m1.at λo q=>k _ o D.l1z q) hx λU b2 e2=>aq ?_);have B:∀p o,p≠i1->g1.get? p=some o->U.get? p=some o:=λp o n q=>e2.extBut p o n q;have t2:gW U TO u v:=B _ _ D.TOi1 (k _ _ D.TOz O);refine ab (dB t2 rfl ?_);refine ab (sT t2 λT X e3=>?_);replace X:gW T TO x v:=X;have f3:∀p o,p≠TO->U.get? p=some o->T.get? p=some o:=λp o n q=>e3.extBut p o n q;refine ab (lM (aq ?_));refine ab (ab (uZ ?_));show aK _ _ (cy (.ref i2)>>=_) _ _ _;refine ab (rC (a2.at λo q=>f3 _ o D.TOi2.symm (B _ o D.i12.symm (k _ o D.i2z q))) (m2.at λo q=>f3 _ o D.l2TO (B _ o D.l2i1 (k _ o D.l2z q))) hy λg4 b4 e4=>aq ?_);have N:∀p o,p≠i2->T.get? p=some o->g4.get? p=some o:=λp o n q=>e4.extBut p o n q;have t4:gW g4 TO x v:=N _ _ D.TOi2 X;refine ab (dB t4 rfl ?_);refine ab (sT t4 λe G e5=>?_);replace G:gW e TO x y:=G;have I:∀p o,p≠TO->g4.get? p=some o->e.get? p=some o:=λp o n q=>e5.extBut p o n q;refine ab (lM (aq (aq ?_)));refine ab (dB G rfl ?_);refine ab (Zy ?_);have sz:e.objs.size=s.heap.objs.size:=by{rw[e5.1,e4.1,e3.1,e2.1,e1.1]};have z5:oy e z TI TO .ellipsis:=I _ _ D.TOz.symm (N _ _ D.i2z.symm (f3 _ _ D.TOz.symm (B _ _ D.i1z.symm Z)));have k5:∀p o,p≠z->p≠TO->p≠i1->p≠i2->s.heap.get? p=some o->e.get? p=some o:=λp o L F c3 Y q=>I _ _ F (N _ _ Y (f3 _ _ F (B _ _ c3 (k _ _ L q))));have b5:rd b e i1 l1 (C+1):=b2.at λo q=>I _ o D.TOi1.symm (N _ o D.i12 (f3 _ o D.TOi1.symm q));have d5:rd c e i2 l2 (J+1):=b4.at λo q=>I _ o D.TOi2.symm q;have zl:z<e.objs.size:=aF z5;show aK _ _ (lV (.ref z) (.ref e.objs.size)>>=_) _ _ _;refine ab ?_;dsimp only[lV];have z6:oy (e.push {cls:=.type "tuple",data:=.seq #[x,y]}) z TI TO .ellipsis:=ae _ z5;refine ab (ir z6 (by simp) λg7 R W=>?_);replace R:oy g7 z TI TO (cg e.objs.size):=R;refine ir R (by simp) λg8 M S=>?_;replace M:oy g8 z TI TO (cg e.objs.size):=M;have H:∀p o,p≠z->e.get? p=some o->g8.get? p=some o:=λp o n q=>S.extBut _ _ n (W.extBut _ _ n (ae _ q));have t8:gW g8 e.objs.size x y:=S.extBut _ _ (gS zl) (W.extBut _ _ (gS zl) (ay _ rfl));have s8:g8.objs.size=e.objs.size+1:=by{rw[S.1,W.1,bR]};rw[sz] at M t8 s8;refine aq ⟨_,rfl,?_⟩;show Q (.ref e.objs.size) _;rw[sz];exact hQ g8 M (H _ _ D.TOz G) (b5.at λo q=>H _ o D.i1z q) (d5.at λo q=>H _ o D.i2z q) t8 s8 λp o L F c3 Y q=>H p o L (k5 p o L F c3 Y q)
def LA{z TI TO i1 i2 W l2}{T U:Nat}{xs ys:Array Value}{u v:Value}{Q:Fin->Shared->Prop}(hh:A.handled=none)(D:ZipApart z TI TO i1 i2 W l2) (hz:oy s.heap z TI TO .none) (R:gW s.heap TI (.ref i1) (.ref i2)) (Y:gW s.heap TO u v) (a1:rd b s.heap i1 W T) (a2:rd c s.heap i2 l2 U) (m1:rj b s.heap W xs) (m2:rj c s.heap l2 ys) (hend:xs[T]?=none\/ys[U]?=none) (hE:∀g e,(∀p o,p≠z->p≠TO->p≠i1->p≠i2->s.heap.get? p=some o->g.get? p=some o)->(∃o,g.get? e=some o/\o.cls=.type "StopIteration")->E (.ref e) {s with heap:=g}):aK (aT prog w) A (jG.«zip.__next__» ⟨[.ref z],[]⟩) Q E s:=by show aK _ _ (Nj (.ref z) 2>>=_) _ _ _;refine ab (fj hz rfl (x:=.bool false) rfl ?_);show aK _ _ (Nj (.ref z) 3>>=_) _ _ _;refine ab (fj hz rfl (x:=.ref TI) rfl ?_);refine ab (dB R rfl ?_);show aK _ _ (eL (.ref z)>>=_) _ _ _;refine ab ?_;dsimp only[eL];refine ab (fj hz rfl (x:=.none) rfl (aq ?_));simp only[sG];refine ab (nv ?_);refine ab (fj hz rfl (x:=.ref TO) rfl ?_);refine ab (ir hz (by simp) λS z1 e1=>?_);replace z1:oy S z TI TO .ellipsis:=z1;have f1:∀p o,p≠z->s.heap.get? p=some o->S.get? p=some o:=λp o n q=>e1.extBut p o n q;refine ab ?_;simp only[MT,Nl,xg,xY];refine ab (ab (uZ ?_));show aK _ _ (cy (.ref i1)>>=_) _ _ _;cases hx:xs[T]? with|none=>refine ab (rD hh (a1.at λo q=>f1 _ o D.i1z q) (m1.at λo q=>f1 _ o D.l1z q) hx λH e r he=>?_);obtain⟨Z,f,j⟩:=he;have z2:oy H z TI TO .ellipsis:=r _ _ D.i1z.symm z1;have hez:e≠z:=λx=>by{subst x;rw[z2] at f;obtain rfl:=bA f;simp at j};exact ir z2 (by simp) λX _ J=>hE X e (λp o I _ c3 _ x=>J.extBut _ _ I (r _ _ c3 (f1 _ _ I x))) ⟨Z,J.extBut _ _ hez f,j⟩|some x=>have hy:ys[U]?=none:=by{rcases hend with h|h;{rw[hx] at h;cases h};.exact h};refine ab (rC (a1.at λo q=>f1 _ o D.i1z q) (m1.at λo q=>f1 _ o D.l1z q) hx λH b2 e2=>aq ?_);have r:∀p o,p≠i1->S.get? p=some o->H.get? p=some o:=λp o n q=>e2.extBut p o n q;have t2:gW H TO u v:=r _ _ D.TOi1 (f1 _ _ D.TOz Y);refine ab (dB t2 rfl ?_);refine ab (sT t2 λX t3 J=>?_);have O:∀p o,p≠TO->H.get? p=some o->X.get? p=some o:=λp o n q=>J.extBut p o n q;refine ab (lM (aq ?_));refine ab (ab (uZ ?_));show aK _ _ (cy (.ref i2)>>=_) _ _ _;refine ab (rD hh (a2.at λo q=>O _ o D.TOi2.symm (r _ o D.i12.symm (f1 _ o D.i2z q))) (m2.at λo q=>O _ o D.l2TO (r _ o D.l2i1 (f1 _ o D.l2z q))) hy λg4 e f4 he=>?_);obtain⟨Z,f,j⟩:=he;have z4:oy g4 z TI TO .ellipsis:=f4 _ _ D.i2z.symm (O _ _ D.TOz.symm (r _ _ D.i1z.symm z1));have hez:e≠z:=λx=>by{subst x;rw[z4] at f;obtain rfl:=bA f;simp at j};exact ir z4 (by simp) λg5 _ e5=>hE g5 e (λp o I c2 c3 c4 x=>e5.extBut _ _ I (f4 _ _ c4 (O _ _ c2 (r _ _ c3 (f1 _ _ I x))))) ⟨Z,e5.extBut _ _ hez f,j⟩
def DH{z TI TO a d f h}{l m}{xs ys}{x y u v}{Q}(D:ZipApart z TI TO a d f h) (hz:oy s.heap z TI TO .none) (j:gW s.heap TI (.ref a) (.ref d)) (i:gW s.heap TO u v) (P:rd b s.heap a f l) (H:rd c s.heap d h m) (J:rj b s.heap f xs) (I:rj c s.heap h ys) (N:xs[l]?=some x) (R:ys[m]?=some y) (M:∀g,oy g z TI TO (cg s.heap.objs.size)->gW g TO x y->rd b g a f (l+1)->rd c g d h (m+1)->gW g s.heap.objs.size x y->g.objs.size=s.heap.objs.size+1->(∀p o,p≠z->p≠TO->p≠a->p≠d->s.heap.get? p=some o->g.get? p=some o)->Q (some (.ref s.heap.objs.size)) {s with heap:=g}):aK (aT prog w) A (jk (.ref z)) Q E s:=by have n:s.TypeIs (.ref z) "zip" :=⟨_,hz,rfl⟩;unfold jk;exact ab (jv (c6 (name:=aR "__next__") n qr (dE qr n RD (MH D hz j i P H J I N R λg G r L C t O B=>aq (M g G r L C t O B)) (Qy _))))
def Ea{z TI TO i h q k}{r t}{xs ys}{u v}{Q}(M:A.handled=none)(D:ZipApart z TI TO i h q k) (hz:oy s.heap z TI TO .none) (l:gW s.heap TI (.ref i) (.ref h)) (m:gW s.heap TO u v) (N:rd b s.heap i q r) (L:rd c s.heap h k t) (O:rj b s.heap q xs) (G:rj c s.heap k ys) (d:xs[r]?=none\/ys[t]?=none) (J:∀g,(∀p o,p≠z->p≠TO->p≠i->p≠h->s.heap.get? p=some o->g.get? p=some o)->Q none {s with heap:=g}):aK (aT prog w) A (jk (.ref z)) Q E s:=by have x:s.TypeIs (.ref z) "zip" :=⟨_,hz,rfl⟩;unfold jk;refine ab (jv (c6 (name:=aR "__next__") x qr (dE qr x RD (LA M D hz l m N L O G d λg e C I=>?_) (Qy _))));obtain⟨o,H,B⟩:=I;refine ab (lh (T:="StopIteration") (b:=true) ⟨o,H,B⟩ sU ?_);exact aq (J _ C)
end
def XZ(b:Bool):String:=if b=true then "tuple_iterator" else "list_iterator"
abbrev Qi(b:Bool)(h:Heap)(l1:aE):Heap:=h.push {cls:=.type (XZ b),data:=.fields #[.ref l1,.int 0 0]}
abbrev Y0(b c:Bool)(h:Heap)(l1 l2:aE):Heap:=(Qi b h l1).push {cls:=.type (XZ c),data:=.fields #[.ref l2,.int 0 0]}
abbrev Zb(b c:Bool)(h:Heap)(l1 l2:aE):Heap:=(Y0 b c h l1 l2).push {cls:=.type "tuple",data:=.seq #[.ref h.objs.size,.ref (Qi b h l1).objs.size]}
abbrev Y9(b c:Bool)(h:Heap)(l1 l2:aE):Heap:=(Zb b c h l1 l2).push {cls:=.type "tuple",data:=.seq #[.none,.none]}
abbrev Ve(b c:Bool)(h:Heap)(l1 l2:aE):Heap:=(Y9 b c h l1 l2).push {cls:=.type "zip",data:=.fields #[.none,.bool false,.bool false,.ref (Y0 b c h l1 l2).objs.size,.ref (Zb b c h l1 l2).objs.size]}
def oX{s}{b}{l}{xs}{Q}(h:rj b s.heap l xs) (g:Q (.ref s.heap.objs.size) {s with heap:=s.heap.push {cls:=.type (XZ b),data:=.fields #[.ref l,.int 0 0]}}):aK (aT prog w) A (yT (.ref l)) Q E s:=by rcases h with⟨q,h⟩|⟨q,h⟩;{subst q;exact RE h g};.subst q;exact oq h g
def zu(e:h.get? f=some {cls:=.type (XZ b),data:=.fields #[.ref l,.int 0 0]}):rd b h f l 0:=by cases b with|true=>exact .inl ⟨rfl,_,e,rfl,rfl⟩|false=>exact .inr ⟨rfl,_,e,rfl,rfl⟩
def Pf(b c:Bool)(l1 l2:aE)(xs ys:Array Value):Meets (jG.«zip.__new__» ⟨[.type "zip",.ref l1,.ref l2],[]⟩) (λ_ R s=>rj b s.heap l1 xs/\rj c s.heap l2 ys/\R (.ok (.ret (.ref (Y9 b c s.heap l1 l2).objs.size))) {s with heap:=Ve b c s.heap l1 l2}):=.of_wp λprog w A R s h=>by obtain⟨hp,g,d,tk,os⟩:=s;obtain⟨q1,q2,h⟩:=h;have hsub:=sub_zip;have r1:rj b (CD ⟨hp,g,d,tk,os⟩) l1 xs:=q1;have r2:rj c (CD ⟨hp.push {cls:=.type (XZ b),data:=.fields #[.ref l1,.int 0 0]},g,d,tk,os⟩) l2 ys:=q2.at λo e=>ae _ e;wp_walk using oX r1,oX r2;exact⟨_,rfl,h⟩
section
variable {prog:Program}{w:World}{A:Around}{E:Value->Shared->Prop}{s:Shared}
def Mb{a d}{xs ys}{Q}(y:rj b s.heap a xs)(m2:rj c s.heap d ys) (h:∀g,oy g (s.heap.objs.size+4) (s.heap.objs.size+2) (s.heap.objs.size+3) .none->gW g (s.heap.objs.size+2) (.ref s.heap.objs.size) (.ref (s.heap.objs.size+1))->gW g (s.heap.objs.size+3) .none .none->rd b g s.heap.objs.size a 0->rd c g (s.heap.objs.size+1) d 0->(∀p o,s.heap.get? p=some o->g.get? p=some o)->Q (.ref (s.heap.objs.size+4)) {s with heap:=g}):aK (aT prog w) A (call (.type "zip") [.ref a,.ref d]) Q E s:=by refine callType_new F.called_zip JN (F.typeCall_zip_2 _ _) (F.newCall_zip_2 _ _) (λj=>F.args_object_init_3 j _ _) F.entry_zip_new (Pf b c a d xs ys) ⟨y,m2,?_⟩;have n:(Qi b s.heap a).objs.size=s.heap.objs.size+1:=bR ..;have l:(Y0 b c s.heap a d).objs.size=s.heap.objs.size+2:=by{rw[bR,n]};have m:(Zb b c s.heap a d).objs.size=s.heap.objs.size+3:=by{rw[bR,l]};have u:(Y9 b c s.heap a d).objs.size=s.heap.objs.size+4:=by{rw[bR,m]};have i:(Ve b c s.heap a d).get? (Y9 b c s.heap a d).objs.size=some _:=ay _ rfl;have q:(Ve b c s.heap a d).get? (Zb b c s.heap a d).objs.size=some _:=ae _ (ay _ rfl);have g3:(Ve b c s.heap a d).get? (Y0 b c s.heap a d).objs.size=some _:=ae _ (ae _ (ay _ rfl));have g2:(Ve b c s.heap a d).get? (Qi b s.heap a).objs.size=some _:=ae _ (ae _ (ae _ (ay _ rfl)));have g1:(Ve b c s.heap a d).get? s.heap.objs.size=some _:=ae _ (ae _ (ae _ (ae _ (ay _ rfl))));show _/\_;rw[l,m,u] at i;rw[n,l] at g3;rw[m] at q;rw[n] at g2;rw[u];exact⟨⟨_,i,rfl⟩,h _ i g3 q (zu g1) (zu g2) λp o x=>ae _ (ae _ (ae _ (ae _ (ae _ x))))⟩
end
def J8(y:A.handled=none)(b)(c l)(m:l≠c)(items):
  Draws prog w A c [c,l] items.size (λi v=>items[i]?=some v) (λi h=>rd b h c l i/\rj b h l items) where
 live:=λ_ _ st=>let⟨o,B,_⟩:=st.1.obj;⟨o,B⟩
 frame:=λ_ _ _ st q=>⟨st.1.at λo e=>q c (by simp) o e,st.2.at λo e=>q l (by simp) o e⟩
 item:=λi s Q E hi st z=>by
  refine rC st.1 st.2 (x:=items[i]) (by simp) λg k n=>?_
  exact z _ g s.toks (by simp) ⟨k,st.2.at λo e=>n.extBut _ _ m e⟩ n
 done:=λs Q E st u=>rD y st.1 st.2 (by simp) u
def ME(b:Bool)(l:aE)(xs:Array Value):Meets (jG.«enumerate.__new__» ⟨[.type "enumerate",.ref l],[]⟩) (λ_ R s=>rj b s.heap l xs/\R (.ok (.ret (.ref (Qi b s.heap l).objs.size))) {s with heap:=(Qi b s.heap l).push {cls:=.type "enumerate",data:=.fields #[.none,.bool false,.ref s.heap.objs.size,cg 0,.none,.none]}}):=.of_wp λprog w A R s h=>by obtain⟨hp,g,d,tk,os⟩:=s;obtain⟨q1,h⟩:=h;have hsub:=sub_enumerate;have r1:rj b (CD ⟨hp,g,d,tk,os⟩) l xs:=q1;wp_walk;refine wpAny_stack_any λst=>aq ?_;split;{rename_i c _ _ _ _ _;cases(c==Value.type "enumerate");{wp_walk using oX r1;exact⟨_,rfl,h⟩};.wp_walk using oX r1;exact⟨_,rfl,h⟩};.wp_walk using oX r1;exact⟨_,rfl,h⟩
def IK{s:Shared}{b}{l:aE}{xs}{Q}(m:rj b s.heap l xs) (h:∀g,IsEnum g (s.heap.objs.size+1) s.heap.objs.size 0 .none->rd b g s.heap.objs.size l 0->(∀p o,s.heap.get? p=some o->g.get? p=some o)->Q (.ref (s.heap.objs.size+1)) {s with heap:=g}):aK (aT prog w) A (call (.type "enumerate") [.ref l]) Q E s:=by refine callType_new F.called_enumerate JN (F.typeCall_enumerate_1 _) (F.newCall_enumerate_1 _) (λf=>F.args_object_init_2 f _) F.entry_enumerate_new (ME b l xs) ⟨m,?_⟩;have k:(Qi b s.heap l).objs.size=s.heap.objs.size+1:=bR ..;show _/\_;rw[k];have n:IsEnum ((Qi b s.heap l).push {cls:=.type "enumerate",data:=.fields #[.none,.bool false,.ref s.heap.objs.size,cg 0,.none,.none]}) (s.heap.objs.size+1) s.heap.objs.size 0 .none:=by{have e:=ay (Qi b s.heap l) (o:={cls:=.type "enumerate",data:=.fields #[.none,.bool false,.ref s.heap.objs.size,cg 0,.none,.none]}) rfl;rw[k] at e;exact e};exact⟨⟨_,n,rfl⟩,h _ n (zu (ae _ (ay _ rfl))) λp o x=>ae _ (ae _ x)⟩
end DZ
namespace DL
open PySem PySem.Spec PyProof.Rows L2 DZ
inductive D where
 |ie|bl (b:Bool)|int (i:Int)|str (x:Str)|lst (l:List D)|tup (l:List D)|fn (f:Nat)
abbrev D.ints(l:List Int):D:=.lst (l.map .int)
abbrev D.rows(l:List (List Int)):D:=.lst (l.map D.ints)
section
variable (K:ah)(fa:Nat->aE)
mutual
inductive Rp(S:Hp):V->D->Prop
 |ie:Rp S .ie .ie
 |bl (b:Bool):Rp S (.bl b) (.bl b)
 |int (i:Int):Rp S (.int i) (.int i)
 |str (x:Str):Rp S (.str x) (.str x)
 |fn (f:Nat):Rp S (.ref (fa f)) (.fn f)
 |lst {a:aE} {xs:List V} {ds:List D}:Rd S a (.lst xs)->bN S xs ds->Rp S (.ref a) (.lst ds)
 |tup {a:aE} {xs:List V} {ds:List D}:qR K S a xs->bN S xs ds->Rp S (.ref a) (.tup ds)
inductive bN(S:Hp):List V->List D->Prop
 |nil:bN S [] []
 |cons {v:V} {d:D} {vs:List V} {ds:List D}:Rp S v d->bN S vs ds->bN S (v::vs) (d::ds)
end
end
def xj9{K:ah}{fa:Nat->aE}{S:Hp}{v i}(h:Rp K fa S v (.int i)):v=.int i:=by cases h;rfl
def xk0{K:ah}{fa:Nat->aE}{S:Hp}{v i}(h:Rp K fa S v (.bl i)):v=.bl i:=by cases h;rfl
def xk1{K:ah}{fa:Nat->aE}{S:Hp}{v i}(h:Rp K fa S v (.str i)):v=.str i:=by cases h;rfl
def zq2{K:ah}{fa:Nat->aE}{S:Hp}{v l}(h:Rp K fa S v (.lst l)):∃a x,v=.ref a/\Rd S a (.lst x)/\bN K fa S x l:=by cases h;exact⟨_,_,rfl,‹_›,‹_›⟩
def zq3{K:ah}{fa:Nat->aE}{S:Hp}{v l}(h:Rp K fa S v (.tup l)):∃a x,v=.ref a/\qR K S a x/\bN K fa S x l:=by cases h;exact⟨_,_,rfl,‹_›,‹_›⟩
def zq4{K:ah}{fa:Nat->aE}{S:Hp}{v d l}(h:bN K fa S v (d::l)):∃a x,v=a::x/\Rp K fa S a d/\bN K fa S x l:=by cases h;exact⟨_,_,rfl,‹_›,‹_›⟩
section
variable {K:ah}{fa:Nat->aE}{S S' S'' H H' H'':Hp}
def Rd.mono(e:eY S S'){a}{u}(h:Rd S a u):Rd S' a u:=by rcases h with h|⟨o,h⟩;{exact .inl (e _ _ h)};.exact .inr ⟨o,e _ _ h⟩
theorem qR.mono(e:eY S S'){a}{xs}(h:qR K S a xs):qR K S' a xs:=by rcases h with h|h;{exact .inl (Rd.mono e h)};.exact .inr h
mutual
theorem Rp.mono(e:eY S S'):∀(d:D) (v:V),Rp K fa S v d->Rp K fa S' v d
 |.ie,_,h=>by cases h;exact .ie
 |.bl _,_,h=>by cases h;exact .bl _
 |.int _,_,h=>by cases h;exact .int _
 |.str _,_,h=>by cases h;exact .str _
 |.fn _,_,h=>by cases h;exact .fn _
 |.lst ds,_,h=>by
  cases h with
  |lst q r=>exact .lst (Rd.mono e q) (bN.mono e ds _ r)
 |.tup ds,_,h=>by
  cases h with
  |tup q r=>exact .tup (qR.mono e q) (bN.mono e ds _ r)
theorem bN.mono(e:eY S S'):∀(ds:List D) (vs:List V),bN K fa S vs ds->bN K fa S' vs ds
 |[],_,h=>by cases h;exact .nil
 |d::ds,_,h=>by
  cases h with
  |cons q r=>exact .cons (Rp.mono e d _ q) (bN.mono e ds _ r)
end
def Rp.up(h:Rp K fa S v d)(e:eY S S'):Rp K fa S' v d:=Rp.mono e _ _ h
def bN.up(h:bN K fa S vs ds)(e:eY S S'):bN K fa S' vs ds:=bN.mono e _ _ h
theorem bN.length:∀{vs} {ds},bN K fa S vs ds->vs.length=ds.length|[],[],_=>rfl|[],_::_,h=>nomatch h|_::_,[],h=>nomatch h|_::vs,_::ds,h=>by cases h with|cons _ r=>rw[aI,aI,bN.length r]
theorem bN.get:∀{vs} {ds} {i:Nat} {d},bN K fa S vs ds->ds[i]?=some d->∃v,vs[i]?=some v/\Rp K fa S v d|_,_,_,_,.nil,e=>by simp at e|_,_,0,_,.cons r _,e=>by simp_all|_,_,i+1,x,.cons _ t,e=>by obtain ⟨u,c,f⟩:=bN.get (i:=i) (d:=x) t (by grind);simp_all
theorem bN.append{xs ys}{us a}(h:bN K fa S xs us)(s:bN K fa S ys a):bN K fa S (xs++ys) (us++a):=by induction xs generalizing us with|nil=>cases h;exact s|cons v xs i=>cases h with|cons r t=>exact .cons r (i t)
theorem bN.take:∀{xs} {us} (n),bN K fa S xs us->bN K fa S (xs.take n) (us.take n)|_,_,0,_=>.nil|_,_,_+1,.nil=>.nil|_,_,n+1,.cons r t=>.cons r (bN.take n t)
theorem bN.drop:∀{xs} {us} (n),bN K fa S xs us->bN K fa S (xs.drop n) (us.drop n)|_,_,0,r=>r|_,_,_+1,.nil=>.nil|_,_,n+1,.cons _ t=>bN.drop n t
theorem bN.set(r:Rp K fa S v d):∀{xs} {us} (i),bN K fa S xs us->bN K fa S (xs.set i v) (us.set i d)|_,_,_,.nil=>.nil|_,_,0,.cons _ t=>.cons r t|_,_,i+1,.cons q t=>.cons q (bN.set r i t)
theorem bN.ints:∀{ns:List Int} {vs},bN K fa S vs (ns.map D.int)->vs=ns.map V.int|[],_,h=>by cases h;rfl|n::ns,_,h=>by cases h with|cons q r=>obtain rfl:=xj9 q;rw[aX,bN.ints r]
theorem bN.PR:∀{ns:List Bool} {vs},bN K fa S vs (ns.map D.bl)->vs=ns.map V.bl|[],_,h=>by cases h;rfl|n::ns,_,h=>by cases h with|cons q r=>obtain rfl:=xk0 q;rw[aX,bN.PR r]
theorem bN.strs:∀{ns:List Str} {vs},bN K fa S vs (ns.map D.str)->vs=ns.map V.str|[],_,h=>by cases h;rfl|n::ns,_,h=>by cases h with|cons q r=>obtain rfl:=xk1 q;rw[aX,bN.strs r]
theorem bN.ofInts:∀(ns:List Int),bN K fa S (ns.map V.int) (ns.map D.int)|[]=>.nil|n::ns=>.cons (.int n) (bN.ofInts ns)
end
structure Ad where
 fa:Nat->aE
 C:aE
 tabs:List (aE×Pos×Str)
def qx:HO->Bool|.rf _=>true|_=>false
def SF:HO->Bool|.rf _=>true|.ext _=>true|_=>false
structure jz(a:Ad)(S H:Hp):Prop where
 at_:∀q∈a.tabs,S q.1=none/\(H q.1=some (.rf #[])\/∃c',H q.1=some (.rf #[cg q.2.1.line,cg q.2.1.col,.ref c'])/\H c'=some (.ext λh=>h.CodeRec (.ref c') q.2.2))
 all:∀p ps,H p=some (.rf ps)->∃q∈a.tabs,q.1=p
section
variable {a:Ad}{S S' S'' H H' H'':Hp}
def jz.to(h:jz a S H)(k:∀b o,H b=some o->SF o=true->H' b=some o)(n:∀b ps,H b=some (.rf ps)->S b=none->S' b=none)(m:∀b ps,H' b=some (.rf ps)->∃d,H b=some (.rf d)):jz a S' H':=by refine⟨λq j=>?_,λp ps r=>let⟨d,h'⟩:=m p ps r;h.all p d h'⟩;obtain⟨i,e|⟨l,e,s⟩⟩:=h.at_ q j;{exact⟨n _ _ e i,.inl (k _ _ e rfl)⟩};.exact⟨n _ _ e i,.inr ⟨l,k _ _ e rfl,k _ _ s rfl⟩⟩
theorem jz.IZ{o}(h:jz a S H)(r:qx o=false)(t:H p=none\/∃u,H p=some u/\SF u=false)(q:∀b,b≠p->S b=none->S' b=none):jz a S' (L2.IZ H p o):=by have l:∀b u,H b=some u->SF u=true->b≠p:=λb u c m z=>Eg;refine h.to (λb u c m=>by rw[aS (l b u c m)];exact c) (λb ps c s=>q b (l b _ c rfl) s) λb ps c=>?_;by_cases g:b=p;{subst g;rw[bh] at c;obtain rfl:=bA c;cases r};.rw[aS g] at c;grind
structure EB(a:Ad)(S H S' H':Hp):Prop where
 s:eY S S'
 h:eY S' H'
 k:∀p o,S p=none->H p=some o->qx o=false->H' p=some o/\S' p=none
 t:jz a S H->jz a S' H'
def EB.refl(e:eY S H):EB a S H S H:=⟨λ_ _ h=>h,e,λ_ _ n h _=>⟨h,n⟩,λh=>h⟩
theorem EB.trans(x:EB a S H S' H')(y:EB a S' H' S'' H''):EB a S H S'' H'':=⟨x.s.trans y.s,y.h,λp o n h z=>y.k p o (x.k p o n h z).2 (x.k p o n h z).1 z,λh=>y.t (x.t h)⟩
def gO(n:S p=none):eY S (IZ S p o):=λb u h=>by rw[aS (aY h n)];exact h
theorem EB.new(e:eY S H)(n:H p=none)(l:qx o=false:=by rfl):EB a S H (IZ S p o) (IZ H p o):=by have m:S p=none:=by{cases q:S p with|none=>rfl|some u=>rw[e p u q] at n;cases n};refine⟨gO m,λb u h=>?_,λb u s h _=>?_,λh=>h.IZ l (.inl n) λb i r=>by rw[aS i];exact r⟩;{by_cases i:b=p;{simp_all [bh]};.rw[aS i] at h⊢;exact e b u h};.have i:=aY h n;rw[aS i,aS i];trivial
def EB.vU(e:eY S H)(n:H p=none)(j:qx o=false:=by rfl):EB a S H S (IZ H p o):=by refine⟨λ_ _ h=>h,λb u h=>?_,λb u k h _=>?_,λh=>h.IZ j (.inl n) λb _ i=>i⟩;{rw[aS (aY (e b u h) n)];exact e b u h};.rw[aS (aY h n)];trivial
def EB.free(e:eY S H)(n:H p=none):S p=none:=by cases q:S p with|none=>rfl|some u=>rw[e p u q] at n;cases n
def EB.back(x:EB a S H S' H')(f:jz a S H)(n:H' p=none):H p=none:=by cases q:H p with|none=>rfl|some u=>cases z:S p with|some w=>rw[x.h p w (x.s p w z)] at n;cases n|none=>cases g:qx u with|false=>rw[(x.k p u z q g).1] at n;cases n|true=>(cases u<;>first|cases g|skip);obtain⟨r,i,rfl⟩:=f.all _ _ q;obtain⟨_,l|⟨_,l,_⟩⟩:=(x.t f).at_ r i;{simp_all};grind
end
inductive Ent where
 |pl (d:D)|ow (ds:List D)|ob (c n:D)
abbrev Ev:=List (Option Ent)
abbrev FC(b a:V):List (Str×V):=[("commas",b),("notes",a)]
inductive tD(K:ah)(a:Ad)(S H:Hp)(p:aE)(c n:D):Prop
 |mk(f e d)(_:H p=some (.ins a.C f (FC e d)))(_:Rp K a.fa S e c)(_:Rp K a.fa S d n)
def iu(ρ:Ev)(σ:L2.St)(i:Nat)(p:aE):Prop:=((∃ds,ρ[i]?=some (some (.ow ds)))\/∃c n,ρ[i]?=some (some (.ob c n)))/\σ[i]?=some (some (.ref p))
structure jt(K:ah)(a:Ad)(ρ:Ev)(S H:Hp)(σ:L2.St):Prop where
 sub:eY S H
 len:σ.length=ρ.length
 pl:∀(i:Nat) d,ρ[i]?=some (some (.pl d))->∃v,σ[i]?=some (some v)/\Rp K a.fa S v d
 ow:∀(i:Nat) ds,ρ[i]?=some (some (.ow ds))->∃p vs,σ[i]?=some (some (.ref p))/\S p=none/\H p=some (.lst vs)/\bN K a.fa S vs ds
 ob:∀(i:Nat) c n,ρ[i]?=some (some (.ob c n))->∃p,σ[i]?=some (some (.ref p))/\S p=none/\tD K a S H p c n
 ap:∀(i j:Nat) p,iu ρ σ i p->iu ρ σ j p->i=j
 tab:jz a S H
section
variable {K:ah}{a:Ad}{ρ ρ':Ev}{S S' S'' H H' H'':Hp}{σ σ':L2.St}
def iu.free(R:jt K a ρ S H σ){i}{p}(o:iu ρ σ i p):S p=none/\∃u,H p=some u:=by obtain⟨⟨ds,h⟩|⟨c,n,h⟩,e⟩:=o;{obtain ⟨q,vs,g,f,j,_⟩:=R.ow i ds h;grind};.obtain ⟨q,g,f,k,m,l,j,_⟩:=R.ob i c n h;grind
def jt.step(R:jt K a ρ S H σ)(s:EB a S H S' H'):jt K a ρ S' H' σ:=by refine⟨s.h,R.len,λi d h=>?_,λi ds h=>?_,λi c n h=>?_,R.ap,s.t R.tab⟩;{obtain ⟨v,e,r⟩:=R.pl i d h;exact⟨v,e,r.up s.s⟩};{obtain ⟨p,vs,e,n,g,r⟩:=R.ow i ds h;obtain ⟨j,l⟩:=s.k p _ n g rfl;exact⟨p,vs,e,l,j,r.up s.s⟩};.have⟨p,e,n,u,w,q,g,o,m⟩:=R.ob i _ _ h;obtain ⟨j,l⟩:=s.k p _ n g rfl;exact⟨p,e,l,u,w,q,j,o.up s.s,m.up s.s⟩
def MM{b:Type}{l:List b}{i j}{x y}(h:(l.set i x)[j]?=some y):(j=i/\y=x)\/(j≠i/\l[j]?=some y):=by rw[List.getElem?_set] at h;split at h;{split at h;{exact .inl ⟨Eq.symm ‹_›,(bA h).symm⟩};.cases h};.exact .inr ⟨Ne.symm ‹_›,h⟩
def zD{a:Type}{l:List a}{i}{x}(h:i<l.length):(l.set i x)[i]?=some x:=gQ h
theorem jt.set(R:jt K a ρ S H σ){i}{v}{d}(hi:i<ρ.length)(r:Rp K a.fa S v d):jt K a (ρ.set i (some (.pl d))) S H (σ.set i (some v)):=by have A:i<σ.length:=by{rw[R.len];exact hi};have own:∀{j p},iu (ρ.set i (some (.pl d))) (σ.set i (some v)) j p->iu ρ σ j p:=λ{j p} o=>by{have⟨o,e⟩:=o;have s:j≠i:=by{grind};rw[aU (λz=>s z.symm)] at o e;exact⟨o,e⟩};refine⟨R.sub,by rw[cb,cb];exact R.len,λj d' h=>?_,λj ds h=>?_,λj c n h=>?_,λj k p y x=>R.ap j k p (own y) (own x),R.tab⟩;{rcases MM h with⟨rfl,e⟩|⟨s,h⟩;{simp_all};.obtain⟨w,e,q⟩:=R.pl j d' h;exact⟨w,by rw[aU (λz=>s z.symm)];exact e,q⟩};{rcases MM h with⟨rfl,e⟩|⟨s,h⟩;{cases e};.obtain⟨p,vs,e,q⟩:=R.ow j ds h;grind};.rcases MM h with⟨rfl,e⟩|⟨s,h⟩;{cases e};.obtain⟨p,e,q⟩:=R.ob j c n h;exact⟨p,by rw[aU (λz=>s z.symm)];exact e,q⟩
def jt.Mu(R:jt K a ρ S H σ){i}{p}{vs}{ds}(hi:i<ρ.length)(n:H p=none)(r:bN K a.fa S vs ds):jt K a (ρ.set i (some (.ow ds))) S (IZ H p (.lst vs)) (σ.set i (some (.ref p))):=by have hs:i<σ.length:=by{rw[R.len];exact hi};have O:S p=none:=EB.free R.sub n;have own:∀{j q},iu (ρ.set i (some (.ow ds))) (σ.set i (some (.ref p))) j q->(j=i/\q=p)\/(j≠i/\q≠p/\iu ρ σ j q):=λ{j q} o=>by{obtain⟨o,e⟩:=o;by_cases hj:j=i;{simp_all};.rw[aU (λz=>hj z.symm)] at o e;obtain⟨_,u,J⟩:=iu.free R ⟨o,e⟩;exact .inr ⟨hj,aY J n,o,e⟩};refine⟨λb u h=>?_,by rw[cb,cb];exact R.len,λj d' h=>?_,λj ds' h=>?_,λj c m h=>?_,λj k q o1 o2=>?_,R.tab.IZ rfl (.inl n) λb _ h=>h⟩;{rw[aS (aY (R.sub b u h) n)];exact R.sub b u h};{rcases MM h with⟨rfl,e⟩|⟨hj,h⟩;{cases e};.obtain⟨w,e,q⟩:=R.pl j d' h;grind};{rcases MM h with⟨rfl,e⟩|⟨hj,h⟩;{simp_all [zD,bh]};.obtain⟨q,vs',e,n',h',I⟩:=R.ow j ds' h;exact⟨q,vs',by rw[aU (λz=>hj z.symm)];exact e,n',by rw[aS (aY h' n)];exact h',I⟩};{rcases MM h with⟨rfl,e⟩|⟨hj,h⟩;{cases e};.obtain⟨q,e,n',N,M,L,h',I,U⟩:=R.ob j c m h;exact⟨q,by rw[aU (λz=>hj z.symm)];exact e,n',N,M,L,by rw[aS (aY h' n)];exact h',I,U⟩};.rcases own o1 with⟨rfl,rfl⟩|⟨h1,P,o1⟩;{grind};.rcases own o2 with⟨rfl,rfl⟩|⟨_,_,o2⟩;{trivial};.exact R.ap j k q o1 o2
def jt.chg(R:jt K a ρ S H σ){i}{p}{vs}{ds l}(x:ρ[i]?=some (some (.ow l)))(B:σ[i]?=some (some (.ref p)))(r:bN K a.fa S vs ds):jt K a (ρ.set i (some (.ow ds))) S (IZ H p (.lst vs)) σ:=by have⟨W,L,I,U,J,_⟩:=R.ow i l x;rw[B] at I;cases I;have own:∀{j q},iu (ρ.set i (some (.ow ds))) σ j q->iu ρ σ j q:=λ{j q} o=>by{obtain ⟨o,e⟩:=o;by_cases s:j=i;{subst s;exact⟨.inl ⟨l,x⟩,e⟩};.rw[aU (λz=>s z.symm)] at o;exact⟨o,e⟩};refine⟨λb u h=>?_,by rw[cb];exact R.len,λj d' h=>?_,λj w h=>?_,λj c m h=>?_,λj k q T P=>R.ap j k q (own T) (own P),R.tab.IZ rfl (.inr ⟨_,J,rfl⟩) λb _ h=>h⟩;{have N:b≠p:=λz=>by{grind};rw[aS N];exact R.sub b u h};{rcases MM h with⟨rfl,e⟩|⟨s,h⟩;{cases e};.exact R.pl j d' h};{rcases MM h with⟨rfl,e⟩|⟨s,h⟩;{simp_all [bh]};.have⟨q,F,e,E,h',C⟩:=R.ow j w h;have A:q≠p:=λz=>s (R.ap j i p ⟨.inl ⟨w,h⟩,by simp_all⟩ ⟨.inl ⟨l,x⟩,B⟩);exact⟨q,F,e,E,by rw[aS A];exact h',C⟩};.rcases MM h with⟨rfl,e⟩|⟨s,h⟩;{cases e};.have⟨q,e,E,Q,M,O,h',C,U⟩:=R.ob j c m h;have A:q≠p:=λz=>s (R.ap j i p ⟨.inr ⟨c,m,h⟩,by simp_all⟩ ⟨.inl ⟨l,x⟩,B⟩);exact⟨q,e,E,Q,M,O,by rw[aS A];exact h',C,U⟩
def jt.freeze(R:jt K a ρ S H σ){i}{ds}(h0:ρ[i]?=some (some (.ow ds))):∃p vs,iu ρ σ i p/\H p=some (.lst vs)/\jt K a (ρ.set i (some (.pl (.lst ds)))) (IZ S p (.lst vs)) H σ:=by have⟨p,vs,e0,nS,hp,r⟩:=R.ow i ds h0;have sm:eY S (IZ S p (.lst vs)):=gO nS;have own:∀{j q},iu (ρ.set i (some (.pl (.lst ds)))) σ j q->j≠i/\iu ρ σ j q:=λ{j q} o=>by{obtain ⟨o,e⟩:=o;have hj:j≠i:=by{grind};rw[aU (λz=>hj z.symm)] at o;exact⟨hj,o,e⟩};refine⟨p,vs,⟨.inl ⟨ds,h0⟩,e0⟩,hp,λb u h=>?_,by rw[cb];exact R.len,λj d' h=>?_,λj ds' h=>?_,λj c m h=>?_,λj k q o1 o2=>R.ap j k q (own o1).2 (own o2).2,R.tab.to (λb o h _=>h) (λb ps h hs=>by rw[aS (Xq h hp Eg)];exact hs) λb ps h=>⟨ps,h⟩⟩;{by_cases hb:b=p;{subst hb;rw[bh] at h;simp_all};.rw[aS hb] at h;exact R.sub b u h};{rcases MM h with⟨rfl,e⟩|⟨hj,h⟩;{cases e;exact⟨.ref p,e0,.lst (.inl bh) (r.up sm)⟩};.obtain ⟨w,e,q⟩:=R.pl j d' h;exact⟨w,e,q.up sm⟩};{rcases MM h with⟨rfl,e⟩|⟨hj,h⟩;{cases e};.have⟨q,vs',e,n',h',r'⟩:=R.ow j ds' h;have hq:q≠p:=λz=>hj (R.ap j i p ⟨.inl ⟨ds',h⟩,by simp_all⟩ ⟨.inl ⟨ds,h0⟩,e0⟩);exact⟨q,vs',e,by rw[aS hq];exact n',h',r'.up sm⟩};.rcases MM h with⟨rfl,e⟩|⟨hj,h⟩;{cases e};.have⟨q,e,n',dx,v1,v2,h',r1,r2⟩:=R.ob j c m h;have hq:q≠p:=λz=>hj (R.ap j i p ⟨.inr ⟨c,m,h⟩,by simp_all⟩ ⟨.inl ⟨ds,h0⟩,e0⟩);exact⟨q,e,by rw[aS hq];exact n',dx,v1,v2,h',r1.up sm,r2.up sm⟩
def oK(ρ:Ev):List Nat->Ev|[]=>ρ|v::vs=>(oK ρ vs).set v none
theorem rT(ρ:Ev):∀vs:List Nat,(oK ρ vs).length=ρ.length|[]=>rfl|v::vs=>by dsimp only[oK];rw[cb,rT ρ vs]
theorem jS{ρ:Ev}{i:Nat}{x:Ent}:∀{vs:List Nat},(oK ρ vs)[i]?=some (some x)->ρ[i]?=some (some x)/\i∉vs|[],h=>⟨h,by simp⟩|v::vs,h=>by rcases MM h with⟨_,e⟩|⟨hj,h⟩;{cases e};.obtain⟨h1,h2⟩:=jS h;simp_all
theorem pV{σ:L2.St}{i:Nat}:∀{vs:List Nat},i∉vs->(wipe σ vs)[i]?=σ[i]?|[],_=>rfl|v::vs,h=>by simp only[aD,sM] at h;unfold wipe;rw[aU (λz=>h.1 z.symm)];exact pV h.2
theorem jt.wipe(R:jt K a ρ S H σ)(vs:List Nat):jt K a (oK ρ vs) S H (L2.wipe σ vs):=by have own:∀{j q},iu (oK ρ vs) (L2.wipe σ vs) j q->iu ρ σ j q:=λ{j q} o=>by{obtain⟨⟨ds,h⟩|⟨c,n,h⟩,e⟩:=o;{obtain⟨h1,h2⟩:=jS h;exact⟨.inl ⟨ds,h1⟩,by rw[<-pV h2];exact e⟩};.obtain⟨h1,h2⟩:=jS h;exact⟨.inr ⟨c,n,h1⟩,by rw[<-pV h2];exact e⟩};refine⟨R.sub,by rw[i8,rT];exact R.len,λj d' h=>?_,λj ds' h=>?_,λj c m h=>?_,λj k q o1 o2=>R.ap j k q (own o1) (own o2),R.tab⟩;{obtain⟨h1,h2⟩:=jS h;obtain⟨w,e,q⟩:=R.pl j d' h1;exact⟨w,by rw[pV h2];exact e,q⟩};{obtain⟨h1,h2⟩:=jS h;obtain⟨w,vs',e,q⟩:=R.ow j ds' h1;exact⟨w,vs',by rw[pV h2];exact e,q⟩};.obtain⟨h1,h2⟩:=jS h;obtain⟨w,e,q⟩:=R.ob j c m h1;exact⟨w,by rw[pV h2];exact e,q⟩
theorem wW{σ:L2.St}{i:Nat}{x:Option V}:∀{vs:List Nat},i∈vs->L2.wipe (σ.set i x) vs=L2.wipe σ vs|[],h=>by simp at h|v::vs,h=>by unfold L2.wipe;by_cases hv:i∈vs;{rw[wW hv]};.have e:i=v:=Eg;have q:∀{ws:List Nat},i∉ws->L2.wipe (σ.set i x) ws=(L2.wipe σ ws).set i x:=by{intro ws;induction ws with|nil=>intro _;rfl|cons w ws ih=>intro hw;simp only[aD,sM] at hw;unfold L2.wipe;rw[ih hw.2,List.set_comm _ _ hw.1]};simp_all
inductive Tg where
 |nm (i:Nat)|tp (l:List Nat)
def xQ(ρ:Ev)(i:Nat):Prop:=∃c n,ρ[i]?=some (some (.ob c n))
def sF(ρ:Ev)(i:Nat):Bool:=match ρ[i]? with|some (some (.ob _ _))=>false|some _=>true|none=>false
def lB{ρ:Ev}{i:Nat}(h:sF ρ i=true):i<ρ.length:=by unfold sF at h;grind
def vZ{ρ:Ev}{i:Nat}(h:sF ρ i=true):¬xQ ρ i:=by rintro⟨c,n,e⟩;unfold sF at h;simp_all
def qL{ρ:Ev}{σ:L2.St}{i:Nat}{x:Option Ent}{v:Option V}(h:¬xQ ρ i):∀j,xQ ρ j->xQ (ρ.set i x) j/\(σ.set i v)[j]?=σ[j]?:=λj o=>by have hj:i≠j:=λz=>h Eg;rw[aU hj];obtain⟨c,n,e⟩:=o;exact⟨⟨c,n,by simp_all⟩,rfl⟩
def bindL:List Nat->List D->Ev->Option Ev|[],[],ρ=>some ρ|i::l,d::ds,ρ=>if sF ρ i=true then bindL l ds (ρ.set i (some (.pl d))) else none|_,_,_=>none
def fO:Tg->D->Ev->Option Ev|.nm i,d,ρ=>if sF ρ i=true then some (ρ.set i (some (.pl d))) else none|.tp l,.tup ds,ρ=>bindL l ds ρ|_,_,_=>none
def Tg.slots:Tg->List Nat|.nm i=>[i]|.tp l=>l
end
section
variable (X:Cx)
def WE(e:Expr):TE:=λσ H Q=>∀(π:List (aE×Obj)) (s:Shared),IM X π σ H s->aK (aT X.prog X.w) X.A (cq e X.env) (EP X π σ Q) X.xe s
def WT(e:Expr):TT:=λσ H Q=>∀(π:List (aE×Obj)) (s:Shared),IM X π σ H s->aK (aT X.prog X.w) X.A (qB e X.env (cq e X.env)) (TP X π σ Q) X.xe s
def WW(e:Expr):TT:=λσ H Q=>∀(iA:Sem Value) (π:List (aE×Obj)) (s:Shared),IM X π σ H s->aK (aT X.prog X.w) X.A (qB e X.env iA) (TP X π σ Q) X.xe s
def WA(es:List Expr):TA:=λσ H Q=>∀(pos:Pos) (π:List (aE×Obj)) (s:Shared),IM X π σ H s->aK (aT X.prog X.w) X.A (spliced (dU pos (aH es X.env))) (AP X π σ Q) X.xe s
def Zc(st:List Stmt):TS:=λD σ H=>∀(π:List (aE×Obj)) (s:Shared),IM X π σ H s->aK (aT X.prog X.w) X.A (execs st X.env) (SP X π D) X.xe s
def WS(st:Stmt):TS:=λD σ H=>∀(π:List (aE×Obj)) (s:Shared),IM X π σ H s->aK (aT X.prog X.w) X.A (exec st X.env) (SP X π D) X.xe s
def WI(tg iter:Expr):TI:=λσ H R=>∀(π:List (aE×Obj)) (s:Shared),IM X π σ H s->aK (aT X.prog X.w) X.A (cq iter X.env) (λv s1=>aK (aT X.prog X.w) X.A (yT v) (Y3 X π σ tg R) X.xe s1) X.xe s
def WG(tg:Expr):TG:=λv σ H Q=>∀(π:List (aE×Obj)) (s:Shared) (u:Value),IM X π σ H s->Sk v u->aK (aT X.prog X.w) X.A (qD tg X.env u) (λ_ s'=>∃σ' H',IM X π σ' H' s'/\Q σ' H') X.xe s
end
section
variable {X:Cx}{e:Expr}
def b9:PE X e (WE X e):=λπ s σ H Q I h=>h π s I
def rB:PT X e (WT X e):=λπ s σ H Q I h=>h π s I
def Rf:PW X e (WW X e):=λwh π s σ H Q I h=>h wh π s I
def ka{es:List Expr}:PA X es (WA X es):=λpos π s σ H Q I h=>h pos π s I
def rH{st:List Stmt}:CQ X st (Zc X st):=λπ s σ H D I h=>h π s I
def Wu{st:Stmt}:PS X st (WS X st):=λπ s σ H D I h=>h π s I
def Um{tg iter:Expr}:PI X tg iter (WI X tg iter):=λπ s σ H R I h=>h π s I
def ZW{tg:Expr}:PG X tg (WG X tg):=λπ s σ H v u Q I r h=>h π s u I r
def dY{t:TE}(h:PE X e t){σ:L2.St}{H:Hp}{Q:VK}(q:t σ H Q):WE X e σ H Q:=λπ s I=>h π s σ H Q I q
def Bn{t:TT}(h:PT X e t){σ:L2.St}{H:Hp}{Q:Bool->Hp->Prop}(q:t σ H Q):WT X e σ H Q:=λπ s I=>h π s σ H Q I q
def Fd{t:TT}(h:PW X e t){σ:L2.St}{H:Hp}{Q:Bool->Hp->Prop}(q:t σ H Q):WW X e σ H Q:=λwh π s I=>h wh π s σ H Q I q
def AW{es:List Expr}{t:TA}(h:PA X es t){σ:L2.St}{H:Hp}{Q:List V->Hp->Prop}(q:t σ H Q):WA X es σ H Q:=λpos π s I=>h pos π s σ H Q I q
def Dz{st:List Stmt}{t:TS}(h:CQ X st t){σ:L2.St}{H:Hp}{D:Ends}(q:t D σ H):Zc X st D σ H:=λπ s I=>h π s σ H D I q
def jK{st:Stmt}{t:TS}(h:PS X st t){σ:L2.St}{H:Hp}{D:Ends}(q:t D σ H):WS X st D σ H:=λπ s I=>h π s σ H D I q
def wm{tg iter:Expr}{t:TI}(h:PI X tg iter t){σ:L2.St}{H:Hp}{R:It->Hp->Prop}(q:t σ H R):WI X tg iter σ H R:=λπ s I=>h π s σ H R I q
def Rk{tg:Expr}{t:TG}(h:PG X tg t){v:V}{σ:L2.St}{H:Hp}{Q:L2.St->Hp->Prop}(q:t v σ H Q):WG X tg v σ H Q:=λπ s u I r=>h π s σ H v u Q I r q
def Ug{σ:L2.St}{H:Hp}{Q:VK}(h:(∃π s,IM X π σ H s)->WE X e σ H Q):WE X e σ H Q:=λπ s I=>h ⟨π,s,I⟩ π s I
end
section
variable (a:Ad)(X:Cx)(ρ:Ev)
def ED(e:Expr)(d:D):Prop:=∀S H σ,jt X.K a ρ S H σ->∀Q:VK,(∀v S' H',EB a S H S' H'->Rp X.K a.fa S' v d->Q v H')->WE X e σ H Q
def FD(e:Expr)(ds:List D):Prop:=∀S H σ,jt X.K a ρ S H σ->∀Q:VK,(∀p vs S' H',EB a S H S' H'->H' p=none->bN X.K a.fa S' vs ds->Q (.ref p) (IZ H' p (.lst vs)))->WE X e σ H Q
def TD(e:Expr)(b:Bool):Prop:=∀S H σ,jt X.K a ρ S H σ->∀Q:Bool->Hp->Prop,(∀S' H',EB a S H S' H'->Q b H')->WT X e σ H Q
def WD(e:Expr)(b:Bool):Prop:=∀S H σ,jt X.K a ρ S H σ->∀Q:Bool->Hp->Prop,(∀S' H',EB a S H S' H'->Q b H')->WW X e σ H Q
def AD(es:List Expr)(ds:List D):Prop:=∀S H σ,jt X.K a ρ S H σ->∀Q:List V->Hp->Prop,(∀vs S' H',EB a S H S' H'->bN X.K a.fa S' vs ds->Q vs H')->WA X es σ H Q
def Sy(K:ah)(J:It)(S:Hp)(ds:List D):Prop:=∀S1 H1,eY S S1->eY S1 H1->(∀(i:Nat) d,ds[i]?=some d->J.go i H1/\∀x H2,J.YT i H1 x H2->∃S2,EB a S1 H1 S2 H2/\Rp K a.fa S2 x d)/\J.stop ds.length H1
def ID(tg iter:Expr)(ds:List D):Prop:=∀S H σ,jt X.K a ρ S H σ->∀R:It->Hp->Prop,(∀J S' H',EB a S H S' H'->Sy a X.K J S' ds->ds.length<=aG->R J H')->WI X tg iter σ H R
end
def FD.ed{a:Ad}{X:Cx}{ρ:Ev}{e:Expr}{ds:List D}(h:FD a X ρ e ds):ED a X ρ e (.lst ds):=λS H σ R Q q=>h S H σ R Q λp vs S' H' s n r=>q _ _ _ (s.trans (EB.new s.h n)) (.lst (.inl bh) (r.up (gO (EB.free s.h n))))
set_option genInjectivity false
inductive Y1 where|add|sub|mul|fdiv|mod|shr|cat
inductive Cm where|lt|le|gt|ge|eq|ne
inductive Bi where|len|abs|max2|DI|sum|all|any|ord|He
inductive E where
 |var (i:Nat)|con (d:D)|jg (j:Nat)
 |neg (a:E)|nt (a:E)|tv (a:E)
 |bin (o:Y1) (a b:E)|cmp (o:Cm) (a b:E)|Vx (a b:E)
 |Ym (a:E)|Vd (a:E)|IU (a b:E)
 |Hh (o p:Cm) (a b c:E)
 |an (a b:E)|or (a b:E)|one (a:E)
 |ite (c a b:E)
 |nil|cons (a r:E)
 |cM (f:Nat) (args:E)|HL (i:Nat) (args:E)
 |bi (b:Bi) (args:E)
 |Tz (a:E)
 |tup (args:E)|lst (args:E)
 |ix (a b:E)|sl (a lo hi:E)|np|pt (a:E)
 |lc (elt:E) (tg:Tg) (it:E) (own:List Nat)
 |LV (elt:E) (tg:Tg) (it c:E) (own:List Nat)
 |wq (a:E)|zV (a b:E)|AL (a b c:E)|zip (a b:E)|DW (a:E)|uf (a:E)
 |bl (a:E)|idx (a b:E)|join (x:Str) (a:E)
 |Xo (a:E)|Yr (a b:E)
 |La (a:E) (n:Int)
 |oT (a:E)|qf (a:E)|vG (a:E)|Lr (i j:Nat)|T6 (a:E)
 |xH (j:Nat) (a:E)|Vb (j:Nat) (a:E)
 |Vc (i:Nat) (a:E)|xG (i:Nat)
 |fld (i:Nat) (b:Bool)|Ci (f:Nat) (i:Nat) (args:E)
inductive S where
 |nil
 |JE (i:Nat) (e:E) (r:S)
 |own (i:Nat) (e:E) (r:S)
 |xF (i:Nat) (a e:E) (r:S)
 |app (i:Nat) (e:E) (r:S)
 |ext (i:Nat) (e:E) (r:S)
 |ret (e:E)
 |ifs (c:E) (a b:S) (r:S)
 |kF (c:E) (b:S) (r:S)
 |fr (tg:Tg) (it:E) (b:S) (r:S)
 |brk|cnt
 |Ef (i:Nat) (r:S)
 |D2 (j f i:Nat) (args:E) (r:S)
 |rJ (f i:Nat) (args:E)
 |uQ (v i:Nat) (args:E)
 |CS (f i:Nat) (args:E) (r:S)
 |sr (i:Nat) (b:Bool) (e:E) (r:S)
 |EL (i j:Nat)
 |EM (j:Nat) (e:E) (r:S)
def gZ(i:Int):Prop:=dJ i<=1048576
instance (i:Int):Decidable (gZ i):=by unfold gZ;infer_instance
def Sd:Y1->D->D->Option D|.add,.int i,.int j=>some (.int (i+j))|.sub,.int i,.int j=>some (.int (i -j))|.mul,.int i,.int j=>if gZ i/\gZ j then some (.int (i*j)) else none|.fdiv,.int i,.int j=>if j≠0/\j.natAbs.log2<9000 then some (.int (i.fdiv j)) else none|.mod,.int i,.int j=>if j≠0 then some (.int (i.fmod j)) else none|.shr,.int i,.int j=>if 0<=j then some (.int (i/2^j.toNat)) else none|.cat,.lst x,.lst y=>if x.length+y.length<=aG then some (.lst (x++y)) else none|_,_,_=>none
def fU:Cm->Int->Int->Bool|.lt,i,j=>decide (i<j)|.le,i,j=>decide (i<=j)|.gt,i,j=>decide (j<i)|.ge,i,j=>decide (j<=i)|.eq,i,j=>decide (i=j)|.ne,i,j=>!decide (i=j)
def cmD(o:Cm):D->D->Option D|.int i,.int j=>some (.bl (fU o i j))|_,_=>none
def jq4(d:D)(f:Int->Option α):Option α:=match d with|.int i=>f i|_=>none
def jq7(d:D)(f:Bool->Option α):Option α:=match d with|.bl i=>f i|_=>none
def jq5(d:D)(f:List D->Option α):Option α:=match d with|.tup i=>f i|_=>none
def jq6(l:List D)(f:D->D->Option α):Option α:=match l with|[x,y]=>f x y|_=>none
section
variable {r:α}{R:D->Prop}
@[elab_as_elim] theorem jq8 (d:D) {f} (h:jq4 d f=some r) (k:∀i,f i=some r->R (.int i)):R d:=by cases d<;>first|exact k _ h|exact nomatch h
@[elab_as_elim] theorem jx1 (d:D) {f} (h:jq7 d f=some r) (k:∀i,f i=some r->R (.bl i)):R d:=by cases d<;>first|exact k _ h|exact nomatch h
@[elab_as_elim] theorem jq9 (d:D) {f} (h:jq5 d f=some r) (k:∀i,f i=some r->R (.tup i)):R d:=by cases d<;>first|exact k _ h|exact nomatch h
@[elab_as_elim] theorem jx0 (l:List D) {R:List D->Prop} {f} (h:jq6 l f=some r) (k:∀x y,f x y=some r->R [x,y]):R l:=by cases l with|nil=>cases h|cons x l=>cases l with|nil=>cases h|cons y l=>cases l<;>first|exact k _ _ h|exact nomatch h
end
def Se:List D->Option (List Int)|[]=>some []|d::r=>jq4 d λi=>(Se r).map (i::·)
def n4:List D->Option (List Bool)|[]=>some []|d::r=>jq7 d λi=>(n4 r).map (i::·)
def strsOf:List D->Option (List Str)|[]=>some []|.str i::r=>(strsOf r).map (i::·)|_::_=>none
def wC:List D->Option (List (Int×Int))|[]=>some []|d::r=>jq5 d λl=>jq6 l λx y=>jq4 x λi=>jq4 y λj=>(wC r).map ((i,j)::·)
def Ww:D->D->Option D
 |.lst x,.lst y=>match Se x,Se y with|some a,some b=>some (.bl (decide (a=b)))|_,_=>none
 |_,_=>none
def GQ:D->D->Option D
 |.int i,.lst y=>match Se y with|some b=>some (.bl (!b.contains i))|none=>none
 |_,_=>none
def least:Int->List Int->Int|m,[]=>m|m,x::r=>least (if x<m then x else m) r
def most:Int->List Int->Int|m,[]=>m|m,x::r=>most (if m<x then x else m) r
def Wd:Bi->D->Option D
 |.len,.lst l=>some (.int l.length)
 |.len,.tup l=>some (.int l.length)
 |.abs,.int i=>some (.int (if i<0 then -i else i))
 |.DI,.lst l=>match Se l with|some (x::r)=>some (.int (least x r))|_=>none
 |.He,.lst l=>match Se l with|some (x::r)=>some (.int (most x r))|_=>none
 |.sum,.lst l=>match Se l with|some r=>some (.int r.sum)|_=>none
 |.all,.lst l=>match n4 l with|some r=>some (.bl (r.all id))|_=>none
 |.any,.lst l=>match n4 l with|some r=>some (.bl (r.any id))|_=>none
 |.ord,.str x=>if x.length=1 then some (.int (x.cps.getD 0 0:Nat)) else none
 |_,_=>none
def Wn:D->D->Bi->Option D|.int i,.int j,.max2=>some (.int (if j>i then j else i))|_,_,_=>none
def II(b:Bi):List D->Option D|[x]=>Wd b x|[x,y]=>Wn x y b|_=>none
def SM:D->D->Option D|.lst l,.int i=>yB l i|.tup l,.int i=>yB l i|_,_=>none
def Ca:D->Option (Option Int)|.ie=>some none|.int i=>some (some i)|_=>none
def cutD(xs:List D)(lo hi:Option Int):List D:=(xs.drop (HT.xS xs.length 0 lo)).take (HT.xS xs.length xs.length hi -HT.xS xs.length 0 lo)
def YX:D->D->D->Option D
 |.lst l,a,b=>match Ca a,Ca b with|some lo,some hi=>some (.lst (cutD l lo hi))|_,_=>none
 |_,_,_=>none
def itD:D->Option D|.lst l=>some (.lst l)|.tup l=>some (.lst l)|.str x=>if x.length<=aG then some (.lst (x.cps.toList.map λc=>.str ⟨#[c]⟩)) else none|_=>none
def oj:D->Option (List D)|.lst l=>some l|.tup l=>some l|_=>none
def Ds(a b:D):Option D:=match oj a,oj b with|some x,some y=>some (.lst ((x.zip y).map λp=>.tup [p.1,p.2]))|_,_=>none
def gx:Nat->List D->List D|_,[]=>[]|k,x::r=>.tup [.int k,x]::gx (k+1) r
def EU(a:D):Option D:=match oj a with|some x=>some (.lst (gx 0 x))|_=>none
def iD(lo c:Int):Nat->List D|0=>[]|n+1=>.int lo::iD (lo+c) c n
def lP(i j c:Int):Nat:=if i<j then((j -i -1)/c+1).toNat else 0
def o7(i j c:Int):Option D:=if 0<c/\c<1000/\ -1000000000000000001<i/\i<1000000000000000001/\ -1000000000000000001<j/\j<1000000000000000001/\lP i j c<=aG then some (.lst (iD i c (lP i j c))) else none
def F0:D->Option D|.int j=>o7 0 j 1|_=>none
def Fm:D->D->Option D|.int i,.int j=>o7 i j 1|_,_=>none
def F4:D->D->D->Option D|.int i,.int j,.int c=>o7 i j c|_,_,_=>none
def blD:D->Option D|.int i=>some (.int (dJ i))|_=>none
def W3:D->D->Option D
 |.lst l,.int i=>match Se l with|some r=>if i∈r then some (.int (r.findIdx (·==i))) else none|none=>none
 |_,_=>none
def QS(x:Str):D->Option D
 |.lst l=>match strsOf l with|some r=>if(r.map (·.length)).sum+r.length*x.length<=16777216 then some (.str (kJ x r)) else none|none=>none
 |_=>none
def txt(i:Int):Str:=aR (toString i)
def Ye:D->Option D|.int i=>if i.natAbs.log2<1920 then some (.str (txt i)) else none|_=>none
def Xr:D->D->Option D|.int i,.int j=>if i.natAbs.log2<1920/\j.natAbs.log2<1920 then some (.str (lU++txt i++aR "/" ++txt j)) else none|_,_=>none
def BD(n:Int):D->Option D
 |.lst l=>match Se l with|some []=>some (.int n)|some (x::r)=>some (.int (most x r))|none=>none
 |_=>none
def tQ(x:Int):List Int->List Int|[]=>[x]|y::r=>if x<y then x::y::r else if x=y then y::r else y::tQ x r
def kg(l:List Int):List Int:=l.foldr tQ []
def FQ:D->Option D
 |.lst l=>match Se l with|some r=>if r.length<=4000 then some (.int (kg r).length) else none|none=>none
 |_=>none
def Cj:D->Option D
 |.lst l=>match Se l with|some r=>if r.length<64 then some (.ints (kg r)) else none|none=>none
 |_=>none
def AE(x y:Int×Int):Bool:=decide (x.1<y.1)||(decide (x.1=y.1)&&decide (x.2<=y.2))
def EZ(x:Int×Int):List (Int×Int)->List (Int×Int)|[]=>[x]|y::r=>if AE x y=true then x::y::r else y::EZ x r
def su(l:List (Int×Int)):List (Int×Int):=l.foldr EZ []
def Du:D->Option D
 |.lst l=>match wC l with|some r=>if r.length<=aG then some (.lst ((su r).map λp=>.tup [.int p.1,.int p.2])) else none|none=>none
 |_=>none
def oM(f:Nat->Int)(x:Nat):List Nat->List Nat|[]=>[x]|y::r=>if f y<f x then y::oM f x r else x::y::r
def l9(f:Nat->Int)(l:List Nat):List Nat:=l.foldr (oM f) []
def Dy:D->D->Option D
 |.lst a,.lst b=>match Se b with|some ns=>if a.length<=ns.length/\a.length<=1000 then some (.ints ((l9 (λi=>ns.getD i 0) (aj a.length)).map λ(i:Nat)=>(i:Int))) else none|none=>none
 |_,_=>none
def keyed:List D->Option (List (D×Int))|[]=>some []|d::r=>jq5 d λl=>jq6 l λx y=>jq4 y λk=>(keyed r).map ((.tup [x,.int k],k)::·)
def my:D×Int->List (D×Int)->D|m,[]=>m.1|m,x::r=>my (if x.2<m.2 then x else m) r
def GB:D->Option D
 |.lst l=>match keyed l with|some (x::r)=>some (my x r)|_=>none
 |_=>none
structure Gm where
 d3:Nat->List D->Option D
 Vm:Nat->Option D
 del:Nat->List (Int×D)
 j4:Nat->D->D->List D->Option (D×D×D)
 M4:Nat->D->D->List D->Option D
 cv:List Nat
 Hn:List Nat
def uR(f:D->Option (Option D)):List D->Option (List D)|[]=>some []|x::r=>match f x with|none=>none|some none=>uR f r|some (some y)=>(uR f r).map (y::·)
section
variable (G:Gm)
def ev:E->Ev->Option D
 |.var i,ρ=>match ρ[i]? with|some (some (.pl d))=>some d|_=>none
 |.con d,_=>some d
 |.jg j,_=>G.Vm j
 |.neg a,ρ=>match ev a ρ with|some (.int i)=>some (.int (-i))|_=>none
 |.nt a,ρ=>match ev a ρ with|some (.bl b)=>some (.bl (!b))|_=>none
 |.tv a,ρ=>match ev a ρ with|some (.bl b)=>some (.bl b)|_=>none
 |.bin o a b,ρ=>match ev a ρ,ev b ρ with|some x,some y=>Sd o x y|_,_=>none
 |.cmp o a b,ρ=>match ev a ρ,ev b ρ with|some x,some y=>cmD o x y|_,_=>none
 |.Vx a b,ρ=>match ev a ρ,ev b ρ with|some x,some y=>Ww x y|_,_=>none
 |.Ym a,ρ=>match ev a ρ with|some .ie=>some (.bl true)|some _=>some (.bl false)|none=>none
 |.Vd a,ρ=>match ev a ρ with|some .ie=>some (.bl false)|some _=>some (.bl true)|none=>none
 |.IU a b,ρ=>match ev a ρ,ev b ρ with|some x,some y=>GQ x y|_,_=>none
 |.Hh o p a b c,ρ=>match ev a ρ,ev b ρ with|some (.int x),some (.int y)=>if fU o x y=true then(match ev c ρ with|some (.int z)=>some (.bl (fU p y z))|_=>none) else some (.bl false)|_,_=>none
 |.an a b,ρ=>match ev a ρ with|some (.bl true)=>(match ev b ρ with|some (.bl c)=>some (.bl c)|_=>none)|some (.bl false)=>some (.bl false)|_=>none
 |.or a b,ρ=>match ev a ρ with|some (.bl true)=>some (.bl true)|some (.bl false)=>(match ev b ρ with|some (.bl c)=>some (.bl c)|_=>none)|_=>none
 |.one a,ρ=>ev a ρ
 |.ite c a b,ρ=>match ev c ρ with|some (.bl true)=>ev a ρ|some (.bl false)=>ev b ρ|_=>none
 |.nil,_=>some (.lst [])
 |.cons a r,ρ=>match ev a ρ,ev r ρ with|some x,some (.lst l)=>some (.lst (x::l))|_,_=>none
 |.cM f a,ρ=>match ev a ρ with|some (.lst l)=>G.d3 f l|_=>none
 |.HL i a,ρ=>match ρ[i]?,ev a ρ with|some (some (.pl (.fn f))),some (.lst l)=>if f∈G.cv then G.d3 f l else none|_,_=>none
 |.bi b a,ρ=>match ev a ρ with|some (.lst l)=>II b l|_=>none
 |.Tz a,ρ=>match ev a ρ with|some d=>(oj d).map .lst|_=>none
 |.tup a,ρ=>match ev a ρ with|some (.lst l)=>some (.tup l)|_=>none
 |.lst a,ρ=>ev a ρ
 |.ix a b,ρ=>match ev a ρ,ev b ρ with|some x,some y=>SM x y|_,_=>none
 |.sl a b c,ρ=>match ev a ρ,ev b ρ,ev c ρ with|some x,some y,some z=>YX x y z|_,_,_=>none
 |.np,_=>some .ie
 |.pt a,ρ=>match ev a ρ with|some (.int i)=>some (.int i)|_=>none
 |.lc e t i own,ρ=>match ev i ρ with|some (.lst xs)=>(uR (λx=>match fO t x (oK ρ own) with|some g=>(ev e g).map some|none=>none) xs).map .lst|_=>none
 |.LV e t i c own,ρ=>match ev i ρ with|some (.lst xs)=>(uR (λx=>match fO t x (oK ρ own) with|some g=>(match ev c g with|some (.bl true)=>(ev e g).map some|some (.bl false)=>some none|_=>none)|none=>none) xs).map .lst|_=>none
 |.wq a,ρ=>match ev a ρ with|some x=>F0 x|none=>none
 |.zV a b,ρ=>match ev a ρ,ev b ρ with|some x,some y=>Fm x y|_,_=>none
 |.AL a b c,ρ=>match ev a ρ,ev b ρ,ev c ρ with|some x,some y,some z=>F4 x y z|_,_,_=>none
 |.zip a b,ρ=>match ev a ρ,ev b ρ with|some x,some y=>Ds x y|_,_=>none
 |.DW a,ρ=>match ev a ρ with|some x=>EU x|none=>none
 |.uf a,ρ=>match ev a ρ with|some x=>itD x|none=>none
 |.bl a,ρ=>match ev a ρ with|some x=>blD x|none=>none
 |.idx a b,ρ=>match ev a ρ,ev b ρ with|some x,some y=>W3 x y|_,_=>none
 |.join s a,ρ=>match ev a ρ with|some x=>QS s x|none=>none
 |.Xo a,ρ=>match ev a ρ with|some x=>Ye x|none=>none
 |.Yr a b,ρ=>match ev a ρ,ev b ρ with|some x,some y=>Xr x y|_,_=>none
 |.La a n,ρ=>match ev a ρ with|some x=>BD n x|none=>none
 |.oT a,ρ=>match ev a ρ with|some x=>FQ x|none=>none
 |.qf a,ρ=>match ev a ρ with|some x=>Cj x|none=>none
 |.vG a,ρ=>match ev a ρ with|some x=>Du x|none=>none
 |.Lr i j,ρ=>match ρ[i]?,ρ[j]? with|some (some (.pl x)),some (some (.pl y))=>Dy x y|_,_=>none
 |.T6 a,ρ=>match ev a ρ with|some x=>GB x|none=>none
 |.xH j a,ρ=>match ev a ρ with|some (.int i)=>(G.del j).lookup i|_=>none
 |.Vb j a,ρ=>match ev a ρ with|some (.int i)=>some (.bl ((G.del j).lookup i).isSome)|_=>none
 |.Vc i a,ρ=>match ρ[i]?,ev a ρ with|some (some (.ow l)),some (.int j)=>yB l j|_,_=>none
 |.xG i,ρ=>match ρ[i]? with|some (some (.ow l))=>some (.int l.length)|_=>none
 |.fld i b,ρ=>match ρ[i]? with|some (some (.ob c n))=>some (if b=true then n else c)|_=>none
 |.Ci f i a,ρ=>match ρ[i]?,ev a ρ with|some (some (.ob c n)),some (.lst l)=>G.M4 f c n l|_,_=>none
end
def Yi:Option Ent->Option Ent|some (.ow ds)=>some (.pl (.lst ds))|x=>x
def B8:Ev->Ev|[]=>[]|x::r=>Yi x::B8 r
inductive Out where
 |nx (ρ:Ev)|rt (d:D) (ρ:Ev)|bk (ρ:Ev)|ct (ρ:Ev)
inductive Cf where
 |st (s:S)|lp (t:Tg) (b:S) (xs:List D)|wl (c:E) (b:S)
class inductive Ex(G:Gm):Cf->Ev->Out->Prop
 |nil {ρ}:Ex G (.st .nil) ρ (.nx ρ)
 |JE {ρ i e r d o}:ev G e ρ=some d->sF ρ i=true->Ex G (.st r) (ρ.set i (some (.pl d))) o->Ex G (.st (.JE i e r)) ρ o
 |own {ρ i e r ds o}:ev G e ρ=some (.lst ds)->sF ρ i=true->Ex G (.st r) (ρ.set i (some (.ow ds))) o->Ex G (.st (.own i e r)) ρ o
 |xF {ρ i a e r j d ds n o}:ev G e ρ=some d->ev G a ρ=some (.int j)->ρ[i]?=some (some (.ow ds))->Fi ds.length j=some n->Ex G (.st r) (ρ.set i (some (.ow (ds.set n d)))) o->Ex G (.st (.xF i a e r)) ρ o
 |app {ρ i e r d ds o}:ev G e ρ=some d->ρ[i]?=some (some (.ow ds))->ds.length<aG->Ex G (.st r) (ρ.set i (some (.ow (ds++[d])))) o->Ex G (.st (.app i e r)) ρ o
 |ext {ρ i e r d l ds o}:ev G e ρ=some d->oj d=some l->ρ[i]?=some (some (.ow ds))->ds.length+l.length<=aG->Ex G (.st r) (ρ.set i (some (.ow (ds++l)))) o->Ex G (.st (.ext i e r)) ρ o
 |ret {ρ e d}:ev G e (B8 ρ)=some d->Ex G (.st (.ret e)) ρ (.rt d (B8 ρ))
 |Jn {ρ c a b r gf o}:ev G c ρ=some (.bl true)->Ex G (.st a) ρ (.nx gf)->Ex G (.st r) gf o->Ex G (.st (.ifs c a b r)) ρ o
 |iff {ρ c a b r gf o}:ev G c ρ=some (.bl false)->Ex G (.st b) ρ (.nx gf)->Ex G (.st r) gf o->Ex G (.st (.ifs c a b r)) ρ o
 |fH {ρ c a b r o}:ev G c ρ=some (.bl true)->Ex G (.st a) ρ o->(∀ρ',o≠.nx ρ')->Ex G (.st (.ifs c a b r)) ρ o
 |VW {ρ c a b r o}:ev G c ρ=some (.bl false)->Ex G (.st b) ρ o->(∀ρ',o≠.nx ρ')->Ex G (.st (.ifs c a b r)) ρ o
 |EL {ρ i j x y d}:ρ[i]?=some (some (.pl x))->ρ[j]?=some (some (.pl y))->Dy x y=some d->Ex G (.st (.EL i j)) ρ (.rt d ρ)
 |EM {ρ j e r x d o}:ev G e ρ=some x->GB x=some d->sF ρ j=true->Ex G (.st r) (ρ.set j (some (.pl d))) o->Ex G (.st (.EM j e r)) ρ o
 |brk {ρ}:Ex G (.st .brk) ρ (.bk ρ)
 |cnt {ρ}:Ex G (.st .cnt) ρ (.ct ρ)
 |kF {ρ c b r gf o}:Ex G (.wl c b) ρ (.nx gf)->Ex G (.st r) gf o->Ex G (.st (.kF c b r)) ρ o
 |Wy {ρ c b r o}:Ex G (.wl c b) ρ o->(∀ρ',o≠.nx ρ')->Ex G (.st (.kF c b r)) ρ o
 |wz {ρ c b}:ev G c ρ=some (.bl false)->Ex G (.wl c b) ρ (.nx ρ)
 |wn {ρ c b gf o}:ev G c ρ=some (.bl true)->Ex G (.st b) ρ (.nx gf)->Ex G (.wl c b) gf o->Ex G (.wl c b) ρ o
 |wc {ρ c b gf o}:ev G c ρ=some (.bl true)->Ex G (.st b) ρ (.ct gf)->Ex G (.wl c b) gf o->Ex G (.wl c b) ρ o
 |wb {ρ c b gf}:ev G c ρ=some (.bl true)->Ex G (.st b) ρ (.bk gf)->Ex G (.wl c b) ρ (.nx gf)
 |wr {ρ c b d gf}:ev G c ρ=some (.bl true)->Ex G (.st b) ρ (.rt d gf)->Ex G (.wl c b) ρ (.rt d gf)
 |fr {ρ t i b r xs gf o}:ev G i ρ=some (.lst xs)->Ex G (.lp t b xs) ρ (.nx gf)->Ex G (.st r) gf o->Ex G (.st (.fr t i b r)) ρ o
 |QR {ρ t i b r xs o}:ev G i ρ=some (.lst xs)->Ex G (.lp t b xs) ρ o->(∀ρ',o≠.nx ρ')->Ex G (.st (.fr t i b r)) ρ o
 |lz {ρ t b}:Ex G (.lp t b []) ρ (.nx ρ)
 |ln {ρ t b x xs i7 gf o}:fO t x ρ=some i7->Ex G (.st b) i7 (.nx gf)->Ex G (.lp t b xs) gf o->Ex G (.lp t b (x::xs)) ρ o
 |lc {ρ t b x xs i7 gf o}:fO t x ρ=some i7->Ex G (.st b) i7 (.ct gf)->Ex G (.lp t b xs) gf o->Ex G (.lp t b (x::xs)) ρ o
 |lb {ρ t b x xs i7 gf}:fO t x ρ=some i7->Ex G (.st b) i7 (.bk gf)->Ex G (.lp t b (x::xs)) ρ (.nx gf)
 |lr {ρ t b x xs i7 d gf}:fO t x ρ=some i7->Ex G (.st b) i7 (.rt d gf)->Ex G (.lp t b (x::xs)) ρ (.rt d gf)
 |Ef {ρ i r o}:sF ρ i=true->Ex G (.st r) (ρ.set i (some (.ob (.lst []) (.lst [])))) o->Ex G (.st (.Ef i r)) ρ o
 |D2 {ρ j f i a r c n l d c' n' o}:ρ[i]?=some (some (.ob c n))->ev G a ρ=some (.lst l)->G.j4 f c n l=some (d,c',n')->sF ρ j=true->j≠i->
   Ex G (.st r) ((ρ.set i (some (.ob c' n'))).set j (some (.pl d))) o->Ex G (.st (.D2 j f i a r)) ρ o
 |rJ {ρ f i a c n l d c' n'}:ρ[i]?=some (some (.ob c n))->ev G a ρ=some (.lst l)->G.j4 f c n l=some (d,c',n')->Ex G (.st (.rJ f i a)) ρ (.rt d (ρ.set i (some (.ob c' n'))))
 |uQ {ρ v f i a c n l d c' n'}:ρ[v]?=some (some (.pl (.fn f)))->f∈G.Hn->ρ[i]?=some (some (.ob c n))->ev G a ρ=some (.lst l)->G.j4 f c n l=some (d,c',n')->Ex G (.st (.uQ v i a)) ρ (.rt d (ρ.set i (some (.ob c' n'))))
 |CS {ρ f i a r c n l d c' n' o}:ρ[i]?=some (some (.ob c n))->ev G a ρ=some (.lst l)->G.j4 f c n l=some (d,c',n')->Ex G (.st r) (ρ.set i (some (.ob c' n'))) o->Ex G (.st (.CS f i a r)) ρ o
 |sr {ρ i b e r c n d o}:ρ[i]?=some (some (.ob c n))->ev G e ρ=some d->Ex G (.st r) (ρ.set i (some (if b=true then .ob c d else .ob d n))) o->Ex G (.st (.sr i b e r)) ρ o
section
variable (a:Ad)(K:ah)
section
variable (a:Ad)(K:ah)
inductive rD1(f:D->Option D)(x:V)(H:Hp)(Q:VK):Prop
 |mk(S dx d)(_:eY S H)(_:Rp K a.fa S x dx)(_:f dx=some d)(_:∀v S' H',EB a S H S' H'->Rp K a.fa S' v d->Q v H')
inductive IC(f:D->D->Option D)(x y:V)(H:Hp)(Q:VK):Prop
 |mk(S dx dy d)(_:eY S H)(_:Rp K a.fa S x dx)(_:Rp K a.fa S y dy)(_:f dx dy=some d)(_:∀v S' H',EB a S H S' H'->Rp K a.fa S' v d->Q v H')
inductive rDn(f:List D->Option D)(xs:List V)(H:Hp)(Q:VK):Prop
 |mk(S ds d)(_:eY S H)(_:bN K a.fa S xs ds)(_:f ds=some d)(_:∀v S' H',EB a S H S' H'->Rp K a.fa S' v d->Q v H')
end
section
variable {a:Ad}{X:Cx}{ρ:Ev}{x y z:Expr}{pos:Pos}{d dx dy dz:D}
def W5(k:lQ X (qg op) (IC a X.K f))(e:ED a X ρ x dx)(n:ED a X ρ y dy)(p:f dx dy=some d):ED a X ρ (.BinOp x op y pos) d:=λS H σ R Q q=>dY (Wi k b9 b9) (e S H σ R _ λv l o c g=>n l o σ (R.step c) _ λu j w b i=>⟨j,dx,dy,d,b.h,g.up b.s,i,p,λv t H' r m=>q v t H' ((c.trans b).trans r) m⟩)
def Xl(g:WU X (UJ op) (rD1 a X.K f))(j:ED a X ρ x dx)(m:f dx=some d):ED a X ρ (.UnaryOp op x pos) d:=λS H σ R Q q=>dY (X6 g b9) (j S H σ R _ λv i n b e=>⟨i,dx,d,b.h,e,m,λv c H' k l=>q v c H' (b.trans k) l⟩)
def KA(g:lQ X (cQ op) (IC a X.K f))(j:ED a X ρ x dx)(i:ED a X ρ y dy)(r:f dx dy=some d)(e:behindInMarks op y=false):ED a X ρ (.Compare x [op] [y] pos) d:=λS H σ R Q q=>dY (O1 g b9 b9 e) (j S H σ R _ λv m k c n=>i m k σ (R.step c) _ λu p z b o=>⟨p,dx,dy,d,b.h,n.up b.s,o,r,λv l H' w t=>q v l H' ((c.trans b).trans w) t⟩)
def zU(p:lQ X (cQ op) (IC a X.K f))(k:ED a X ρ x dx)(j:ED a X ρ y dy)(A:f dx dy=some (.bl b))(i:behindInMarks op y=false):TD a X ρ (.Compare x [op] [y] pos) b:=λS H σ R Q q=>Bn (O0 p b9 b9 i) (k S H σ R _ λv w l g o=>j w l σ (R.step g) _ λu n B e r=>⟨n,dx,dy,_,e.h,o.up e.s,r,A,λv m H' z t=>by obtain rfl:=xk0 t;exact⟨b,rfl,q m H' ((g.trans e).trans z)⟩⟩)
def Si(h:ED a X ρ x (.bl b))(g:∀c,qB x X.env c=(do let v<-c;lJ x.pos;fw [v] (truthy v))):TD a X ρ x b:=λS H σ R Q q=>
 Bn (Sx b9 g) (h S H σ R _ λv j k i f=>by obtain rfl:=xk0 f;grind)
def LR{i:Nat}{x}(g:X.N[i]?=some x)(j:vb X.env.scope x)(k:qq9 x)(c:xj8 x)(h:ρ[i]?=some (some (.pl d))):ED a X ρ (.Name x pos) d:=λS H σ R Q q=>by obtain⟨v,e,r⟩:=R.pl i d h;exact dY (wM g j k c) ⟨v,e,q v S H (EB.refl R.sub) r⟩
def T2:ED a X ρ (.Constant (.int i) j pos) (.int i):=λS H σ R Q q=>dY Ms (q _ S H (EB.refl R.sub) (.int i))
def Yd:ED a X ρ (.Constant (.bool i) j pos) (.bl i):=λS H σ R Q q=>dY X2 (q _ S H (EB.refl R.sub) (.bl i))
def SQ:ED a X ρ (.Constant (.str i) j pos) (.str i):=λS H σ R Q q=>dY D0 (q _ S H (EB.refl R.sub) (.str i))
def Ed:ED a X ρ (.Constant .none j pos) .ie:=λS H σ R Q q=>dY Uy (q _ S H (EB.refl R.sub) .ie)
def Oy{x}{v}{u}(e:Gl X x)(b:X.mg x=some u)(r:Sk v u)(c:∀S,Rp X.K a.fa S v d)(f:qq9 x):ED a X ρ (.Name x pos) d:=λS H σ R Q q=>dY (Po e b r f) (q v S H (EB.refl R.sub) (c S))
def LK(n:TD a X ρ c b)(p:b=true->ED a X ρ x d)(o:b=false->ED a X ρ y d):ED a X ρ (.IfExp c x y pos) d:=λS H σ R Q q=>by refine dY (Lc rB b9 b9) (n S H σ R _ λm l g=>?_);cases b with|true=>exact p rfl m l σ (R.step g) _ λv k H' i j=>q v k H' (g.trans i) j|false=>exact o rfl m l σ (R.step g) _ λv k H' i j=>q v k H' (g.trans i) j
def SW(h:TD a X ρ x b):TD a X ρ (.UnaryOp .Not x pos) (!b):=λS H σ R Q q=>Bn (RT rB) (h S H σ R _ λd c e=>q d c e)
variable {rest:List Expr}{b c:Bool}
def Ta(h:TD a X ρ x b):WD a X ρ (.BoolOp op [x] pos) b:=λS H σ R Q q=>by cases op with|And=>exact Fd (Qk rB) (h S H σ R _ q)|Or=>exact Fd (R6 rB) (h S H σ R _ q)
def Mw(l:TD a X ρ x b)(k:b=true->WD a X ρ (.BoolOp .And (y::rest) pos) c):WD a X ρ (.BoolOp .And (x::y::rest) pos) (b&&c):=λS H σ R Q q=>by refine Fd (TQ rB Rf) (l S H σ R _ λh i f=>?_);cases b with|true=>exact k rfl h i σ (R.step f) _ λj H' m=>q j H' (f.trans m)|false=>exact q h i f
def Rq(l:TD a X ρ x b)(k:b=false->WD a X ρ (.BoolOp .Or (y::rest) pos) c):WD a X ρ (.BoolOp .Or (x::y::rest) pos) (b||c):=λS H σ R Q q=>by refine Fd (Xs rB Rf) (l S H σ R _ λh i f=>?_);cases b with|true=>exact q h i f|false=>exact k rfl h i σ (R.step f) _ λj H' m=>q j H' (f.trans m)
def WD.td(h:WD a X ρ x b):TD a X ρ x b:=λS H σ R Q q π s I=>h S H σ R Q q _ π s I
def Uq(h:ED a X ρ x d):ED a X ρ (.BoolOp op [x] pos) d:=λS H σ R Q q=>dY (SS b9) (h S H σ R _ q)
def Ss(k:ED a X ρ x (.bl b))(m:b=true->ED a X ρ (.BoolOp .And (y::rest) pos) (.bl c)):ED a X ρ (.BoolOp .And (x::y::rest) pos) (.bl (b&&c)):=λS H σ R Q q=>by refine dY (UB b9 b9) (k S H σ R _ λv h i g l=>?_);obtain rfl:=xk0 l;refine⟨b,rfl,?_⟩;cases b with|true=>exact m rfl h i σ (R.step g) _ λv j H' o n=>q v j H' (g.trans o) n|false=>exact q _ h i g (.bl false)
def XT(k:ED a X ρ x (.bl b))(m:b=false->ED a X ρ (.BoolOp .Or (y::rest) pos) (.bl c)):ED a X ρ (.BoolOp .Or (x::y::rest) pos) (.bl (b||c)):=λS H σ R Q q=>by refine dY (V4 b9 b9) (k S H σ R _ λv h i g l=>?_);obtain rfl:=xk0 l;refine⟨b,rfl,?_⟩;cases b with|true=>exact q _ h i g (.bl true)|false=>exact m rfl h i σ (R.step g) _ λv j H' o n=>q v j H' (g.trans o) n
variable {op op':CmpOp}{f f':Int->Int->Bool}{i j k:Int}
def Cu(G:lQ X (cQ op) (Nc λi j=>.bl (f i j)))(l:lQ X (cQ op') (Nc λi j=>.bl (f' i j)))(F:ED a X ρ x (.int i))(C:ED a X ρ y (.int j))(hz:f i j=true->ED a X ρ z (.int k)) (s:yU [op,op'] [y,z]=false):ED a X ρ (.Compare x [op,op'] [y,z] pos) (.bl (f i j&&f' j k)):=λS H σ R Q q=>by refine dY (Kw G l b9 b9 b9 s) (F S H σ R _ λv I L e A=>C I L σ (R.step e) _ λu m n g t=>?_);obtain rfl:=xj9 A;cases t;refine⟨i,j,rfl,rfl,f i j,rfl,?_⟩;cases h:f i j with|true=>refine hz h m n σ ((R.step e).step g) _ λw J p r o=>?_;obtain rfl:=xj9 o;refine⟨j,k,rfl,rfl,q _ J p ((e.trans g).trans r) ?_⟩;rw[h];exact .bl _|false=>refine q _ m n (e.trans g) ?_;rw[h];exact .bl _
def BM(A:lQ X (cQ op) (Nc λi j=>.bl (f i j)))(l:lQ X (cQ op') (Nc λi j=>.bl (f' i j)))(s:ED a X ρ x (.int i))(o:ED a X ρ y (.int j))(hz:f i j=true->ED a X ρ z (.int k)) (r:yU [op,op'] [y,z]=false):TD a X ρ (.Compare x [op,op'] [y,z] pos) (f i j&&f' j k):=λS H σ R Q q=>by refine Bn (K8 A l b9 b9 b9 r) (s S H σ R _ λv F C e t=>o F C σ (R.step e) _ λu m n g B=>?_);obtain rfl:=xj9 t;cases B;refine⟨i,j,rfl,rfl,f i j,rfl,?_⟩;cases h:f i j with|true=>refine hz h m n σ ((R.step e).step g) _ λw G I p J=>?_;obtain rfl:=xj9 J;refine⟨j,k,rfl,rfl,f' j k,rfl,?_⟩;have:=q G I ((e.trans g).trans p);simp_all|false=>refine⟨false,rfl,?_⟩;have:=q m n (e.trans g);simp_all
def JT:AD a X ρ [] []:=λS H σ R Q q=>AW hF (q [] S H (EB.refl R.sub) .nil)
def pP(m:∀es,aH (x::es) X.env=(false,cq x X.env)::aH es X.env)(j:ED a X ρ x d)(l:AD a X ρ rest ds):AD a X ρ (x::rest) (d::ds):=λS H σ R Q q=>AW (fK b9 ka (m _)) (j S H σ R _ λv i k c f=>l i k σ (R.step c) _ λvs h e b g=>q _ h e (c.trans b) (.cons (f.up b.s) g))
def RZ{k}(h:AD a X ρ rest ds)(hz:ds.length<=aG):ED a X ρ (.Tuple rest k pos) (.tup ds):=λS H σ R Q q=>dY (RL ka) (h S H σ R _ λvs g e c d=>⟨by rw[d.length];exact hz,λp n=>q _ _ _ (c.trans (EB.new c.h n)) (.tup (.inl (.inl bh)) (d.up (gO (EB.free c.h n))))⟩)
def Lm(h:AD a X ρ rest ds)(hz:ds.length<=aG):FD a X ρ (.List rest pos) ds:=λS H σ R Q q=>dY (DK ka) (h S H σ R _ λvs e d f c=>⟨by rw[c.length];exact hz,λp n=>q p vs e d f n c⟩)
def MP{x}{e}{es}{id}{f}{ds}{p}(l:jc X (.builtin id) (rDn a X.K f))(w:Gl X x)(m:X.mg x=none)(g:iq x=some (.builtin id))(i:x≠"__name__")(b:qq9 x) (j:∀es,aH (e::es) X.env=(false,cq e X.env)::aH es X.env) (n:(dU pos (aH es X.env)).any (·.1)=false) (h:AD a X ρ (e::es) ds) (t:f ds=some d):ED a X ρ (.Call (.Name x p) (e::es) [] pos) d:=λS H σ R Q q=>dY (mX l w m g ka i b (j _) n) (h S H σ R _ λvs s y c r=>⟨s,ds,d,c.h,r,t,λv k H' u o=>q v k H' (c.trans u) o⟩)
def XE{f}(k:XO X (IC a X.K f))(e:ED a X ρ x dx)(n:ED a X ρ y dy)(r:vc y)(t:f dx dy=some d):ED a X ρ (.Subscript x y pos) d:=λS H σ R Q q=>dY (Q4 k b9 b9 r) (e S H σ R _ λv l o c g=>n l o σ (R.step c) _ λu j z b i=>⟨j,dx,dy,d,b.h,g.up b.s,i,t,λv w H' m p=>q v w H' ((c.trans b).trans m) p⟩)
end
section
variable {a:Ad}{X:Cx}
def lQ.imp(h:lQ X f r)(i:∀x y H Q,b x y H Q->r x y H Q):lQ X f b:=λπ s σ H x y v u Q I c a q=>h π s σ H x y v u Q I c a (i _ _ _ _ q)
def WH:Y1->Operator|.add=>.Add|.sub=>.Sub|.mul=>.Mult|.fdiv=>.FloorDiv|.mod=>.Mod|.shr=>.RShift|.cat=>.Add
def TV(o:Y1):lQ X (qg (WH o)) (IC a X.K (Sd o)):=by
 have two:∀{g:Int->Int->Option Int} {C:Int->Int->Prop} {h:Int->Int->Int} {op:Operator},lQ X (qg op) (rI C λi j=>.int (h i j))->(∀i j d,Sd o (.int i) (.int j)=some d->C i j/\d=.int (h i j))->(∀dx dy d,Sd o dx dy=some d->∃i j,dx=.int i/\dy=.int j)->lQ X (qg op) (IC a X.K (Sd o)):=λ{g C h op} r c sh=>lQ.imp r λx y H Q q=>by obtain⟨S,dx,dy,d,e,r1,r2,hf,q⟩:=q;obtain⟨i,j,rfl,rfl⟩:=sh _ _ _ hf;obtain⟨hc,rfl⟩:=c _ _ _ hf;obtain rfl:=xj9 r1;cases r2;exact⟨i,j,rfl,rfl,hc,q _ S H (EB.refl e) (.int _)⟩
 have shp:o≠.cat->∀dx dy d,Sd o dx dy=some d->∃i j,dx=.int i/\dy=.int j:=λhc dx dy d h=>by cases o<;>first|exact absurd rfl hc|(cases dx<;>first|cases h|(cases dy<;>first|exact⟨_,_,rfl,rfl⟩|cases h))
 cases o;.refine two (g:=λ_ _=>none) (C:=λ_ _=>True) (Vq λ_ _ _ _ _ _ _ _ q=>add_int q) (λi j d h=>⟨trivial,?_⟩) (shp (by intro z;cases z));obtain rfl:=bA h;rfl
 .refine two (g:=λ_ _=>none) (C:=λ_ _=>True) (Vq λ_ _ _ _ _ _ _ _ q=>sub_int q) (λi j d h=>⟨trivial,?_⟩) (shp (by intro z;cases z));obtain rfl:=bA h;rfl
 .refine two (g:=λ_ _=>none) (C:=λi j=>gZ i/\gZ j) (Vq λ_ _ _ _ _ _ _ hc q=>mul_int q (IntMulOk.of_bits (aM hc.1 JN) (aM hc.2 JN))) (λi j d h=>?_) (shp (by intro z;cases z));have h:(if gZ i/\gZ j then some (D.int (i*j)) else none)=some d:=h;split at h;{obtain rfl:=bA h;exact⟨by assumption,rfl⟩};.cases h
 .refine two (g:=λ_ _=>none) (C:=λi j=>j≠0/\j.natAbs.log2<9000) (Vq λ_ _ _ _ _ _ _ hc q=>floordiv_int hc.1 q (.inl (PyProof.noPylong_of_log2 hc.2))) (λi j d h=>?_) (shp (by intro z;cases z));have h:(if j≠0/\j.natAbs.log2<9000 then some (D.int (i.fdiv j)) else none)=some d:=h;split at h;{obtain rfl:=bA h;exact⟨by assumption,rfl⟩};.cases h
 .refine two (g:=λ_ _=>none) (C:=λi j=>j≠0) OC (λi j d h=>?_) (shp (by intro z;cases z));have h:(if j≠0 then some (D.int (i.fmod j)) else none)=some d:=h;split at h;{obtain rfl:=bA h;exact⟨by assumption,rfl⟩};.cases h
 .refine two (g:=λ_ _=>none) (C:=λi j=>0<=j) So (λi j d h=>?_) (shp (by intro z;cases z));have h:(if 0<=j then some (D.int (i/2^j.toNat)) else none)=some d:=h;split at h;{obtain rfl:=bA h;exact⟨by assumption,rfl⟩};.cases h
 .intro π s σ H x y v u Q I rx ry q;obtain⟨S,dx,dy,d,e,r1,r2,hf,q⟩:=q;cases dx with
   |lst wO=>cases dy with|lst W=>have hf:(if wO.length+W.length<=aG then some (D.lst (wO++W)) else none)=some d:=hf;split at hf;{next hz=>obtain rfl:=bA hf;obtain⟨_,_,rfl,q1,a1⟩:=zq2 r1;cases r2 with|lst q2 Z=>cases rx;subst ry;obtain⟨z1,its,n,r,e1⟩:=(Rd.mono e q1).ok I.fR;obtain⟨z2,its2,Ps,r2,e2⟩:=(Rd.mono e q2).ok I.fR;have hl:=r.length;have hl2:=r2.length;have g1:=a1.length;have g2:=Z.length;refine PySem.P.add_list e1 e2 ?_ (by rw[bx,bx];omega);have ea:its.toArray++its2.toArray=(its++its2).toArray:=by{simp};rw[ea];refine⟨.ref _,_,I.ZG (t':=s.toks) (r.append r2) (by rw[bo];omega),rfl,q _ _ _ (EB.new e I.fresh) (.lst (.inl bh) ?_)⟩;exact(a1.append Z).up (gO (EB.free e I.fresh))};.cases hf|_=>cases hf
   |_=>cases hf
def ZM:Cm->CmpOp|.lt=>.Lt|.le=>.LtE|.gt=>.Gt|.ge=>.GtE|.eq=>.Eq|.ne=>.NotEq
def sk(o):lQ X (cQ (ZM o)) (Nc λi j=>.bl (fU o i j)):=by cases o;{exact Xw};{exact X9};{exact VQ};{exact Xf};{exact HM λ_ _ _ _ _ _ _ q=>eq_int (by rw[C6];exact q)};.exact HM λ_ _ _ _ _ _ _ q=>ne_int (by rw[bne,C6];exact q)
def KY(o):lQ X (cQ (ZM o)) (IC a X.K (cmD o)):=lQ.imp (sk o) λx y H Q q=>by obtain⟨S,h,i,d,e,j,l,k,q⟩:=q;cases h<;>(try cases k);cases i<;>(try cases k);obtain rfl:=xj9 j;cases l;exact⟨_,_,rfl,rfl,q _ S H (EB.refl e) (.bl _)⟩
theorem fW:∀{l} {r},Se l=some r->l=r.map D.int|[],r,h=>by cases h;rfl|d::l,r,h=>jq8 d h λi h=>by rw[et] at h;obtain⟨s,g,rfl⟩:=h;rw[fW g];rfl
theorem wN:∀{l} {r},n4 l=some r->l=r.map D.bl|[],r,h=>by cases h;rfl|d::l,r,h=>jx1 d h λi h=>by rw[et] at h;obtain⟨s,g,rfl⟩:=h;rw[wN g];rfl
theorem yo:∀{l} {r},strsOf l=some r->l=r.map D.str|[],r,h=>by cases h;rfl|d::l,r,h=>by(cases d<;>first|cases h|skip);dsimp only[strsOf] at h;cases e:strsOf l with|none=>rw[e] at h;cases h|some g=>rw[e] at h;obtain rfl:=bA h;rw[aX,<-yo e]
theorem Rp.ints{K}{fa}{S}{v}{ns}(h:Rp K fa S v (D.ints ns)):∃p,v=.ref p/\Rd S p (.lst (ns.map V.int)):=by obtain⟨_,_,rfl,q,r⟩:=zq2 h;have:=r.ints;simp_all
def Rd.xl{K}{S}{p}{xs}(h:Rd S p (.lst xs)):nj K S p xs:=.inl h
def Td:WU X (UJ .USub) (rD1 a X.K λd=>match d with|.int i=>some (.int (-i))|_=>none):=λπ s σ H x v Q I j q=>by obtain⟨S,h,d,e,r,k,q⟩:=q;(cases h<;>first|cases k|skip);obtain rfl:=xj9 r;exact SA π s σ H _ v Q I j ⟨_,rfl,q _ S H (EB.refl e) (.int _)⟩
def XA:XO X (IC a X.K SM):=λh f π s σ H x y v u Q I M N q L=>by obtain⟨S,B,R,d,e,G,F,r,q⟩:=q;have m:∀{l:List D} {xs:List V} {i:Int},bN X.K a.fa S xs l->yB l i=some d->∃v,yB xs i=some v/\Rp X.K a.fa S v d:=λ{l xs i} C n=>by{unfold yB at n⊢;rw[C.length];cases hi:Fi l.length i with|none=>rw[hi] at n;cases n|some j=>rw[hi] at n;exact C.get n};(cases R<;>first|(cases B<;>cases r)|skip);(cases B<;>first|cases r|skip);{cases F;obtain⟨_,_,rfl,z,t⟩:=zq2 G;obtain⟨w,A,k⟩:=m t r;exact Fj h f π s σ H _ _ v u Q I M N ⟨_,_,_,w,rfl,rfl,Rd.xl (Rd.mono e z),A,q _ S H (EB.refl e) k⟩ L};.cases F;cases G with|tup z t=>obtain⟨w,A,k⟩:=m t r;exact Uo h f π s σ H _ _ v u Q I M N ⟨_,_,_,w,rfl,rfl,qR.mono e z,A,q _ S H (EB.refl e) k⟩ L
end
end
def qo(b:Bool)(K:ah)(H:Hp)(a:aE)(xs:List V):Prop:=(b=true/\qR K H a xs)\/(b=false/\nj K H a xs)
section
variable {X:Cx}{π:List (aE×Obj)}{σ:L2.St}{H:Hp}{s:Shared}{b:Bool}{a:aE}{xs ys:List V}
def IM.Oe(I:IM X π σ H s)(h:qo b X.K H a xs):∃its:List Value,cu xs its/\rj b s.heap a its.toArray/\xs.length<=aG:=by rcases h with⟨q,h⟩|⟨q,h⟩;{obtain⟨its,r,t,z⟩:=I.tuple h;exact⟨its,r,.inl ⟨q,t⟩,z⟩};.obtain⟨its,r,t,z⟩:=I.list h;exact⟨its,r,.inr ⟨q,t.isList⟩,z⟩
def IM.Ai(I:IM X π σ H s)(h:qo b X.K H a xs)(h':qo b X.K H a ys):xs=ys:=by(rcases h with⟨q,h⟩|⟨q,h⟩<;>rcases h' with⟨f,h'⟩|⟨f,h'⟩<;>first|(rw[q] at f;cases f)|skip);{exact I.yF h h'};.exact I.B6 h h'
def rj.lt{xs}(x:rj b h a xs):a<h.objs.size:=by rcases x with⟨_,o,e,_⟩|⟨_,o,e,_⟩;{exact aF e};.exact aF e
theorem qo.mono{K}{S f}(e:eY S f)(h:qo b K S a xs):qo b K f a xs:=by rcases h with⟨q,h⟩|⟨q,h⟩;{exact .inl ⟨q,qR.mono e h⟩};.exact .inr ⟨q,e.seq h⟩
def Rp.seq{K}{fa}{S}{v}{d}{ds}(h:Rp K fa S v d)(e:oj d=some ds):∃(b:Bool) (a:aE) (xs:List V),v=.ref a/\qo b K S a xs/\bN K fa S xs ds:=by(cases d<;>first|cases e|skip);{obtain⟨_,_,rfl,q,r⟩:=zq2 h;exact⟨false,_,_,rfl,.inr ⟨rfl,Rd.xl q⟩,r⟩};.obtain⟨_,_,rfl,q,r⟩:=zq3 h;exact⟨true,_,_,rfl,.inl ⟨rfl,q⟩,r⟩
end
def Zt(K:ah)(b c:Bool)(a1 a2:aE):It:=⟨λi H=>∃(xs ys:List V) (x y:V),qo b K H a1 xs/\qo c K H a2 ys/\xs[i]?=some x/\ys[i]?=some y,λi H v H'=>∃T x y,v=.ref T/\H T=none/\H'=IZ H T (.tup [x,y])/\(∀xs,qo b K H a1 xs->xs[i]?=some x)/\∀ys,qo c K H a2 ys->ys[i]?=some y,λi H=>∃xs ys:List V,qo b K H a1 xs/\qo c K H a2 ys/\(xs.length<=i\/ys.length<=i)⟩
def HR{K}{elts}{kk}{Z}{b c}{a1 a2 z TI TO N R}(D:ZipApart z TI TO N R a1 a2):
  Turn P w K (.Tuple elts kk Z) (Zt K b c a1 a2) [z,TI,TO,N,R] z (λi h=>oy h z TI TO .none/\gW h TI (.ref N) (.ref R)/\(∃x y,gW h TO x y)/\rd b h N a1 i/\rd c h R a2 i) where
 mem:=by simp
 obj:=λi h st p hp=>by
  obtain⟨hz,f,⟨x,y,g⟩,J,G⟩:=st
  have e':=by simpa using hp
  rcases e' with q|q|q|q|q
  ·rw[q];exact⟨_,hz,λv q=>nomatch q⟩
  ·rw[q];exact⟨_,f,λv q=>nomatch q⟩
  ·rw[q];exact⟨_,g,λv q=>nomatch q⟩
  ·rw[q];exact J.obj
  ·rw[q];exact G.obj
 keep:=λi h h' st k=>by
  obtain⟨hz,f,⟨x,y,g⟩,J,G⟩:=st
  exact⟨k z (by simp) _ hz,k TI (by simp) _ f,⟨x,y,k TO (by simp) _ g⟩,J.at λo q=>k N (by simp) o q,G.at λo q=>k R (by simp) o q⟩
 item:=by
  intro X hP hw hK hc i π s σ H E I hf st hg
  subst hP hw hK
  obtain⟨hz,f,⟨x0,y0,g⟩,J,G⟩:=st
  obtain⟨xs,ys,x,y,F,C,hx,hy⟩:=hg
  obtain⟨its,rv,p,_⟩:=IM.Oe I F
  obtain⟨L,rv2,p2,_⟩:=IM.Oe I C
  obtain⟨u,hu,ru⟩:=rv.get hx
  obtain⟨u2,hu2,ru2⟩:=rv2.get hy
  have Y:z<s.heap.objs.size:=aF hz
  refine DH D hz f g J G p p2 (x:=u) (y:=u2) (by simpa using hu) (by simpa using hu2) λh' z' TO' h1' h2' hT hsz hk=>?_
  refine⟨_,rfl,wpAny_letOwnedTupleGo_zip (s:={s with heap:=h'}) z' λh'' z'' W=>?_⟩
  have hT2:=(W.2 _ (gS Y)).trans hT
  have new:gB X.prog X.w (IZ H s.heap.objs.size (.tup [x,y])) h'' s.heap.objs.size (.tup [x,y]):=
   ⟨by show 2<=aG;decide,[u,u2],.cons ru (.cons ru2 .nil),⟨_,hT2,rfl,_,rfl⟩⟩
  have I1:=
   I.yQ (t':=s.toks) (ch:=[z,TI,TO,N,R]) (λc o B q=>(W.2 c (λj=>B (by simp[j]))).trans (hk c o (λj=>B (by simp[j])) (λj=>B (by simp[j])) (λj=>B (by simp[j])) (λj=>B (by simp[j])) q)) hf (aB _) new
  refine⟨.ref s.heap.objs.size,_,I1,rfl,⟨_,x,y,rfl,I.fR.fresh (aB _),rfl,λl hl=>by rw[IM.Ai I hl F];exact hx,λl hl=>by rw[IM.Ai I hl C];exact hy⟩,⟨z'',?_,⟨u,u2,?_⟩,?_,?_⟩,λc hcm=>?_⟩
  ·exact(W.2 _ D.TIz).trans (hk _ _ D.TIz D.TITO D.TIi1 D.TIi2 f)
  ·exact(W.2 _ D.TOz).trans TO'
  ·exact h1'.at λo q=>(W.2 _ D.i1z).trans q
  ·exact h2'.at λo q=>(W.2 _ D.i2z).trans q
  ·have hlt:c<s.heap.objs.size:=by
    have e':=by simpa using hcm
    rcases e' with q|q|q|q|q
    ·rw[q];exact Y
    ·rw[q];exact aF f
    ·rw[q];exact aF g
    ·rw[q];obtain⟨_,e1,_⟩:=J.obj;exact aF e1
    ·rw[q];obtain⟨_,e2,_⟩:=G.obj;exact aF e2
   rw[aS (a7 hlt)]
   exact(hf c hcm).1
 done:=by
  intro X hP hw hK hc i π s σ H E I hf st hg
  subst hP hw hK
  obtain⟨hz,f,⟨x0,y0,g⟩,J,G⟩:=st
  obtain⟨xs,ys,F,C,hend⟩:=hg
  obtain⟨its,rv,p,_⟩:=IM.Oe I F
  obtain⟨L,rv2,p2,_⟩:=IM.Oe I C
  have l1:=rv.length
  have l2:=rv2.length
  have he:its.toArray[i]?=none\/L.toArray[i]?=none:=by
   rcases hend with q|q
   ·exact .inl (by simp;simp_all)
   ·exact .inr (by simp;simp_all)
  exact Ea (I.ok.hd hc) D hz f g J G p p2 he λh' hk=>⟨rfl,I.O5 (t':=s.toks) (ch:=[z,TI,TO,N,R]) (λc o B q=>
   hk c o (λj=>B (by simp[j])) (λj=>B (by simp[j])) (λj=>B (by simp[j])) (λj=>B (by simp[j])) q) hf⟩
 self:=λA i s Q E st h=>VI st.1 h
def WM(K:ah)(ta:TA):TI:=λσ H R=>ta σ H λvs H1=>∃(b c:Bool) (a1 a2:aE) (xs ys:List V),vs=[.ref a1,.ref a2]/\qo b K H1 a1 xs/\qo c K H1 a2 ys/\(xs.length<=aG->ys.length<=aG->R (Zt K b c a1 a2) H1)
def NY{ta}{p pos k}{n}{U}(Y:Gl X "zip")(hm:X.mg "zip" =none)(ha:PA X [e,u] ta) (hs:aH [e,u] X.env=(false,cq e X.env)::aH [u] X.env) (F:(dU pos (aH [u] X.env)).any (·.1)=false):PI X (.Tuple n U k) (.Call (.Name "zip" p) [e,u] [] pos) (WM X.K ta):=by intro π s σ H R I h;refine Zp (oQ I Y hm HF (d4 (fS (ha pos π s σ H _ I h) λus f zz=>?_) hs F));obtain⟨vs,T,o,r1,q1⟩:=zz;obtain⟨b,c,a1,a2,xs,ys,ex,J,x,q⟩:=q1;subst ex;cases r1 with|cons r B=>cases B with|cons r' B=>cases B;subst r;cases r';obtain⟨its,rv,N,Z⟩:=IM.Oe o J;obtain⟨Q,rv2,p2,z2⟩:=IM.Oe o x;have q:=q Z z2;have la:=rj.lt N;have lb:=rj.lt p2;refine Mb N p2 λh' hz w A h1 h2 hk=>VI hz ?_;have I2:IM X π σ T {f with heap:=h'}:=o.kept (t':=f.toks) hk;refine⟨f.heap.objs.size+4,[f.heap.objs.size+4,f.heap.objs.size+2,f.heap.objs.size+3,f.heap.objs.size,f.heap.objs.size+1],_,_,T,rfl,I2,HR (PySem.W.ktu_apart f.heap.objs.size a1 a2 la lb),⟨hz,w,⟨_,_,A⟩,h1,h2⟩,λc G=>?_,q⟩;have e':c=f.heap.objs.size+4\/c=f.heap.objs.size+2\/c=f.heap.objs.size+3\/c=f.heap.objs.size\/c=f.heap.objs.size+1:=by{simpa using G};have l:f.heap.objs.size<=c:=by{rcases e' with z|z|z|z|z;{rw[z];exact ku _ _};{rw[z];exact ku _ _};{rw[z];exact ku _ _};{rw[z];exact aB _};.rw[z];exact ku _ _};exact o.E1 l (o.fR.fresh l)
def Et(K:ah)(b:Bool)(a:aE):It:=⟨λi H=>∃(xs:List V) (x:V),qo b K H a xs/\xs[i]?=some x,λi H v H'=>∃T x,v=.ref T/\H T=none/\H'=IZ H T (.tup [.int (i:Nat),x])/\∀xs,qo b K H a xs->xs[i]?=some x,λi H=>∃xs:List V,qo b K H a xs/\xs.length<=i⟩
def Ey{K:ah}{elts}{kk}{tpos}(b)(a e m:aE)(hea:e≠a)(hia:a≠m):
  Turn P w K (.Tuple elts kk tpos) (Et K b a) [e,m] e (λi h=>(∃n,IsEnum h e m ((i:Nat):Int) n)/\rd b h m a i/\e≠m) where
 mem:=by simp
 obj:=λi h st p hp=>by
  obtain⟨⟨n,t⟩,hi,_⟩:=st
  have e':p=e\/p=m:=by simpa using hp
  rcases e' with z|z
  ·rw[z];exact⟨_,t,λv q=>nomatch q⟩
  ·rw[z];exact hi.obj
 keep:=λi h h' st k=>let⟨⟨n,t⟩,hi,l⟩:=st;⟨⟨n,k e (by simp) _ t⟩,hi.at λo q=>k m (by simp) o q,l⟩
 item:=by
  intro X hP hw hK hc i π s σ H E I hf st hg
  subst hP hw hK
  obtain⟨⟨n,t⟩,G,l⟩:=st
  obtain⟨xs,x,hq,hx⟩:=hg
  obtain⟨its,rv,p,hz⟩:=IM.Oe I hq
  obtain⟨u,hu,ru⟩:=rv.get hx
  have hel:e<s.heap.objs.size:=aF t
  have hil:m<s.heap.objs.size:=by obtain⟨_,q,_⟩:=G.obj;exact aF q
  have hlt:i<its.toArray.size:=by
   rw[bx]
   exact(aQ.mp hu).1
  refine wpAny_pyNext_enum_itemD (J8 (A:=X.A.in1) (I.ok.hd hc) b m a hia its.toArray) t ⟨G,p⟩ hlt l (by simp[l,hea]) λy h' tk Z ho R hT hsz hk=>?_
  have ey:y=u:=by
   have q:its.toArray[i]?=some u:=by simpa using hu
   rw[Z] at q
   exact bA q
  subst ey
  refine⟨_,rfl,wpAny_letOwnedTupleGo_enum (s:={s with heap:=h',toks:=tk+1}) ho λM he' sb=>?_⟩
  have hT2:M.get? s.heap.objs.size=some {cls:=.type "tuple",data:=.seq #[.int i tk,y]}:=(sb.2 _ (gS hel)).trans hT
  have new:gB X.prog X.w (IZ H s.heap.objs.size (.tup [.int (i:Nat),x])) M s.heap.objs.size (.tup [.int (i:Nat),x]):=
   ⟨by show 2<=aG;decide,[.int i tk,y],.cons ⟨_,rfl⟩ (.cons ru .nil),⟨_,hT2,rfl,_,rfl⟩⟩
  have I1:IM X π σ (IZ H s.heap.objs.size (.tup [.int (i:Nat),x])) {s with heap:=M,toks:=tk+1}:=
   I.yQ (ch:=[e,m]) (λp ob J q=>(sb.2 p (λz=>J (by simp[z]))).trans (hk p ob (λz=>J (by simp[z])) (λz=>J (by simp[z])) q)) hf (aB _) new
  refine⟨.ref s.heap.objs.size,_,I1,rfl,⟨_,x,rfl,I.fR.fresh (aB _),rfl,λys Z=>by rw[IM.Ai I Z hq];exact hx⟩,⟨⟨y,?_⟩,R.1.at λo q=>(sb.2 m (dQ l)).trans q,l⟩,λp J=>?_⟩
  ·have e1:((i+1:Nat):Int)=(i:Int)+1:=by rfl
   rw[e1];exact he'
  ·have hb':p<s.heap.objs.size:=by
    have e':p=e\/p=m:=by simpa using J
    rcases e' with z|z
    ·rw[z];exact hel
    ·rw[z];exact hil
   rw[aS (a7 hb')]
   exact(hf p J).1
 done:=by
  intro X hP hw hK hc i π s σ H E I hf st hg
  subst hP hw hK
  obtain⟨⟨n,t⟩,G,l⟩:=st
  obtain⟨xs,hq,hx⟩:=hg
  obtain⟨its,rv,p,hz⟩:=IM.Oe I hq
  obtain⟨f0,f1,f2,f3,f4,f5⟩:=hf m (by simp)
  have hl:=rv.length
  unfold jk
  have ty:s.TypeIs (.ref e) "enumerate" :=⟨_,t,rfl⟩
  refine ab (jv (c6 (name:=aR "__next__") ty Je (dE Je ty F.entry_enumerate_next ?_ (F.args_enumerate_next_1 _))))
  show aK _ _ (Nj (.ref e) 2>>=_) _ _ _
  refine ab (fj t rfl (x:=.ref m) rfl ?_)
  refine ab (rD (I.ok.hd hc) G p (by simp;simp_all) λg y eb Z=>?_)
  obtain⟨o,ho,hc'⟩:=Z
  refine ab (lh (T:="StopIteration") (b:=true) ⟨o,ho,hc'⟩ sU ?_)
  exact aq ⟨rfl,I.turned (t':=s.toks) (λp o J q=>eb p o J q) f0 f1 f3 f4 f5⟩
 self:=λA i s Q E st h=>let⟨⟨_,t⟩,_⟩:=st;UQ t h
def Sa(K:ah)(ta:TA):TI:=λσ H R=>ta σ H λvs H1=>∃(b:Bool) (a:aE) (xs:List V),vs=[.ref a]/\qo b K H1 a xs/\(xs.length<=aG->R (Et K b a) H1)
def Ln{p pos m}{n}{J}(hg:Gl X "enumerate")(Z:X.mg "enumerate" =none)(P:PA X [e] N)(L:aH [e] X.env=[(false,cq e X.env)]):PI X (.Tuple n J m) (.Call (.Name "enumerate" p) [e] [] pos) (Sa X.K N):=by intro π s σ H R I h;refine Zp (oQ I hg Z boot_enumerate (d4 (fS (P pos π s σ H _ I h) λus i zz=>?_) L rfl));obtain⟨vs,A,t,M,Y⟩:=zz;obtain⟨b,a,xs,ex,T,q⟩:=Y;subst ex;cases M with|cons r rr=>cases rr;subst r;obtain⟨its,rv,C,hz⟩:=IM.Oe t T;have F:=rj.lt C;have q:=q hz;refine IK C λh' B u U=>UQ B ?_;have Q:IM X π σ A {i with heap:=h'}:=t.kept (t':=i.toks) U;refine⟨i.heap.objs.size+1,[i.heap.objs.size+1,i.heap.objs.size],_,_,A,rfl,Q,Ey b a (i.heap.objs.size+1) i.heap.objs.size (gS (fc F)) (a7 F),⟨⟨.none,B⟩,u,Nat.succ_ne_self _⟩,λc W=>?_,q⟩;have e':c=i.heap.objs.size+1\/c=i.heap.objs.size:=by{simpa using W};have l:i.heap.objs.size<=c:=by{rcases e' with z|z;{rw[z];exact ku _ _};.rw[z];exact aB _};exact t.E1 l (t.fR.fresh l)
section
variable {a:Ad}{X:Cx}{ρ:Ev}{x y z tg:Expr}{pos p:Pos}
def getElem_zip{xs ys:List D}{i:Nat}{d}(h:(((xs.zip ys).map λp=>D.tup [p.1,p.2]):List D)[i]?=some d):∃u v,xs[i]?=some u/\ys[i]?=some v/\d=.tup [u,v]:=by rw[aP] at h;cases e:(xs.zip ys)[i]? with|none=>rw[e] at h;cases h|some q=>rw[e] at h;obtain rfl:=bA h;rw[yX] at e;exact⟨q.1,q.2,e.1,e.2,rfl⟩
def A9:∀{k i} {d:D},(gx k xs)[i]?=some d->∃u,xs[i]?=some u/\d=.tup [.int ((k+i:Nat):Int),u]:=by induction xs with|nil=>intro k i d h;simp[gx] at h|cons u r x=>intro k i d h;cases i with|zero=>simp[gx] at h;exact⟨u,rfl,by rw[<-h];rfl⟩|succ i=>simp only[gx,AH] at h;obtain⟨v,q,t⟩:=x h;refine⟨v,by exact q,?_⟩;rw[t,show k+1+i=k+(i+1) by lia]
def w8(xs):∀k,(gx k xs).length=xs.length:=by induction xs with|nil=>intro k;rfl|cons u r e=>intro k;simp[gx,e]
theorem pF:∀{n i} {lo} {d},(iD lo c n)[i]?=some d->i<n/\d=.int (lo+(i:Nat)*c)|0,i,lo,d,h=>by simp[iD] at h|n+1,0,lo,d,h=>by simp[iD] at h;exact⟨Nat.succ_pos _,by rw[<-h];simp⟩|n+1,i+1,lo,d,h=>by simp only[iD,AH] at h;obtain⟨k,l⟩:=pF h;refine⟨Nat.succ_lt_succ k,?_⟩;rw[l];congr 1;have:((i+1:Nat):Int)*c=(i:Int)*c+c:=by{rw[pK,xb];simp};grind
theorem jU(c):∀(n) (lo),(iD lo c n).length=n|0,_=>rfl|n+1,lo=>by simp[iD,jU c n]
def RK{O dy}{ds}(hg:Gl X "zip")(hm:X.mg "zip" =none)(hs:∀es,aH (x::es) X.env=(false,cq x X.env)::aH es X.env)(t:(dU pos (aH [y] X.env)).any (·.1)=false) (h:AD a X ρ [x,y] [O,dy]) (r:Ds O dy=some (.lst ds)):ID a X ρ (.Tuple elts kk Z) (.Call (.Name "zip" p) [x,y] [] pos) ds:=λS H σ R Q q=>by refine wm (NY hg hm ka (hs _) t) (h S H σ R _ λvs S1 H1 G B=>?_);unfold Ds at r;split at r;{next u v e1 e2=>cases r;cases B with|cons B z=>obtain⟨_,_,rfl,r2,z⟩:=zq4 z;cases z;obtain⟨b,a1,xs,rfl,F,I⟩:=Rp.seq B e1;obtain⟨c,a2,ys,rfl,J,L⟩:=Rp.seq r2 e2;refine⟨b,c,a1,a2,xs,ys,rfl,qo.mono G.h F,qo.mono G.h J,λl1 l2=>q _ S1 H1 G (λS2 H2 l k=>⟨λi d hd=>?_,?_⟩) ?_⟩;{obtain⟨du,dv,g1,g2,rfl⟩:=getElem_zip hd;obtain⟨U,k1,t1⟩:=I.get g1;obtain⟨vv,N,t2⟩:=L.get g2;have Y:=qo.mono (l.trans k) F;have z2:=qo.mono (l.trans k) J;refine⟨⟨xs,ys,U,vv,Y,z2,k1,N⟩,λv H3 hy=>?_⟩;obtain⟨T,x',y',rfl,n,rfl,f1,f2⟩:=hy;have M:=f1 xs Y;have W:=f2 ys z2;rw[k1] at M;rw[N] at W;obtain rfl:=bA M;cases W;have P:=(gO (o:=.tup [U,vv]) (EB.free k n));exact⟨_,EB.new k n,.tup (.inl (.inl bh)) (.cons (t1.up (l.trans P)) (.cons (t2.up (l.trans P)) .nil))⟩};{refine⟨xs,ys,qo.mono (l.trans k) F,qo.mono (l.trans k) J,?_⟩;rw[ak,gc,I.length,L.length];lia};.rw[ak,gc,<-I.length,<-L.length];lia};.cases r
def Oz{B}{ds}(N:Gl X "enumerate")(W:X.mg "enumerate" =none)(hs:aH [x] X.env=[(false,cq x X.env)]) (h:AD a X ρ [x] [B]) (k:EU B=some (.lst ds)):ID a X ρ (.Tuple L kk I) (.Call (.Name "enumerate" p) [x] [] pos) ds:=λS H σ R Q q=>by refine wm (Ln N W ka hs) (h S H σ R _ λvs S1 P z s=>?_);unfold EU at k;split at k;{next u e1=>cases k;cases s with|cons s rr=>cases rr;obtain⟨b,a1,xs,rfl,r,w⟩:=Rp.seq s e1;refine⟨b,a1,xs,rfl,qo.mono z.h r,λl1=>q _ S1 P z (λS2 H2 y j=>⟨λi d U=>?_,?_⟩) ?_⟩;{obtain⟨du,g1,rfl⟩:=A9 U;obtain⟨C,A,t1⟩:=w.get g1;have F:=qo.mono (y.trans j) r;refine⟨⟨xs,C,F,A⟩,λv H3 Y=>?_⟩;obtain⟨T,x',rfl,n,rfl,O⟩:=Y;have J:=O xs F;rw[A] at J;obtain rfl:=bA J;have Z:=(gO (o:=.tup [.int (i:Nat),C]) (EB.free j n));refine⟨_,EB.new j n,.tup (.inl (.inl bh)) (.cons ?_ (.cons (t1.up (y.trans Z)) .nil))⟩;rw[fA];exact .int _};{refine⟨xs,qo.mono (y.trans j) r,?_⟩;rw[w8,w.length];exact aB _};.rw[w8,<-w.length];exact l1};.cases k
def It2(K:ah)(b:Bool)(a:aE):It:=if b=true then Itt K a else Itl K a
def W6(K:ah)(te:TE):TI:=λσ H R=>te σ H λv H1=>∃(b:Bool) (a:aE) (xs:List V),v=.ref a/\qo b K H1 a xs/\(xs.length<=aG->R (It2 K b a) H1)
def PU(C:PE X x te):PI X tg x (W6 X.K te):=by intro π s σ H R I h;refine fS (C π s σ H _ I h) λv g zz=>?_;obtain⟨w,u,i,B,z⟩:=zz;obtain⟨b,a,xs,e,l,q⟩:=z;subst e;subst B;rcases l with⟨rfl,l⟩|⟨rfl,l⟩;{obtain⟨its,A,t,hz⟩:=i.tuple l;refine RE (show g.heap.IsTuple a its.toArray from t) ?_;refine⟨g.heap.objs.size,[g.heap.objs.size],_,_,u,rfl,i.kept (t':=g.toks) λb o e=>ae _ e,D3 a _,⟨_,ay _ rfl,rfl,rfl⟩,λb n=>?_,q hz⟩;have e:b=g.heap.objs.size:=by{simpa using n};subst e;exact i.E1 (aB _) (i.fR.fresh (aB _))};.obtain⟨its,A,t,hz⟩:=i.list l;refine oq t.isList ?_;refine⟨g.heap.objs.size,[g.heap.objs.size],_,_,u,rfl,i.kept (t':=g.toks) λb o e=>ae _ e,Iq a _,⟨_,ay _ rfl,rfl,rfl⟩,λb n=>?_,q hz⟩;have e:b=g.heap.objs.size:=by{simpa using n};subst e;exact i.E1 (aB _) (i.fR.fresh (aB _))
def KS(h:ED a X ρ x d)(I:oj d=some ds):ID a X ρ tg x ds:=λS H σ R Q q=>by refine wm (PU b9) (h S H σ R _ λv G B z J=>?_);obtain⟨b,C,xs,rfl,t,o⟩:=Rp.seq J I;refine⟨b,C,xs,rfl,qo.mono z.h t,λL=>q _ G B z (λy M n s=>⟨λi d A=>?_,?_⟩) (by rw[<-o.length];exact L)⟩;{obtain⟨w,p,t1⟩:=o.get A;have j:=qo.mono (n.trans s) t;rcases j with⟨rfl,j⟩|⟨rfl,j⟩;{refine⟨⟨xs,w,j,p⟩,λv F u=>?_⟩;obtain⟨rfl,f⟩:=u;have m:=f xs j;rw[p] at m;cases m;exact⟨y,EB.refl s,t1.up n⟩};.refine⟨⟨xs,w,j,p⟩,λv F u=>?_⟩;obtain⟨rfl,f⟩:=u;have m:=f xs j;rw[p] at m;cases m;exact⟨y,EB.refl s,t1.up n⟩};.have j:=qo.mono (n.trans s) t;rcases j with⟨rfl,j⟩|⟨rfl,j⟩;{exact⟨xs,j,by rw[o.length];exact aB _⟩};.exact⟨xs,j,by rw[o.length];exact aB _⟩
def R8(h:ED a X ρ x (.str c))(l:itD (.str c)=some (.lst ds)):ID a X ρ tg x ds:=λS H σ R Q q=>by have l:(if c.length<=aG then some (D.lst (c.cps.toList.map λk=>.str ⟨#[k]⟩)) else none)=some (.lst ds):=l;split at l;{next hz=>cases l;refine wm (TC b9) (h S H σ R _ λv z u C w=>?_);obtain rfl:=xk1 w;refine⟨c,rfl,q _ z u C (λA J G y=>⟨λi d j=>?_,?_⟩) (by simpa[Str.length] using hz)⟩;{rw[aP] at j;cases e:c.cps.toList[i]? with|none=>rw[e] at j;cases j|some k=>rw[e] at j;obtain rfl:=bA j;have e':c.cps[i]?=some k:=by{simpa using e};refine⟨(Array.getElem?_eq_some_iff.mp e').1,λv I B=>?_⟩;obtain⟨rfl,F,t,rfl⟩:=B;rw[e'] at t;obtain rfl:=bA t;exact⟨A,EB.refl y,.str _⟩};.show c.cps.size<=_;simp};.cases l
def Gb{i j c}(h:0<c):dW i j c=(lP i j c:Nat):=by delta dW lP;rw[au h];by_cases b:i<j;{rw[au b,au b];have:0<=(j -i -1)/c:=Int.ediv_nonneg (by lia) (by lia);omega};.rw[ax b,ax b];rfl
def W7{i j c}(h:0<c/\c<1000/\ -1000000000000000001<i/\i<1000000000000000001/\ -1000000000000000001<j/\j<1000000000000000001/\lP i j c<=aG):RgC i j c (lP i j c):=by obtain⟨g,q,p,n,l,s,r⟩:=h;have hz:aG=16777216:=sP;refine⟨by lia,by omega,?_,Gb g⟩;unfold jF;have e:=Gb (i:=i) (j:=j) g;rw[e];have o:((lP i j c:Nat):Int)<=16777216:=by{lia};simp only[VJ,aa,dM,aw,fQ,show c>0 from g,sG];grind
def SE{K}{S}{lo c}{n}:Sy a K (Itc lo c n) S (iD lo c n):=λg q p j=>by refine⟨λi d l=>?_,?_⟩;{obtain⟨h,rfl⟩:=pF l;refine⟨h,λv o k=>?_⟩;obtain⟨rfl,rfl⟩:=k;exact⟨g,EB.refl j,.int _⟩};.show n<=_;rw[jU];exact aB _
def Kp{K}{S}{lo}{n}:Sy a K (Xk lo n) S (iD lo 1 n):=λk m o j=>by refine⟨λi d l=>?_,?_⟩;{obtain⟨g,rfl⟩:=pF l;refine⟨g,λv p h=>?_⟩;obtain⟨rfl,rfl⟩:=h;refine⟨k,EB.refl j,?_⟩;rw[Yz];exact .int _};.show n<=_;rw[jU];exact aB _
def tw(h:o7 i j c=some (.lst ds)):(0<c/\c<1000/\ -1000000000000000001<i/\i<1000000000000000001/\ -1000000000000000001<j/\j<1000000000000000001/\lP i j c<=aG)/\ds=iD i c (lP i j c):=by unfold o7 at h;split at h;{cases h;exact⟨by assumption,rfl⟩};.cases h
def BU(i j):lP i j 1=(j -i).toNat:=by unfold lP;split<;>lia
def NF(A:Gl X "range")(u:X.mg "range" =none)(v:aH [x] X.env=[(false,cq x X.env)])(h:AD a X ρ [x] [n])(s:F0 n=some (.lst ds)):ID a X ρ tg (.Call (.Name "range" p) [x] [] pos) ds:=λS H σ R Q q=>by(cases n<;>first|cases s|skip);next j=>obtain⟨⟨C,L,G,F,I,J,y⟩,rfl⟩:=tw s;refine wm (Ip A u ka v) (h S H σ R _ λvs z B t i=>?_);cases i with|cons i w=>cases w;obtain rfl:=xj9 i;refine⟨j,rfl,by lia,by lia,q _ z B t ?_ (by rw[jU];exact y)⟩;have e:lP 0 j 1=j.toNat:=by{rw[BU];simp};rw[e];exact Kp
def Qo(B:Gl X "range")(F:X.mg "range" =none)(G:aH [x,y] X.env=[(false,cq x X.env),(false,cq y X.env)])(k:aH [y] X.env=[(false,cq y X.env)])(h:AD a X ρ [x,y] [n,o]) (t:Fm n o=some (.lst ds)):ID a X ρ tg (.Call (.Name "range" p) [x,y] [] pos) ds:=λS H σ R Q q=>by cases n<;>(try cases t);cases o<;>(try cases t);next i j=>obtain⟨⟨I,N,J,O,M,L,u⟩,rfl⟩:=tw t;refine wm (HE B F ka G k) (h S H σ R _ λvs A z v l=>?_);cases l with|cons l m=>obtain⟨_,_,rfl,w,m⟩:=zq4 m;cases m;obtain rfl:=xj9 l;cases w;refine⟨i,j,rfl,⟨by omega,by omega,by omega,by omega⟩,q _ A z v ?_ (by rw[jU];exact u)⟩;rw[BU];exact Kp
def Oa(G:Gl X "range")(B:X.mg "range" =none)(A:aH [x,y,z] X.env=(false,cq x X.env)::aH [y,z] X.env)(l:(dU pos (aH [y,z] X.env)).any (·.1)=false)(h:AD a X ρ [x,y,z] [n,t,u]) (v:F4 n t u=some (.lst ds)):ID a X ρ tg (.Call (.Name "range" p) [x,y,z] [] pos) ds:=λS H σ R Q q=>by cases n<;>(try cases v);cases t<;>(try cases v);cases u<;>(try cases v);next i j c=>obtain⟨r,rfl⟩:=tw v;refine wm (HX G B ka A l) (h S H σ R _ λvs F I C m=>?_);cases m with|cons m f=>cases f with|cons J f=>obtain⟨_,_,rfl,w,f⟩:=zq4 f;cases f;obtain rfl:=xj9 m;cases J;obtain rfl:=xj9 w;exact⟨i,j,c,_,rfl,W7 r,q _ F I C SE (by rw[jU];exact r.2.2.2.2.2.2)⟩
end
structure J5(X:Cx)(i:Nat)(e:Expr):Prop where
 ex:∃x pos,e=.Name x pos/\X.N[i]?=some x/\Loc X.env.scope x/\(X.fn x=true\/X.env.scope.names.lookup x=some .local)
class inductive ua(X:Cx):List Nat->List Expr->Prop
 |nil:ua X [] []
 |cons {i l e es}:J5 X i e->ua X l es->ua X (i::l) (e::es)
inductive PZ(X:Cx):Tg->Expr->Prop
 |nm {i e}:J5 X i e->PZ X (.nm i) e
 |tp {l es k pos}:ua X l es->PZ X (.tp l) (.Tuple es k pos)
def DO:List Nat->Vw|[]=>Yl|i::l=>QX (vE i) (DO l)
section
variable {a:Ad}{X:Cx}
def Rb(g:X.N.Nodup)(h:J5 X i e):PG X e (vE i):=by obtain⟨x,pos,rfl,f,c,d⟩:=h.ex;exact Oc g f c d
def sZ(h:J5 X i e):iX (e::es) X.env=(false,qD e X.env)::iX es X.env:=by obtain⟨x,pos,rfl,_⟩:=h.ex;rfl
theorem yA(a:X.N.Nodup):∀{l} {es},ua X l es->Yu X es (DO l)|_,_,.nil=>Qd|_,_,.cons h r=>Lo (Rb a h) (yA a r) (by rw[sZ h];rfl)
theorem yx:∀{l} {es},ua X l es->(iX es X.env).length=l.length|_,_,.nil=>rfl|_,_,.cons h r=>by rw[sZ h,aI,yx r,aI]
theorem yd:∀{l} {es},ua X l es->(iX es X.env).findIdx? (·.1)=none|_,_,.nil=>rfl|_,_,.cons h r=>by rw[sZ h,List.findIdx?_cons];simp[yd r]
def GD(a:Ad)(X:Cx)(tg:Expr)(t:Tg):Prop:=∀ρ ρ' S H σ v d (Q:L2.St->Hp->Prop),jt X.K a ρ S H σ->Rp X.K a.fa S v d->fO t d ρ=some ρ'->(∀σ',jt X.K a ρ' S H σ'->(∀own:List Nat,(∀i∈t.slots,i∈own)->L2.wipe σ' own=L2.wipe σ own)->(∀i p,iu ρ' σ' i p->iu ρ σ i p)->(∀i,xQ ρ i->xQ ρ' i/\σ'[i]?=σ[i]?)->Q σ' H)->WG X tg v σ H Q
def wK{i}{d}{v}(hi:i<ρ.length){j}{p}(o:iu (ρ.set i (some (.pl d))) (σ.set i (some v)) j p):iu ρ σ j p:=by obtain⟨o,e⟩:=o;have f:j≠i:=by{grind};rw[aU (λz=>f z.symm)] at o e;exact⟨o,e⟩
theorem Ct{K}{S H}{Q}:∀{l} {ds} {vs} {ρ f} {σ},jt K a ρ S H σ->bN K a.fa S vs ds->bindL l ds ρ=some f->(∀b,jt K a f S H b->(∀own:List Nat,(∀i∈l,i∈own)->L2.wipe b own=L2.wipe σ own)->(∀i p,iu f b i p->iu ρ σ i p)->(∀i,xQ ρ i->xQ f i/\b[i]?=σ[i]?)->Q b H)->DO l vs σ H Q|[],[],_,ρ,f,σ,R,.nil,e,q=>by obtain rfl:=bA e;exact⟨rfl,q σ R (λ_ _=>rfl) (λ_ _ o=>o) λ_ o=>⟨o,rfl⟩⟩|[],_::_,_,_,_,_,_,_,e,_=>by cases e|_::_,[],_,_,_,_,_,_,e,_=>by cases e|i::l,d::ds,_,ρ,f,σ,R,.cons (v:=v) (vs:=vs) r C,e,q=>by dsimp only[bindL] at e;split at e;{next hi=>refine⟨v,vs,rfl,?_⟩;refine Ct (R.set (lB hi) r) C e λb z y A I=>q b z (λown t=>?_) (λj p o=>wK (lB hi) (A j p o)) λj o=>by{obtain⟨F,J⟩:=qL (x:=some (.pl d)) (v:=some v) (σ:=σ) (vZ hi) j o;simp_all};rw[y own λj B=>t j (af _ B),wW (t i ag)]};.cases e
def JS(C:X.N.Nodup)(L:X.calm=true){t}{F}(h:PZ X t F):GD a X F t:=by
 cases h with
  |@nm i _ h=>intro ρ f S H σ v d Q R r e q;have e:(if sF ρ i=true then some (ρ.set i (some (.pl d))) else none)=some f:=e;split at e;{next hi=>obtain rfl:=bA e;exact Rk (Rb C h) (q _ (R.set (lB hi) r) (λown M=>wW (M _ (by simp[Tg.slots]))) (λj p o=>wK (lB hi) o) (qL (vZ hi)))};.cases e
  |tp h=>
   intro ρ f S H σ v d Q R r e q;(cases d<;>first|cases e|skip);cases r with
    |tup O I=>
     next l es k pos ds p xs=>
      have P:=by
       have:∀{l:List Nat} {ds:List D} {ρ f:Ev},bindL l ds ρ=some f->ds.length=l.length:=by
        intro l;induction l with
         |nil=>intro ds ρ f e;cases ds with|nil=>rfl|cons _ _=>cases e
         |cons i l Z=>intro ds ρ f e;cases ds with|nil=>cases e|cons d ds=>dsimp only[bindL] at e;grind
       exact this e
      refine Rk (Tw L (yA C h) (yx h) (yd h)) ⟨p,xs,rfl,qR.mono R.sub O,by rw[I.length,P],?_⟩;exact Ct R I e λz J Y T W=>q z J Y T W
class inductive yD(B:D->Option D->Prop):List D->List D->Prop
 |nil:yD B [] []
 |yes {x xs y ys}:B x (some y)->yD B xs ys->yD B (x::xs) (y::ys)
 |no {x xs ys}:B x none->yD B xs ys->yD B (x::xs) ys
variable {ρ:Ev}{elt tg iter:Expr}{ifs:List Expr}{scope:Scope}{own:List (Str×Nat)}{pos:Pos}{t:Tg}{xs ys:List D}
def QD(a:Ad)(X:Cx)(ρ:Ev)(ifs:List Expr)(b:Bool):Prop:=∀S H σ,jt X.K a ρ S H σ->∀Q:Bool->Hp->Prop,(∀S' H',EB a S H S' H'->Q b H')->∀(π:List (aE×Obj)) (s:Shared),IM X π σ H s->aK (aT X.prog X.w) X.A (forIn ifs true λc r=>if r=true then do let ok<-qB c X.env (cq c X.env);pure (ForInStep.yield ok) else pure (ForInStep.yield r)) (TP X π σ Q) X.xe s
def Ku:QD a X ρ [] true:=λS H σ R Q q π s I=>Od π s σ H Q I (q S H (EB.refl R.sub))
def zh(h:TD a X ρ c b):QD a X ρ [c] b:=λS H σ R Q q π s I=>Qp rB π s σ H Q I (h S H σ R Q q)
def qm(a:Ad)(X:Cx)(ρ:Ev)(scope:Scope)(tg:Expr)(t:Tg)(ifs:List Expr)(elt:Expr)(own:List Nat)(x:D)(o:Option D):Prop:=∃ρ',fO t x (oK ρ own)=some ρ'/\∀(s:Shared) (H:Hp) (C:aE) (cl:List (Str×aE)) (fp:List aE),match o with|some y=>QD a (X.lK s H scope (cJ scope cl C X.env) fp) ρ' ifs true/\ED a (X.lK s H scope (cJ scope cl C X.env) fp) ρ' elt y|none=>QD a (X.lK s H scope (cJ scope cl C X.env) fp) ρ' ifs false
def bG(X:Cx)(scope:Scope)(tg:Expr):TG:=λv σ H Q=>∀(s:Shared) (H0:Hp) (C:aE) (cl:List (Str×aE)) (fp:List aE),WG (X.lK s H0 scope (cJ scope cl C X.env) fp) tg v σ H Q
def bT(X:Cx)(scope:Scope)(ifs:List Expr):TT:=λσ H Q=>∀(s0:Shared) (H0:Hp) (C:aE) (cl:List (Str×aE)) (fp:List aE) (π:List (aE×Obj)) (s:Shared),IM (X.lK s0 H0 scope (cJ scope cl C X.env) fp) π σ H s->aK (aT X.prog X.w) X.A (forIn ifs true λc r=>if r=true then do let ok<-qB c (cJ scope cl C X.env) (cq c (cJ scope cl C X.env));pure (ForInStep.yield ok) else pure (ForInStep.yield r)) (TP (X.lK s0 H0 scope (cJ scope cl C X.env) fp) π σ Q) (λ_ _=>False) s
def bE(X:Cx)(scope:Scope)(e:Expr):TE:=λσ H Q=>∀(s:Shared) (H0:Hp) (C:aE) (cl:List (Str×aE)) (fp:List aE),WE (X.lK s H0 scope (cJ scope cl C X.env) fp) e σ H Q
def MB(hi:ID a X ρ tg iter xs)(hg:∀(s) (H) (C) (cl) (fp),GD a (X.lK s H scope (cJ scope cl C X.env) fp) tg t) (hsl:∀i∈t.slots,i∈own.map (·.2)) (hb:yD (qm a X ρ scope tg t ifs elt (own.map (·.2))) xs ys) {S H} {σ} (R:jt X.K a ρ S H σ) {Q} (q:∀p vs S' H',EB a S H S' H'->H' p=none->bN X.K a.fa S' vs ys->Q (.ref p) (IZ H' p (.lst vs))):Vj (WI X tg iter) (bG X scope tg) (bT X scope ifs) (bE X scope elt) (own.map (·.2)) σ H Q:=by refine hi S H σ R _ λJ S1 H1 s1 ok hz=>?_;intro p hp;have W:∀(i:Nat) (n w:List D),yD (qm a X ρ scope tg t ifs elt (own.map (·.2))) (xs.drop i) w->n++w=ys->True:=λ_ _ _ _ _=>trivial;refine⟨λi m Z=>m=xs.length -i/\i<=xs.length/\∃I A vs n w,Z=IZ A p (.lst vs)/\A p=none/\EB a S1 H1 I A/\bN X.K a.fa I vs n/\n++w=ys/\n.length<=i/\yD (qm a X ρ scope tg t ifs elt (own.map (·.2))) (xs.drop i) w,⟨xs.length,by rfl,fJ _,S1,H1,[],[],ys,rfl,hp,EB.refl s1.h,.nil,rfl,aB _,hb⟩,?_⟩;rintro i m Z ⟨rfl,hi',I,Z,vs,n,w,rfl,n2,s2,r2,e2,l2,hb2⟩;have hs2:eY I (IZ Z p (.lst vs)):=λb u h=>by{have hb:b≠p:=aY (s2.h b u h) n2;rw[aS hb];exact s2.h b u h};have okk:=ok I (IZ Z p (.lst vs)) s2.s hs2;by_cases hlt:i<xs.length;{have hd:xs.drop i=xs[i]::xs.drop (i+1):=(jH hlt).symm;rw[hd] at hb2;have hx:xs[i]?=some xs[i]:=by{simp};obtain⟨go,yl⟩:=okk.1 i _ hx;refine .inr ⟨go,λH3=>i+1<=xs.length/\∃I A vs n w,H3=IZ A p (.lst vs)/\A p=none/\EB a S1 H1 I A/\bN X.K a.fa I vs n/\n++w=ys/\n.length<=i+1/\yD (qm a X ρ scope tg t ifs elt (own.map (·.2))) (xs.drop (i+1)) w,λH3 h3=>⟨xs.length -(i+1),by grind,rfl,h3⟩,λx H3 hy=>?_⟩;obtain⟨S3,s3,r3⟩:=yl x H3 hy;have k3:=s3.k p _ (EB.free s2.h n2) bh rfl;have own3:∀{S4 P:Hp},EB a S3 H3 S4 P->P p=some (.lst vs)/\S4 p=none:=λ{S4 P} O=>O.k p _ k3.2 k3.1 rfl;have base:∀{S4 P:Hp},EB a S3 H3 S4 P->∃H5,P=IZ H5 p (.lst vs)/\H5 p=none/\EB a S1 H1 S4 H5:=λ{S4 P} O=>by{obtain⟨k1,k2⟩:=own3 O;refine⟨λb=>if b=p then none else P b,?_,by simp,?_⟩;{funext b;unfold IZ;by_cases hb:b=p;{subst hb;simp[k1]};.simp[hb]};.refine⟨s2.s.trans (s3.s.trans O.s),λb u h=>?_,λb u hn h hu=>?_,λtb=>?_⟩;{have hb:b≠p:=λz=>by{rw[z,k2] at h;cases h};simp[hb];exact O.h b u h};{obtain⟨g1,g2⟩:=s2.k b u hn h hu;have hb:b≠p:=aY g1 n2;have g3:=s3.k b u g2 (by rw[aS hb];exact g1) hu;have g4:=O.k b u g3.2 g3.1 hu;simp[hb];exact g4};.have t2:jz a I (IZ Z p (.lst vs)):=(s2.t tb).IZ rfl (.inl n2) λb _ h=>h;refine(O.t (s3.t t2)).to (λb u hb hu=>?_) (λ_ _ _ h=>h) λb ps hb=>?_;{have hbp:b≠p:=λz=>by{rw[z,k1] at hb;obtain rfl:=bA hb;cases hu};simp[hbp];exact hb};.by_cases hbp:b=p;{simp[hbp] at hb};.simp[hbp] at hb;exact⟨ps,hb⟩};have R3:jt X.K a ρ S3 H3 σ:=by{have Ra:jt X.K a ρ I Z σ:=(R.step s1).step s2;have sN:EB a I Z I (IZ Z p (.lst vs)):=EB.vU s2.h n2;exact(Ra.step sN).step s3};have R4:=R3.wipe (own.map (·.2));(have fin:∀(y:Option D) ys3,qm a X ρ scope tg t ifs elt (own.map (·.2)) xs[i] y->yD (qm a X ρ scope tg t ifs elt (own.map (·.2))) (xs.drop (i+1)) ys3->(y.toList++ys3=w)->bG X scope tg x (wipe σ (own.map (·.2))) H3 λN Z=>wipe N (own.map (·.2))=wipe σ (own.map (·.2))/\bT X scope ifs N Z λb H3=>if b=true then bE X scope elt N H3 λy P=>∃acc,P p=some (.lst acc)/\acc.length<aG/\(i+1<=xs.length/\∃I A vs n w,IZ P p (.lst (acc++[y]))=IZ A p (.lst vs)/\A p=none/\EB a S1 H1 I A/\bN X.K a.fa I vs n/\n++w=ys/\n.length<=i+1/\yD (qm a X ρ scope tg t ifs elt (own.map (·.2))) (xs.drop (i+1)) w) else(i+1<=xs.length/\∃I A vs n w,H3=IZ A p (.lst vs)/\A p=none/\EB a S1 H1 I A/\bN X.K a.fa I vs n/\n++w=ys/\n.length<=i+1/\yD (qm a X ρ scope tg t ifs elt (own.map (·.2))) (xs.drop (i+1)) w):=by intro y ys3 hB hr ey s0 H0 C cl fp;obtain⟨ρ',eb,hE⟩:=hB;refine hg s0 H0 C cl fp _ _ S3 H3 _ x _ _ R4 r3 eb λN R5 w5 o5 _=>⟨?_,?_⟩;{rw[w5 _ hsl];have:∀(l:List Nat) (σ:L2.St),wipe (wipe σ l) l=wipe σ l:=by{intro l σ;have key:∀(m:List Nat) (T:L2.St),(∀j∈m,j<T.length->T[j]?=some none)->wipe T m=T:=by{intro m;induction m with|nil=>intro T _;rfl|cons j m ih=>intro T hj;unfold L2.wipe;rw[ih T λk hk=>hj k (af _ hk)];apply eW;intro k;by_cases hk:j=k;{subst hk;by_cases hl:j<T.length;{rw[gQ hl,hj j ag hl]};.rw[bF (by simpa using hl),bF (by simpa using hl)]};.rw[aU hk]};have at_:∀(m:List Nat) (T:L2.St) (j:Nat),j∈m->j<T.length->(wipe T m)[j]?=some none:=by{intro m;induction m with|nil=>intro T j hj;simp at hj|cons k m ih=>intro T j hj hl;unfold L2.wipe;by_cases hk:k=j;{subst hk;rw[gQ (by rw[i8];exact hl)]};.rw[aU hk];exact ih T j (by simpa[dQ hk] using hj) hl};exact key l _ λj hj hl=>at_ l σ j hj (by rw[i8] at hl;exact hl)};exact this _ _};.intro s0' H0' C' cl' fp' pins' s' I';cases y with|none=>have h1:QD a (X.lK s0' H0' scope (cJ scope cl' C' X.env) fp') ρ' ifs false:=hE s0' H0' C' cl' fp';refine h1 S3 H3 N R5 _ (λS4 P O=>?_) pins' s' I';rw[ax c9];obtain⟨H5,rfl,n5,s5⟩:=base O;exact⟨hlt,S4,H5,vs,n,ys3,rfl,n5,s5,r2.up (s3.s.trans O.s),by rw[<-e2,<-ey];rfl,Nat.le_succ_of_le l2,hr⟩|some y=>obtain⟨h1,_⟩:=hE s0' H0' C' cl' fp';refine h1 S3 H3 N R5 _ (λS4 P O=>?_) pins' s' I';rw[au rfl];intro s1' H1' C1 cl1 fp1;obtain⟨_,h2⟩:=hE s1' H1' C1 cl1 fp1;refine h2 S4 P N (R5.step O) _ λv S6 H6 s6 r6=>?_;obtain⟨k1,k2⟩:=own3 (O.trans s6);obtain⟨H5,rfl,n5,s5⟩:=base (O.trans s6);refine⟨vs,bh,?_,hlt,S6,H5,vs++[v],n++[y],ys3,NJ,n5,s5,(r2.up (s3.s.trans (O.s.trans s6.s))).append (.cons r6 .nil),by rw[<-e2,<-ey];simp,?_,hr⟩;{rw[r2.length];exact bO l2 (aJ hlt hz)};.rw[bo,List.length_singleton];exact Nm l2);cases hb2 with|yes hB hr=>exact fin (some _) _ hB hr rfl|no hB hr=>exact fin none _ hB hr rfl};.have e:i=xs.length:=by{lia};subst e;rw[MU] at hb2;cases hb2;rw[bM] at e2;subst e2;exact .inl ⟨okk.2,q p vs I Z (s1.trans s2) n2 r2⟩
def Ro(l:X.calm=true)(j:X.N.Nodup)(n:mO X.N X.env.scope scope own)(k:∀x,cH iter X.env x=pure x)(hi:ID a X ρ tg iter xs)(m:∀(s) (H) (C) (cl) (b),GD a (X.lK s H scope (cJ scope cl C X.env) b) tg t) (e:∀i∈t.slots,i∈own.map (·.2)) (g:yD (qm a X ρ scope tg t ifs elt (own.map (·.2))) xs ys):FD a X ρ (.ListComp elt [⟨tg,iter,ifs,0⟩] scope pos) ys:=λS H σ R Q q=>dY (Yg l j Um n (λs H C cl b=>λπ d c H' v u f I r h=>h s H C cl b π d u I r) (λs H C cl b=>λπ d c H' f I h=>h s H C cl b π d I) (λs H C cl b=>λπ d c H' f I h=>h s H C cl b π d I) k) (MB hi m e g R q)
end
class inductive Lp(B:D->Ev->Out->Prop):List D->Ev->Out->Prop
 |z {ρ}:Lp B [] ρ (.nx ρ)
 |n {x xs ρ gf o}:B x ρ (.nx gf)->Lp B xs gf o->Lp B (x::xs) ρ o
 |c {x xs ρ gf o}:B x ρ (.ct gf)->Lp B xs gf o->Lp B (x::xs) ρ o
 |b {x xs ρ gf}:B x ρ (.bk gf)->Lp B (x::xs) ρ (.nx gf)
 |r {x xs ρ d gf}:B x ρ (.rt d gf)->Lp B (x::xs) ρ (.rt d gf)
class inductive Wh(C:Ev->Bool->Prop)(B:Ev->Out->Prop):Nat->Ev->Out->Prop
 |z {m ρ}:C ρ false->Wh C B m ρ (.nx ρ)
 |n {m ρ gf o}:C ρ true->B ρ (.nx gf)->Wh C B m gf o->Wh C B (m+1) ρ o
 |c {m ρ gf o}:C ρ true->B ρ (.ct gf)->Wh C B m gf o->Wh C B (m+1) ρ o
 |b {m ρ gf}:C ρ true->B ρ (.bk gf)->Wh C B m ρ (.nx gf)
 |r {m ρ d gf}:C ρ true->B ρ (.rt d gf)->Wh C B m ρ (.rt d gf)
def P1(l:aE)(items:Array Value)(n:Nat)(b:aE)(items2:Array Value)(n2:Nat)(dct:Option aE)(sl:Array (Option Value))(hs0:¬(!items.isEmpty&&fL (items.size+items2.size))=true)(hs1:items.size<=aG)(hs2:items.size+items2.size<=aG+1):Meets (jG.«list.extend» ⟨[.ref l,.ref b],[]⟩) (λ_ R s=>s.heap.get? l=some {cls:=.type "list",dict:=none,data:=.seq items n,slots:=#[]}/\s.heap.get? b=some {cls:=.type "tuple",dict:=dct,data:=.seq items2 n2,slots:=sl}/\R (.ok (.ret Value.none)) {s with heap:=s.heap.update l (jl λx=>x++items2),toks:=s.toks}):=.of_wp λprog w A R s h=>by obtain⟨hp,g,d,tk,os⟩:=s;obtain⟨hl,hb,h⟩:=h;have f1:=UR;have f2:=US;have f3:=UT;have f4:=UU;have f5:=UW;have hz':(items++items2).size<=aG+1:=by{rw[Array.size_append];exact hs2};wp_walk using (jI hl rfl (hz:=hs1) (_hz':=hz')),pL hl,pL hb;exact⟨_,rfl,h⟩
structure cj(a:Ad)(ρ:Ev)(σ:L2.St)(ρ':Ev)(σ':L2.St)(S H S' H':Hp):Prop where
 s:eY S S'
 h:eY S' H'
 k:∀p o,S p=none->H p=some o->qx o=false->(¬∃i,iu ρ σ i p)->H' p=some o/\S' p=none
 t:jz a S H->jz a S' H'
 n:∀i p,iu ρ' σ' i p->(∃j,iu ρ σ j p)\/H p=none
 o:∀i,xQ ρ i->xQ ρ' i/\σ'[i]?=σ[i]?
section
variable {a:Ad}{ρ gf ρ2:Ev}{σ σ1 σ2:L2.St}{S H S1 H1 S2 H2:Hp}
def EB.m(s:EB a S H S1 H1):cj a ρ σ ρ σ S H S1 H1:=⟨s.s,s.h,λp o n h z _=>s.k p o n h z,s.t,λi p o=>.inl ⟨i,o⟩,λ_ o=>⟨o,rfl⟩⟩
theorem cj.trans(v:jz a S H)(x:cj a ρ σ gf σ1 S H S1 H1)(y:cj a gf σ1 ρ2 σ2 S1 H1 S2 H2):cj a ρ σ ρ2 σ2 S H S2 H2:=by
 refine⟨x.s.trans y.s,y.h,λp o n h F G=>?_,λh=>y.t (x.t h),λi p o=>?_,λi o=>⟨(y.o i (x.o i o).1).1,((y.o i (x.o i o).1).2).trans (x.o i o).2⟩⟩;.obtain⟨M,L⟩:=x.k p o n h F G;refine y.k p o L M F λzz=>?_;obtain⟨i,q⟩:=zz;rcases x.n i p q with z|z;{exact G z};.grind
 .rcases y.n i p o with⟨j,z⟩|z;{exact x.n j p z}
  .by_cases J:∃j,iu ρ σ j p;{simp_all}
   .refine .inr ?_;cases e:H p with
     |none=>rfl
     |some u=>
      cases B:S p with
       |none=>cases C:qx u with|false=>rw[(x.k p u B e C J).1] at z;cases z|true=>(cases u<;>first|cases C|skip);obtain⟨r,O,rfl⟩:=v.all _ _ e;obtain⟨_,N|⟨_,N,_⟩⟩:=(x.t v).at_ r O;{simp_all};simp_all
       |some w=>rw[x.h p w (x.s p w B)] at z;cases z
end
def yI(K:ah)(a:Ad)(ρ:Ev)(σ:L2.St)(S H:Hp)(D:Ends):Out->Prop|.nx ρ'=>∀S' H' σ',jt K a ρ' S' H' σ'->cj a ρ σ ρ' σ' S H S' H'->D.nx σ' H'|.bk ρ'=>∀S' H' σ',jt K a ρ' S' H' σ'->cj a ρ σ ρ' σ' S H S' H'->D.bk σ' H'|.ct ρ'=>∀S' H' σ',jt K a ρ' S' H' σ'->cj a ρ σ ρ' σ' S H S' H'->D.ct σ' H'|.rt d ρ'=>∀v S' H' σ',jt K a ρ' S' H' σ'->cj a ρ σ ρ' σ' S H S' H'->Rp K a.fa S' v d->D.rt v H'
def SD(a:Ad)(X:Cx)(ρ:Ev)(st:List Stmt)(o:Out):Prop:=∀S H σ,jt X.K a ρ S H σ->∀D:Ends,yI X.K a ρ σ S H D o->Zc X st D σ H
def xj(a:Ad)(X:Cx)(ρ:Ev)(st:Stmt)(o:Out):Prop:=∀S H σ,jt X.K a ρ S H σ->∀D:Ends,yI X.K a ρ σ S H D o->WS X st D σ H
section
variable {a:Ad}{X:Cx}{ρ gf ρ':Ev}{st:Stmt}{rest:List Stmt}{o:Out}{e:Expr}{d:D}{pos:Pos}
def yI.from{K}{S H k j}{σ f}{D}(g:jz a S H)(m:cj a ρ σ gf f S H k j)(h:yI K a ρ σ S H D o):yI K a gf f k j D o:=by cases o with|nx ρ'=>exact λe H' b R s=>h e H' b R (cj.trans g m s)|bk ρ'=>exact λe H' b R s=>h e H' b R (cj.trans g m s)|ct ρ'=>exact λe H' b R s=>h e H' b R (cj.trans g m s)|rt d ρ'=>exact λv e H' b R s r=>h v e H' b R (cj.trans g m s) r
def Tf:SD a X ρ [] (.nx ρ):=λS H σ R D q=>Dz Qu (q S H σ R (EB.refl R.sub).m)
def ic(d:xj a X ρ st (.nx gf))(c:SD a X gf rest o):SD a X ρ (st::rest) o:=λS H σ R D q=>Dz (wA Wu rH) (d S H σ R _ λf g b e h=>c f g b e D (q.from R.tab h))
def j6(g:xj a X ρ st o)(f:∀ρ',o≠.nx ρ'):SD a X ρ (st::rest) o:=λS H σ R D q=>by refine Dz (wA Wu rH) (g S H σ R _ ?_);cases o with|nx ρ'=>exact absurd rfl (f ρ')|bk ρ'=>exact q|ct ρ'=>exact q|rt d ρ'=>exact q
def RN(hi:ρ[i]?=some (some (.ow ds)))(h:SD a X (ρ.set i (some (.pl (.lst ds)))) rest o):SD a X ρ rest o:=λS H σ R D q=>by obtain⟨p,vs,op,x,l⟩:=R.freeze hi;refine h _ H σ l D (q.from R.tab ⟨gO (iu.free R op).1,l.sub,λb u n r _ s=>⟨r,?_⟩,λ_=>l.tab,λj b g=>.inl ⟨j,?_⟩,λj o=>⟨(qL (σ:=σ) (v:=none) (λ⟨_,_,z⟩=>by simp_all) j o).1,rfl⟩⟩);{have m:b≠p:=λz=>s ⟨i,by simp_all⟩;rw[aS m];exact n};.obtain⟨g,e⟩:=g;have w:j≠i:=by{grind};rw[aU (λz=>w z.symm)] at g;exact⟨g,e⟩
def Mj(h:ED a X ρ e d):xj a X ρ (.Return (some e) pos) (.rt d ρ):=λS H σ R D q=>jK (DC b9) (h S H σ R _ λv g c b f=>q v g c σ (R.step b) b.m f)
def Uv:xj a X ρ (.Break pos) (.bk ρ):=λS H σ R D q=>jK Mc (q S H σ R (EB.refl R.sub).m)
def Tj:xj a X ρ (.Continue pos) (.ct ρ):=λS H σ R D q=>jK AQ (q S H σ R (EB.refl R.sub).m)
def FJ{b}(j:TD a X ρ e b)(k:b=true->SD a X ρ x o)(l:b=false->SD a X ρ y o):xj a X ρ (.If e x y pos) o:=λS H σ R D q=>by refine jK (WV rB rH rH) (j S H σ R _ λh i d=>?_);cases b with|true=>exact k rfl h i σ (R.step d) D (q.from R.tab d.m)|false=>exact l rfl h i σ (R.step d) D (q.from R.tab d.m)
def cj.JO{S H b H'}{σ}{i}{v}(s:EB a S H b H')(hi:sF ρ i=true):cj a ρ σ (ρ.set i (some (.pl d))) (σ.set i (some v)) S H b H':=⟨s.s,s.h,λp o n h z _=>s.k p o n h z,s.t,λj p c=>.inl ⟨j,wK (lB hi) c⟩,qL (vZ hi)⟩
def Ml(c:X.N.Nodup)(k:X.N[i]?=some x)(g:Loc X.env.scope x)(m:X.fn x=true\/X.env.scope.names.lookup x=some .local)(n:fz e (some (.Name x p')) pos.line X.env=pure false)(hi:sF ρ i=true)(h:ED a X ρ e d):xj a X ρ (.Assign [.Name x p'] e pos) (.nx (ρ.set i (some (.pl d)))):=λS H σ R D q=>jK (zA c k g b9 n m) (h S H σ R _ λv j l b f=>q j l _ ((R.step b).set (lB hi) f) (cj.JO b hi))
def cj.QY{S H o H'}{σ}{i}{p}{vs}{ds}(R:jt X.K a ρ o H' σ)(s:EB a S H o H')(n:H' p=none)(r:jz a S H)(hi:sF ρ i=true):cj a ρ σ (ρ.set i (some (.ow ds))) (σ.set i (some (.ref p))) S H o (IZ H' p (.lst vs)):=by have A:=s.back r n;refine⟨s.s,λb u h=>?_,λb u w h v _=>?_,λh=>(s.t h).IZ rfl (.inl n) λb _ h=>h,λj b m=>?_,qL (vZ hi)⟩;{rw[aS (aY (s.h b u h) n)];exact s.h b u h};{obtain⟨y,B⟩:=s.k b u w h v;rw[aS (aY y n)];trivial};.obtain⟨m,e⟩:=m;by_cases x:j=i;{grind};.rw[aU (λz=>x z.symm)] at m e;exact .inl ⟨j,m,e⟩
def RW(c:X.N.Nodup)(j:X.N[i]?=some x)(f:Loc X.env.scope x)(l:X.fn x=true\/X.env.scope.names.lookup x=some .local)(k:fz e (some (.Name x m)) pos.line X.env=pure false)(hi:sF ρ i=true)(h:FD a X ρ e ds):xj a X ρ (.Assign [.Name x m] e pos) (.nx (ρ.set i (some (.ow ds)))):=λS H σ R D q=>jK (zA c j f b9 k l) (h S H σ R _ λp vs g o b n d=>q g _ _ ((R.step b).Mu (lB hi) n d) (cj.QY (R.step b) b n R.tab hi))
section
variable {elt tg iter:Expr}{ifs:List Expr}{scope:Scope}{own:List (Str×Nat)}{cpos:Pos}{t:Tg}{xs ys:List D}{i:Nat}{x:Str}{p':Pos}
def Kq(k:X.calm=true)(g:X.N.Nodup)(f:X.N[i]?=some x)(j:X.env.scope.names.lookup x=some .local)(d:fz (.ListComp elt [⟨tg,iter,ifs,0⟩] scope cpos) (some (.Name x p')) pos.line X.env=pure true) (m:mO X.N X.env.scope scope own) (l:∀x,cH iter X.env x=pure x):PS X (.Assign [.Name x p'] (.ListComp elt [⟨tg,iter,ifs,0⟩] scope cpos) pos) (Qr (Vj (WI X tg iter) (bG X scope tg) (bT X scope ifs) (bE X scope elt) (own.map (·.2))) (vE i)):=Ky k g f j d Um m (λs H C cl c=>λπ b a H' v u e I r h=>h s H C cl c π b u I r) (λs H C cl c=>λπ b a H' e I h=>h s H C cl c π b I) (λs H C cl c=>λπ b a H' e I h=>h s H C cl c π b I) l
def L5(j:X.calm=true)(f:X.N.Nodup)(r:X.N[i]?=some x)(g:X.env.scope.names.lookup x=some .local)(e:fz (.ListComp elt [⟨tg,iter,ifs,0⟩] scope cpos) (some (.Name x p')) pos.line X.env=pure true) (v:mO X.N X.env.scope scope own) (h:∀x,cH iter X.env x=pure x) (hi:ID a X ρ tg iter xs) (u:∀(s) (H) (C) (cl) (l),GD a (X.lK s H scope (cJ scope cl C X.env) l) tg t) (c:∀i∈t.slots,i∈own.map (·.2)) (k:yD (qm a X ρ scope tg t ifs elt (own.map (·.2))) xs ys) (b:sF ρ i=true):xj a X ρ (.Assign [.Name x p'] (.ListComp elt [⟨tg,iter,ifs,0⟩] scope cpos) pos) (.nx (ρ.set i (some (.ow ys)))):=λS H σ R D q=>jK (Kq j f r g e v h) (MB hi u c k R λp vs o w d n m=>q o _ _ ((R.step d).Mu (lB b) n m) (cj.QY (R.step d) d n R.tab b))
def Kt(l:X.calm=true)(j:X.N.Nodup)(v:X.N[i]?=some x)(w:X.env.scope.names.lookup x=some .local)(e:fz (.ListComp elt [⟨tg,iter,ifs,0⟩] scope cpos) (some (.Name x p')) pos.line X.env=pure true) (y:mO X.N X.env.scope scope own) (k:∀x,cH iter X.env x=pure x) (hi:ID a X ρ tg iter xs) (z:∀(s) (H) (C) (cl) (r),GD a (X.lK s H scope (cJ scope cl C X.env) r) tg t) (c:∀i∈t.slots,i∈own.map (·.2)) (m:yD (qm a X ρ scope tg t ifs elt (own.map (·.2))) xs ys) (b:sF ρ i=true):xj a X ρ (.Assign [.Name x p'] (.ListComp elt [⟨tg,iter,ifs,0⟩] scope cpos) pos) (.nx (ρ.set i (some (.pl (.lst ys))))):=λS H σ R D q=>jK (Kq l j v w e y k) (MB hi z c m R λp vs A B d n u=>by have g:=d.trans (EB.new (o:=.lst vs) d.h n);exact q _ _ _ ((R.step g).set (lB b) (.lst (.inl bh) (u.up (gO (EB.free d.h n))))) (cj.JO g b))
end
def cj.chg{S H r H'}{σ}{i}{p}{vs}{ds g}(s:EB a S H r H')(o:iu ρ σ i p)(I:ρ[i]?=some (some (.ow g)))(J:r p=none){q}(C:H' p=some (.lst q)):cj a ρ σ (ρ.set i (some (.ow ds))) σ S H r (IZ H' p (.lst vs)):=by refine⟨s.s,λb u h=>?_,λb u F h G B=>?_,λh=>(s.t h).IZ rfl (.inr ⟨_,C,rfl⟩) λb _ h=>h,λj b l=>?_,λj o=>⟨(qL (σ:=σ) (v:=none) (λ⟨_,_,z⟩=>by simp_all) j o).1,rfl⟩⟩;{have w:b≠p:=λz=>Eg;rw[aS w];exact s.h b u h};{have w:b≠p:=λz=>B ⟨i,by simp_all⟩;rw[aS w];exact s.k b u F h G};.obtain⟨l,e⟩:=l;by_cases y:j=i;{subst y;exact .inl ⟨j,.inl ⟨g,I⟩,e⟩};.rw[aU (λz=>y z.symm)] at l;exact .inl ⟨j,l,e⟩
def iV{i:Nat}{x}{a}(c:X.N[i]?=some x)(d:vb X.env.scope x)(e:qq9 x)(b:xj8 x){σ}{v}(h:σ[i]?=some (some v)){H}{Q}(q:Q v H):WE X (.Name x a) σ H Q:=dY (wM c d e b) ⟨v,h,q⟩
section
variable {i:Nat}{x:Str}{npos apos cpos:Pos}{ds l:List D}
def Ux(z:X.N[i]?=some x)(J:vb X.env.scope x)(I:qq9 x)(r:xj8 x)(j:(apos.endLine==cpos.line)=true)(l:∀es,aH (e::es) X.env=(false,cq e X.env)::aH es X.env) (o:ρ[i]?=some (some (.ow ds))) (hz:ds.length<aG) (h:ED a X ρ e d):xj a X ρ (.Expr (.Call (.Attribute (.Name x npos) "append" apos) [e] [] cpos) pos) (.nx (ρ.set i (some (.ow (ds++[d]))))):=λS H σ R D q=>by have m:((dU cpos (aH [e] X.env)).all (λx=>!x.1)&&(gT cpos (eA [] X.env)).all (λx=>x.1.isSome)&&decide (([e]:List Expr).length+([]:List Keyword).length+(if([]:List Keyword).isEmpty then 0 else 1)<30))=true:=by{rw[l];rfl};refine jK (zq (JD mI C4 PySem.F.type_list_append IS b9 ka rfl m j (l _) rfl)) ?_;obtain⟨p,vs,t,G,w,y⟩:=R.ow i ds o;refine iV z J I r t ⟨.inl ⟨rfl,_,nj.of w⟩,?_⟩;refine AW (fK b9 hF (l _)) (h S H σ R _ λv C M n A=>?_);obtain⟨u,L⟩:=n.k p _ G w rfl;refine⟨p,vs,v,rfl,rfl,u,by rw[y.length];exact hz,?_⟩;exact q C _ σ ((R.step n).chg o t ((y.up n.s).append (.cons A .nil))) (cj.chg n ⟨.inl ⟨ds,o⟩,t⟩ o L u)
def aah(K:ah):V->List V->Hp->VK->Prop:=λx vs H Q=>∃(b:Bool) (p r:aE) (xs zs:List V),x=.ref p/\vs=[.ref r]/\H p=some (.lst xs)/\((b=true/\qR K H r zs)\/(b=false/\Rd H r (.lst zs)))/\xs.length+zs.length<=aG/\Q .ie (IZ H p (.lst (xs++zs)))
def RQ:MtM X "list.extend" (aah X.K):=by intro π s σ H x vs v us Q I R U h;obtain⟨b,l,O,xs,zs,rfl,rfl,A,o,hz,q⟩:=h;subst R;obtain⟨u,rfl,Z⟩:=U.one;subst Z;obtain⟨z,its,n,r,hl,e⟩:=I.VZ A;rcases o with⟨_,o⟩|⟨_,o⟩;{obtain⟨d,p,⟨W,L,Y,G,d2⟩,T⟩:=I.tuple o;have M:=p.length;have hsz:its.toArray.size+d.toArray.size<=aG:=by{rw[bx,bx];simp_all};have i:¬(!its.toArray.isEmpty&&fL (its.toArray.size+d.toArray.size))=true:=by{rw[BJ hsz,qs];exact c9};obtain⟨c,C,dt,P⟩:=W;subst Y d2;refine C3 qG ⟨_,e,rfl⟩ MV (Jy _ _) (P1 l its.toArray n O d.toArray G C P i (by omega) (by omega)) ⟨e,L,?_⟩;refine⟨.ie,_,I.RM (its':=its++d) A e (by simp) (r.append p) ?_,rfl,q⟩;simp_all};.obtain⟨T,d,G,p,L⟩:=o.ok I.fR;have M:=p.length;have hsz:its.toArray.size+d.toArray.size<=aG:=Eg;have i:¬(!its.toArray.isEmpty&&fL (its.toArray.size+d.toArray.size))=true:=by{rw[BJ hsz,qs];simp_all};refine C3 qG ⟨_,e,rfl⟩ MV (Jy _ _) (AutoSeq1.list_extend_list_list_0 l its.toArray n O d.toArray G i (by omega) (by omega)) ⟨e,L,?_⟩;refine⟨.ie,_,I.RM (its':=its++d) A e (by simp) (r.append p) ?_,rfl,q⟩;rw[bo];omega
def Tn(Y:X.N[i]?=some x)(Q:vb X.env.scope x)(U:qq9 x)(A:xj8 x)(o:(apos.endLine==cpos.line)=true)(n:∀es,aH (e::es) X.env=(false,cq e X.env)::aH es X.env) (r:ρ[i]?=some (some (.ow ds))) (P:oj d=some l) (hz:ds.length+l.length<=aG) (h:ED a X ρ e d):xj a X ρ (.Expr (.Call (.Attribute (.Name x npos) "extend" apos) [e] [] cpos) pos) (.nx (ρ.set i (some (.ow (ds++l))))):=λS H σ R D q=>by have w:((dU cpos (aH [e] X.env)).all (λx=>!x.1)&&(gT cpos (eA [] X.env)).all (λx=>x.1.isSome)&&decide (([e]:List Expr).length+([]:List Keyword).length+(if([]:List Keyword).isEmpty then 0 else 1)<30))=true:=by{rw[n];rfl};refine jK (zq (JD mI qG PySem.F.type_list_extend RQ b9 ka rfl w o (n _) rfl)) ?_;obtain⟨p,vs,t,O,G,z⟩:=R.ow i ds r;refine iV Y Q U A t ⟨.inl ⟨rfl,_,nj.of G⟩,?_⟩;refine AW (fK b9 hF (n _)) (h S H σ R _ λv L Z j C=>?_);obtain⟨y,J⟩:=j.k p _ O G rfl;(cases d<;>first|cases P|skip);{cases C with|lst B u=>refine⟨false,p,_,vs,_,rfl,rfl,y,.inr ⟨rfl,Rd.mono j.h B⟩,by rw[z.length,u.length];exact hz,?_⟩;exact q L _ σ ((R.step j).chg r t ((z.up j.s).append u)) (cj.chg j ⟨.inl ⟨ds,r⟩,t⟩ r J y)};.cases C with|tup B u=>refine⟨true,p,_,vs,_,rfl,rfl,y,.inl ⟨rfl,qR.mono j.h B⟩,by rw[z.length,u.length];exact hz,?_⟩;exact q L _ σ ((R.step j).chg r t ((z.up j.s).append u)) (cj.chg j ⟨.inl ⟨ds,r⟩,t⟩ r J y)
def Qq{b}(G:X.N[i]?=some x)(Y:vb X.env.scope x)(F:qq9 x)(w:xj8 x)
  (C:GY [.Subscript (.Name x npos) y b] e pos.line X.env=pure false) (hw:swappedStores [.Subscript (.Name x npos) y b] e X.env=pure none)
  (J:∀v,qD (.Subscript (.Name x npos) y b) X.env v=(do
   let l<-fw [v] (cq (.Name x npos) X.env)
   let o<-fw [v,l] (cq y X.env)
   lJ b
   fw [v,l,o] (UG l o v)
   release [v,l,o] []))
  (j:ρ[i]?=some (some (.ow ds))) (L:Fi ds.length k=some n) (Z:ED a X ρ e d) (Q:ED a X ρ y (.int k)):
  xj a X ρ (.Assign [.Subscript (.Name x npos) y b] e pos) (.nx (ρ.set i (some (.ow (ds.set n d))))):=λS H σ R D q=>by
 refine jK (TY b9 (Tb b9 b9 set_list J) C hw rfl) (Z S H σ R _ λv O T z M=>?_)
 have r:=R.step z
 obtain⟨p,vs,t,W,hp,A⟩:=r.ow i ds j
 refine iV G Y F w t (Q O T σ r _ λu U H2 h P=>?_)
 obtain rfl:=xj9 P
 obtain⟨B,I⟩:=h.k p _ W hp rfl
 refine⟨p,vs,k,n,rfl,rfl,B,by rw[A.length];exact L,?_⟩
 exact q U _ σ ((r.step h).chg j t (bN.set (M.up h.s) n (A.up h.s))) (cj.chg (z.trans h) ⟨.inl ⟨ds,j⟩,t⟩ j I B)
end
def LM{tg G}{f}{t}{xs}(hp:yS (aT X.prog X.w) X.A X.env X.xe)(hc:X.calm=true)(hs:∀x,cH G X.env x=pure x)(hi:ID a X ρ tg G xs)(hg:GD a X tg t) (hl:Lp (λx ρ o=>∃i7,fO t x ρ=some i7/\SD a X i7 f o) xs ρ o):xj a X ρ (.For tg G f [] pos) o:=λS H σ R D q=>by refine jK (Ue hp hc Um ZW rH hs) (hi S H σ R _ λJ Q H1 s1 ok hz=>?_);refine⟨λi m z Y=>m=xs.length -i/\i<=xs.length/\∃d l,jt X.K a d l Y z/\cj a ρ σ d z S H l Y/\eY Q l/\Lp (λx ρ o=>∃i7,fO t x ρ=some i7/\SD a X i7 f o) (xs.drop i) d o,⟨xs.length,by rfl,fJ _,ρ,Q,R.step s1,s1.m,λ_ _ h=>h,hl⟩,?_⟩;rintro i m z Y ⟨rfl,hi',d,l,R2,m2,e2,O⟩;have okk:=ok l Y e2 R2.sub;by_cases L:i<xs.length;{have hd:xs.drop i=xs[i]::xs.drop (i+1):=(jH L).symm;rw[hd] at O;have hx:xs[i]?=some xs[i]:=by{simp};obtain⟨go,yl⟩:=okk.1 i _ hx;refine .inr ⟨go,λg u=>i+1<=xs.length/\∃d l,jt X.K a d l u g/\cj a ρ σ d g S H l u/\eY Q l/\Lp (λx ρ o=>∃i7,fO t x ρ=some i7/\SD a X i7 f o) (xs.drop (i+1)) d o,λg u h3=>⟨xs.length -(i+1),by omega,rfl,h3⟩,λx u hy=>?_⟩;obtain⟨T,s3,r3⟩:=yl x u hy;have R3:=R2.step s3;have m3:cj a ρ σ d z S H T u:=cj.trans R.tab m2 s3.m;have e3:eY Q T:=e2.trans s3.s;have run:∀{o':Out} {i7:Ev},fO t xs[i] d=some i7->SD a X i7 f o'->(∀(B:L2.St),cj a ρ σ i7 B S H T u->yI X.K a i7 B T u {D with nx:=λg u=>i+1<=xs.length/\∃d l,jt X.K a d l u g/\cj a ρ σ d g S H l u/\eY Q l/\Lp (λx ρ o=>∃i7,fO t x ρ=some i7/\SD a X i7 f o) (xs.drop (i+1)) d o,ct:=λg u=>i+1<=xs.length/\∃d l,jt X.K a d l u g/\cj a ρ σ d g S H l u/\eY Q l/\Lp (λx ρ o=>∃i7,fO t x ρ=some i7/\SD a X i7 f o) (xs.drop (i+1)) d o,bk:=D.nx} o')->WG X tg x z u λz Y=>Zc X f {D with nx:=λg u=>i+1<=xs.length/\∃d l,jt X.K a d l u g/\cj a ρ σ d g S H l u/\eY Q l/\Lp (λx ρ o=>∃i7,fO t x ρ=some i7/\SD a X i7 f o) (xs.drop (i+1)) d o,ct:=λg u=>i+1<=xs.length/\∃d l,jt X.K a d l u g/\cj a ρ σ d g S H l u/\eY Q l/\Lp (λx ρ o=>∃i7,fO t x ρ=some i7/\SD a X i7 f o) (xs.drop (i+1)) d o,bk:=D.nx} z Y:=by{intro o' i7 M F Z;refine hg d i7 T u z x _ _ R3 r3 M λB R4 _ o4 b4=>?_;have N:cj a d z i7 B T u T u:=⟨λ_ _ h=>h,R3.sub,λp o n h _ _=>⟨h,n⟩,λh=>h,λj p ob=>.inl ⟨j,o4 j p ob⟩,b4⟩;exact F T u B R4 _ (Z B (cj.trans R.tab m3 N))};cases O with|n F hr=>obtain⟨i7,M,F⟩:=F;exact run M F λB N S5 H5 I R5 P=>⟨L,_,S5,R5,cj.trans R.tab N P,e3.trans P.s,hr⟩|c F hr=>obtain⟨i7,M,F⟩:=F;exact run M F λB N S5 H5 I R5 P=>⟨L,_,S5,R5,cj.trans R.tab N P,e3.trans P.s,hr⟩|b F=>obtain⟨i7,M,F⟩:=F;exact run M F λB N S5 H5 I R5 P=>q S5 H5 I R5 (cj.trans R.tab N P)|r F=>obtain⟨i7,M,F⟩:=F;exact run M F λB N v S5 H5 I R5 P r5=>q v S5 H5 I R5 (cj.trans R.tab N P) r5};.have e:i=xs.length:=by{lia};subst e;rw[MU] at O;cases O;exact .inl ⟨okk.2,q l Y z R2 m2⟩
def BF(W:yS (aT X.prog X.w) X.A X.env X.xe)(T:Wh (λρ b=>TD a X ρ c b) (λρ o=>SD a X ρ l o) m ρ o):xj a X ρ (.While c l [] pos) o:=λS H σ R D q=>by refine jK (K1 W rB rH) ?_;refine⟨λm e x=>∃f k,jt X.K a f k x e/\cj a ρ σ f e S H k x/\Wh (λρ b=>TD a X ρ c b) (λρ o=>SD a X ρ l o) m f o,⟨m,ρ,S,R,(EB.refl R.sub).m,T⟩,?_⟩;rintro m e x ⟨f,k,R2,J,Q⟩;cases Q with|z s=>refine s k x e R2 _ λt u j=>?_;rw[ax c9];exact q t u e (R2.step j) (cj.trans R.tab J j.m)|n s G O=>refine s k x e R2 _ λt u j=>?_;rw[au rfl];refine⟨λi C=>∃f k,jt X.K a f k C i/\cj a ρ σ f i S H k C/\Wh (λρ b=>TD a X ρ c b) (λρ o=>SD a X ρ l o) _ f o,λi C P=>⟨_,gC _,P⟩,?_⟩;exact G t u e (R2.step j) _ λF I p y B=>⟨_,F,y,cj.trans R.tab (cj.trans R.tab J j.m) B,O⟩|c s G O=>refine s k x e R2 _ λt u j=>?_;rw[au rfl];refine⟨λi C=>∃f k,jt X.K a f k C i/\cj a ρ σ f i S H k C/\Wh (λρ b=>TD a X ρ c b) (λρ o=>SD a X ρ l o) _ f o,λi C P=>⟨_,gC _,P⟩,?_⟩;exact G t u e (R2.step j) _ λF I p y B=>⟨_,F,y,cj.trans R.tab (cj.trans R.tab J j.m) B,O⟩|b s G=>refine s k x e R2 _ λt u j=>?_;rw[au rfl];refine⟨λ_ _=>False,λ_ _ h=>h.elim,?_⟩;exact G t u e (R2.step j) _ λF I p y B=>q F I p y (cj.trans R.tab (cj.trans R.tab J j.m) B)|r s G=>refine s k x e R2 _ λt u j=>?_;rw[au rfl];refine⟨λ_ _=>False,λ_ _ h=>h.elim,?_⟩;exact G t u e (R2.step j) _ λv F I p y B U=>q v F I p y (cj.trans R.tab (cj.trans R.tab J j.m) B) U
end
def VT:Bi->String|.len=>"len" |.abs=>"abs" |.max2=>"max" |.DI=>"min" |.sum=>"sum" |.all=>"all" |.any=>"any" |.ord=>"ord" |.He=>"max"
theorem px:∀(l) (m),(least m l=m\/least m l∈l)/\least m l<=m/\∀y∈l,least m l<=y|[],m=>⟨.inl rfl,xh _,by simp⟩|x::r,m=>by obtain⟨g,f,e⟩:=px r (if x<m then x else m);dsimp only[least];grind
theorem zg:∀(l) (m),(most m l=m\/most m l∈l)/\m<=most m l/\∀y∈l,y<=most m l|[],m=>⟨.inl rfl,xh _,by simp⟩|x::r,m=>by obtain⟨g,f,e⟩:=zg r (if m<x then x else m);dsimp only[most];grind
def JW{l}(h:m∈x::l)(k:∀y∈x::l,m<=y):m=least x l:=by obtain⟨e,c,d⟩:=px l x;grind
def GN{l}(h:m∈x::l)(k:∀y∈x::l,y<=m):m=most x l:=by obtain⟨e,c,d⟩:=zg l x;grind
section
variable {a:Ad}{X:Cx}
theorem Rp.PR{K}{fa}{S}{v}{ns:List Bool}(h:Rp K fa S v (.lst (ns.map .bl))):∃p,v=.ref p/\Rd S p (.lst (ns.map V.bl)):=by obtain⟨_,_,rfl,q,r⟩:=zq2 h;have:=r.PR;simp_all
theorem Rp.strs{K}{fa}{S}{v}{ns:List Str}(h:Rp K fa S v (.lst (ns.map .str))):∃p,v=.ref p/\Rd S p (.lst (ns.map V.str)):=by obtain⟨_,_,rfl,q,r⟩:=zq2 h;have:=r.strs;simp_all
def bN.e1{K}{fa}{S}{vs}{d}(h:bN K fa S vs [d]):∃v,vs=[v]/\Rp K fa S v d:=by obtain⟨_,_,rfl,r,t⟩:=zq4 h;cases t;simp_all
def bN.e2{K}{fa}{S}{vs}{d e}(h:bN K fa S vs [d,e]):∃v u,vs=[v,u]/\Rp K fa S v d/\Rp K fa S u e:=by obtain⟨_,_,rfl,r,t⟩:=zq4 h;obtain⟨u,rfl,q⟩:=t.e1;grind
def Yt(b)(B:X.calm=true):jc X (.builtin (VT b)) (rDn a X.K (II b)):=λπ s σ H xs us Q I r q=>by
 obtain⟨S,ds,d,e,w,hf,q⟩:=q;cases ds with
  |nil=>cases hf
  |cons x ds=>
   cases ds with
    |nil=>
     obtain⟨v,rfl,n⟩:=w.e1;replace hf:Wd b x=some d:=hf;cases b with
      |len=>
       cases x with
        |lst l=>cases hf;obtain⟨_,_,rfl,J,F⟩:=zq2 n;exact kR π s σ H _ us Q I r ⟨_,_,rfl,.inl (Rd.xl (Rd.mono e J)),by rw[F.length];exact q _ S H (EB.refl e) (.int _)⟩
        |tup l=>cases hf;cases n with|tup J F=>exact kR π s σ H _ us Q I r ⟨_,_,rfl,.inr (qR.mono e J),by rw[F.length];exact q _ S H (EB.refl e) (.int _)⟩
        |_=>cases hf
      |abs=>cases x<;>cases hf;obtain rfl:=xj9 n;exact LB π s σ H _ us Q I r ⟨_,rfl,q _ S H (EB.refl e) (.int _)⟩
      |max2=>cases hf
      |ord=>cases x<;>(try cases hf);next x=>have hf:(if x.length=1 then some (D.int (x.cps.getD 0 0:Nat)) else none)=some d:=hf;split at hf<;>cases hf;obtain rfl:=xk1 n;exact KO π s σ H _ us Q I r ⟨x,rfl,by assumption,q _ S H (EB.refl e) (.int _)⟩
      |all=>cases x<;>(try cases hf);next l=>have hf:(match n4 l with|some r=>some (D.bl (r.all id))|_=>none)=some d:=hf;split at hf<;>cases hf;next z y=>cases wN y;obtain⟨p,rfl,t1⟩:=Rp.PR n;exact Sf B π s σ H _ us Q I r ⟨p,z,rfl,Rd.xl (Rd.mono e t1),q _ S H (EB.refl e) (.bl _)⟩
      |any=>cases x<;>(try cases hf);next l=>have hf:(match n4 l with|some r=>some (D.bl (r.any id))|_=>none)=some d:=hf;split at hf<;>cases hf;next z y=>cases wN y;obtain⟨p,rfl,t1⟩:=Rp.PR n;exact Th B π s σ H _ us Q I r ⟨p,z,rfl,Rd.xl (Rd.mono e t1),q _ S H (EB.refl e) (.bl _)⟩
      |sum=>cases x<;>(try cases hf);next l=>have hf:(match Se l with|some r=>some (D.int r.sum)|_=>none)=some d:=hf;split at hf<;>cases hf;next z y=>cases fW y;obtain⟨p,rfl,t1⟩:=Rp.ints n;exact Uc B π s σ H _ us Q I r ⟨p,z,rfl,Rd.xl (Rd.mono e t1),q _ S H (EB.refl e) (.int _)⟩
      |DI=>cases x<;>(try cases hf);next l=>have hf:(match Se l with|some (x::r)=>some (D.int (least x r))|_=>none)=some d:=hf;split at hf<;>cases hf;next x z y=>cases fW y;obtain⟨p,rfl,t1⟩:=Rp.ints n;refine Ul B π s σ H _ us Q I r ⟨p,x::z,rfl,Rd.xl (Rd.mono e t1),by simp,λm G hk=>q _ S H (EB.refl e) ?_⟩;rw[JW G hk];exact .int _
      |He=>cases x<;>(try cases hf);next l=>have hf:(match Se l with|some (x::r)=>some (D.int (most x r))|_=>none)=some d:=hf;split at hf<;>cases hf;next x z y=>cases fW y;obtain⟨p,rfl,t1⟩:=Rp.ints n;refine RU B π s σ H _ us Q I r ⟨p,x::z,rfl,Rd.xl (Rd.mono e t1),by simp,λm G hk=>q _ S H (EB.refl e) ?_⟩;rw[GN G hk];exact .int _
    |cons y ds=>cases ds with|nil=>replace hf:Wn x y b=some d:=hf;cases x<;>(try cases hf);cases y<;>(try cases hf);cases b<;>cases hf;obtain⟨v,u,rfl,n,O⟩:=w.e2;obtain rfl:=xj9 n;cases O;exact IX B π s σ H _ us Q I r ⟨_,_,rfl,q _ S H (EB.refl e) (.int _)⟩|cons=>cases hf
theorem zZ{K}{H}:∀ns:List Int,vx K H (ns.map V.int) (ns.map PyData.int)|[]=>.nil|n::ns=>.cons (.int n) (zZ ns)
def shaped_ints(ns:List Int):sR (PyData.list (ns.map PyData.int))=true:=by have o:∀l:List Int,sA (l.map PyData.int)=true:=by{intro l;induction l with|nil=>rfl|cons n l k=>simp[sA,PyData.canLay0,k]};have m:∀l:List Int,u0 (l.map PyData.int)<=1:=by{intro l;induction l with|nil=>decide|cons n l k=>simp only[aX,u0,Qz];assumption};unfold sR;rw[aa];refine⟨?_,fC ?_⟩;{show sA (ns.map PyData.int)=true;exact o ns};.have:=m ns;simp only[Qz];lia
def JZ(b ns:List Int):UO (PyData.list (b.map PyData.int)) (PyData.list (ns.map PyData.int))=decide (b=ns):=by
 show Nn (b.map PyData.int) (ns.map PyData.int)=decide (b=ns);induction b generalizing ns with
  |nil=>cases ns with|nil=>rfl|cons n ns=>rfl
  |cons m b k=>cases ns with|nil=>rfl|cons n ns=>show((m==n)&&Nn (b.map PyData.int) (ns.map PyData.int))=decide (m::b=n::ns);rw[k ns];by_cases h:m=n;{subst h;simp};.have:(m==n)=false:=by{simpa using h};simp[this,h]
def Sj(z:X.A.units+64<cLine):lQ X (cQ .Eq) (IC a X.K Ww):=lQ.imp (UC z) λx y H Q q=>by obtain⟨S,s,u,d,e,r,w,h,q⟩:=q;cases s<;>(try cases h);cases u<;>(try cases h);next B o=>have h:(match Se B,Se o with|some a,some b=>some (D.bl (decide (a=b)))|_,_=>none)=some d:=h;split at h;{next n ns v t=>obtain rfl:=bA h;have:=fW v;subst this;have:=fW t;subst this;obtain⟨p,rfl,t1⟩:=Rp.ints r;obtain⟨p2,rfl,t2⟩:=Rp.ints w;refine⟨_,_,.lst (Rd.xl (Rd.mono e t1)) (zZ n),.lst (Rd.xl (Rd.mono e t2)) (zZ ns),shaped_ints n,shaped_ints ns,?_⟩;rw[JZ];exact q _ S H (EB.refl e) (.bl _)};.cases h
def NG:lQ X (cQ .NotIn) (IC a X.K GQ):=lQ.imp zz λx y H Q q=>by obtain⟨S,w,A,d,e,B,u,h,q⟩:=q;cases w<;>(try cases h);cases A<;>(try cases h);next i l=>have h:(match Se l with|some b=>some (D.bl (!b.contains i))|none=>none)=some d:=h;split at h;{next ns v=>obtain rfl:=bA h;have:=fW v;subst this;cases B;obtain⟨p,rfl,t2⟩:=Rp.ints u;refine⟨p,ns.map V.int,rfl,.inl (Rd.xl (Rd.mono e t2)),rfl,?_,?_⟩;{rw[iJ];exact aN.mpr λ_ _=>rfl};.have z:Y5 (.int i) (ns.map V.int)=ns.contains i:=by{unfold Y5;rw[ou,List.contains_eq_any_beq];congr 1;funext n;show(n==i)=(i==n);exact Bool.beq_comm};rw[z];exact q _ S H (EB.refl e) (.bl _)};.cases h
def Tp:lQ X (cQ .Is) (IC a X.K λd e=>match e with|.ie=>(match d with|.ie=>some (.bl true)|_=>some (.bl false))|_=>none):=lQ.imp Ub λx y H Q q=>by obtain⟨S,j,l,d,e,m,k,i,q⟩:=q;(cases l<;>first|cases i|skip);cases k;refine⟨rfl,?_⟩;cases j<;>obtain rfl:=bA i<;>cases m<;>exact q _ S H (EB.refl e) (.bl _)
def P0:lQ X (cQ .IsNot) (IC a X.K λd e=>match e with|.ie=>(match d with|.ie=>some (.bl false)|_=>some (.bl true))|_=>none):=lQ.imp PH λx y H Q q=>by obtain⟨S,j,l,d,e,m,k,i,q⟩:=q;(cases l<;>first|cases i|skip);cases k;refine⟨rfl,?_⟩;cases j<;>obtain rfl:=bA i<;>cases m<;>exact q _ S H (EB.refl e) (.bl _)
variable {ρ:Ev}{x y z:Expr}{pos p p2:Pos}{d dx:D}{ds:List D}
def Lv(u:Gl X "list")(y:X.mg "list" =none)(i:∀es,aH (x::es) X.env=(false,cq x X.env)::aH es X.env)(h:ED a X ρ x dx)(t:oj dx=some ds):FD a X ρ (.Call (.Name "list" p) [x] [] pos) ds:=λS H σ R Q q=>by refine dY (qc zY u y zv (fK b9 hF (i _)) zv zv (i _) rfl) (h S H σ R _ λv s w j m=>?_);obtain⟨b,k,xs,rfl,o,r⟩:=Rp.seq m t;refine⟨k,xs,rfl,?_,λl n=>q l xs s w j n r⟩;rcases qo.mono j.h o with⟨_,z⟩|⟨_,z⟩;{exact .inr z};.exact .inl z
def OD(a:Ad)(X:Cx)(ρ:Ev)(e:Option Expr)(o:Option Int):Prop:=∀S H σ,jt X.K a ρ S H σ->∀Q:Option Int->Hp->Prop,(∀S' H',EB a S H S' H'->Q o H')->∀(π:List (aE×Obj)) (s:Shared),IM X π σ H s->aK (aT X.prog X.w) X.A (C0 e X.env) (λu s'=>∃o H',IM X π σ H' s'/\IsPart u o/\Q o H') X.xe s
def OG:OD a X ρ none none:=λS H σ R Q q π s I=>OH π s σ H Q I (q S H (EB.refl R.sub))
def Qj(h:ED a X ρ x (.int i)):OD a X ρ (some x) (some i):=λS H σ R Q q π s I=>OW b9 π s σ H Q I (h S H σ R _ λv g d e f=>by obtain rfl:=xj9 f;exact⟨i,rfl,q g d e⟩)
def R9{K}{fa}{S}{xs}{ds}(h:bN K fa S xs ds)(lo hi):bN K fa S (Hj xs lo hi) (cutD ds lo hi):=by delta Hj cutD;rw[h.length];exact(h.drop _).take _
def Rl{lo hi}{f k}{l}(h:ED a X ρ x (.lst l))(B:OD a X ρ lo f)(r:OD a X ρ hi k):FD a X ρ (.Subscript x (.Slice lo hi none p2) pos) (cutD l f k):=λS H σ R Q q=>by have tl:TO:=λσ H Q=>∀(π:List (aE×Obj)) (s:Shared),IM X π σ H s->aK (aT X.prog X.w) X.A (C0 lo X.env) (λu c=>∃o H',IM X π σ H' c/\IsPart u o/\Q o H') X.xe s;refine dY (LJ (tl:=λσ H Q=>∀(π:List (aE×Obj)) (s:Shared),IM X π σ H s->aK (aT X.prog X.w) X.A (C0 lo X.env) (λu c=>∃o H',IM X π σ H' c/\IsPart u o/\Q o H') X.xe s) (th:=λσ H Q=>∀(π:List (aE×Obj)) (s:Shared),IM X π σ H s->aK (aT X.prog X.w) X.A (C0 hi X.env) (λu c=>∃o H',IM X π σ H' c/\IsPart u o/\Q o H') X.xe s) P9 b9 (λπ s σ H Q I h=>h π s I) (λπ s σ H Q I h=>h π s I)) ?_;refine h S H σ R _ λv F z j t=>B F z σ (R.step j) _ λC L d=>r C L σ ((R.step j).step d) _ λJ y e=>?_;obtain⟨_,_,rfl,m,M⟩:=zq2 t;exact⟨_,_,rfl,Rd.xl (Rd.mono (d.s.trans (e.s.trans e.h)) m),λp n=>q p _ J y ((j.trans d).trans e) n (R9 (M.up (d.s.trans e.s)) f k)⟩
def TR{i}(e:(j.endLine==g.line)=true)(m:fV x "bit_length" X.env (cq x X.env)=cq x X.env)(h:ED a X ρ x (.int i)):ED a X ρ (.Call (.Attribute x "bit_length" j) [] [] g) (.int (dJ i)):=λS H σ R Q q=>by have mt:Vv X "int.bit_length" (λx xs H Q=>∃i,x=.int i/\xs=[]/\Q (.int (dJ i)) H):=λπ s σ H x xs v us Q I l r q=>by{obtain⟨i,rfl,rfl,q⟩:=q;obtain⟨t,rfl⟩:=l;cases r;exact call_int_bit_length ⟨.int _,H,I.tok _,⟨_,rfl⟩,q⟩};refine dY (Uu PySem.F.plainAttrs_int PySem.F.slot_int_bit_length PySem.F.type_int_bit_length mt b9 m e) (h S H σ R _ λv p o u n=>?_);obtain rfl:=xj9 n;exact⟨rfl,i,rfl,rfl,q _ p o u (.int _)⟩
def Dl:∀{r:List Int},i∈r->r[r.findIdx (·==i)]?=some i/\∀(m) (z),m<r.findIdx (·==i)->r[m]?=some z->(z==i)=false:=λ{r} h=>by have f:r.findIdx (·==i)<r.length:=List.findIdx_lt_length_of_exists ⟨i,h,by simp⟩;refine⟨?_,λm z k hz=>?_⟩;{have:=List.findIdx_getElem (w:=f);rw[ai f];have e:r[r.findIdx (·==i)]=i:=by{simpa using this};rw[e]};.obtain⟨l,d⟩:=aQ.mp hz;have:=List.not_of_lt_findIdx k;rw[<-d];exact this
def SX{L}(B:(apos.endLine==f.line)=true)(U:fV x "index" X.env (cq x X.env)=cq x X.env)(o:∀es,aH (y::es) X.env=(false,cq y X.env)::aH es X.env) (h:ED a X ρ x dx) (hy:ED a X ρ y L) (n:W3 dx L=some d):ED a X ρ (.Call (.Attribute x "index" apos) [y] [] f) d:=λS H σ R Q q=>by have I:((dU f (aH [y] X.env)).all (λx=>!x.1)&&(gT f (eA [] X.env)).all (λx=>x.1.isSome)&&decide (([y]:List Expr).length+([]:List Keyword).length+(if([]:List Keyword).isEmpty then 0 else 1)<30))=true:=by{rw[o];rfl};cases dx<;>(try cases n);cases L<;>(try cases n);next l i=>have n:(match Se l with|some r=>if i∈r then some (D.int (r.findIdx (·==i))) else none|none=>none)=some d:=n;split at n;{next r e1=>split at n;{next hi=>obtain rfl:=bA n;have:=fW e1;subst this;refine dY (JD mI xX PySem.F.type_list_index K0 b9 ka U I B (o _) rfl) (h S H σ R _ λv S1 H1 J Z=>?_);obtain⟨p,rfl,t1⟩:=Rp.ints Z;refine⟨.inl ⟨rfl,_,Rd.xl (Rd.mono J.h t1)⟩,AW (fK b9 hF (o _)) (hy S1 H1 σ (R.step J) _ λu S2 H2 N T=>?_)⟩;cases T;obtain⟨W,f2⟩:=Dl hi;refine⟨p,r.map V.int,.int i,r.findIdx (·==i),.int i,rfl,rfl,Rd.xl (Rd.mono (N.s.trans N.h) t1),rfl,?_,?_,?_,λm z Y hz=>?_,q _ S2 H2 (J.trans N) (.int _)⟩;{rw[iJ];exact aN.mpr λ_ _=>rfl};{rw[aP,W];rfl};{show(i==i)=true;simp};.rw[aP] at hz;cases e:r[m]? with|none=>rw[e] at hz;cases hz|some w=>rw[e] at hz;obtain rfl:=bA hz;exact f2 m w Y e};.cases n};.cases n
end
inductive Mr(K:ah)(a:Ad)(n:Nat)(F:List D->Option D)(vs:List V)(H:Hp)(Q:VK)(_:XK):Prop
 |mk(S ds d)(_:eY S H)(_:jz a S H)(_:bN K a.fa S vs ds)(_:ds.length=n)(_:F ds=some d)(_:∀v S' H',EB a S H S' H'->Rp K a.fa S' v d->Q v H')
structure v9(a:Ad)(p:aE)(S H S' H':Hp):Prop where
 s:eY S S'
 h:eY S' H'
 k:∀b o,S b=none->H b=some o->qx o=false->b≠p->H' b=some o/\S' b=none
 t:jz a S H->jz a S' H'
inductive Jl(K:ah)(a:Ad)(n:Nat)(F:D->D->List D->Option (D×D×D))(vs:List V)(H:Hp)(Q:VK)(_:XK):Prop
 |mk(S p ws ds c m d c' m')(_:vs=.ref p::ws)(_:eY S H)(_:jz a S H)(_:S p=none)(_:tD K a S H p c m)(_:bN K a.fa S ws ds)(_:ds.length+1=n)(_:F c m ds=some (d,c',m'))(_:∀v S' H',v9 a p S H S' H'->S' p=none->tD K a S' H' p c' m'->Rp K a.fa S' v d->Q v H')
inductive Wz(K:ah)(a:Ad)(n:Nat)(F:D->D->List D->Option D)(vs:List V)(H:Hp)(Q:VK)(_:XK):Prop
 |mk(S p ws ds c m d)(_:vs=.ref p::ws)(_:eY S H)(_:jz a S H)(_:S p=none)(_:tD K a S H p c m)(_:bN K a.fa S ws ds)(_:ds.length+1=n)(_:F c m ds=some d)(_:∀v S' H',EB a S H S' H'->Rp K a.fa S' v d->Q v H')
section
variable {a:Ad}{X:Cx}{ρ:Ev}{x m:Str}{e:Expr}{es:List Expr}{p pos apos npos:Pos}{k n f:Nat}{g:aE}{fd:FuncData}{ps:List Str}{d:D}{ds:List D}{i:Nat}
def NI(s:gm X.prog X.w X.K X.mg X.base nM k g fd ps (Mr X.K a n F))(I:gH k X.A)(G:Gl X x)(r:X.mg x=some (.ref g))(z:b8 X.K (.ref g)=true)(o:AR X.K fd ps [])(f:qq9 x) (l:∀es,aH (e::es) X.env=(false,cq e X.env)::aH es X.env) (j:(dU pos (aH es X.env)).any (·.1)=false) (h:AD a X ρ (e::es) ds) (u:ds.length=n) (J:F ds=some d):ED a X ρ (.Call (.Name x p) (e::es) [] pos) d:=λS H σ R Q q=>dY (GO s I G r z o .nil uv ka f (l _) j) (h S H σ R _ λvs B M c L=>⟨B,ds,d,c.h,c.t R.tab,by simp_all,u,J,λv m H' y C=>q v m H' (c.trans y) C⟩)
def LH(e:gm X.prog X.w X.K X.mg X.base nM k g fd ps (Mr X.K a n F))(j:gH k X.A)(t:Gl X x)(i:X.mg x=some (.ref g))(m:b8 X.K (.ref g)=true)(h:AR X.K fd ps [])(b:qq9 x) (l:0=n) (s:F []=some d):ED a X ρ (.Call (.Name x p) [] [] pos) d:=λS H σ R Q q=>dY (LN e j t i m h .nil uv b) ⟨S,[],d,R.sub,R.tab,.nil,l,s,λv f H' r o=>q v f H' r o⟩
def B1{n}(C:gm X.prog X.w X.K X.mg X.base nM k g fd ps sp)(P:gH k X.A)(L:b8 X.K (.ref g)=true)(B:AR X.K fd ps [])(F:PE X (.Name x p) n)(M:PA X (e::es) t) (N:aH (e::es) X.env=(false,cq e X.env)::aH es X.env) (l:(dU pos (aH es X.env)).any (·.1)=false):PE X (.Call (.Name x p) (e::es) [] pos) (λσ H Q=>n σ H λv j=>v=.ref g/\t σ j λvs y=>sp vs y Q E0):=by intro π s σ H Q I h;refine gb (fS (F π s σ H _ I h) λu O zz=>?_);obtain⟨v,j,J,G,ev,z⟩:=zz;subst ev;obtain rfl:u=Value.ref g:=G;refine qE I.ok.mod.XR L (fS (M pos π O σ j _ J z) λus R ⟨vs,y,o,r,q⟩=>⟨o.Ae,?_⟩) N l;exact vY C P B .nil uv o r (by grind)
def KE(U:gm X.prog X.w X.K X.mg X.base nM k (a.fa f) fd ps (Mr X.K a n F))(s:gH k X.A)(L:b8 X.K (.ref (a.fa f))=true)(C:AR X.K fd ps []) (Z:X.N[i]?=some x) (J:vb X.env.scope x) (B:qq9 x) (g:xj8 x) (u:ρ[i]?=some (some (.pl (.fn f)))) (y:∀es,aH (e::es) X.env=(false,cq e X.env)::aH es X.env) (o:(dU pos (aH es X.env)).any (·.1)=false) (h:AD a X ρ (e::es) ds) (G:ds.length=n) (T:F ds=some d):ED a X ρ (.Call (.Name x p) (e::es) [] pos) d:=λS H σ R Q q=>by obtain⟨v,Y,r⟩:=R.pl i _ u;cases r;refine dY (B1 U s L C (wM Z J B g) ka (y _) o) ⟨_,Y,rfl,h S H σ R _ λvs M H1 l I=>⟨M,ds,d,l.h,l.t R.tab,I,G,T,λv z H' P O=>q v z H' (l.trans P) O⟩⟩
def Og(r:Gl X "len")(k:X.mg "len" =none)(g:X.N[i]?=some x)(s:vb X.env.scope x)(j:qq9 x)(f:xj8 x)(h:ρ[i]?=some (some (.ow ds))):ED a X ρ (.Call (.Name "len" p) [.Name x npos] [] pos) (.int ds.length):=λS H σ R Q q=>by obtain⟨l,vs,n,u,o,m⟩:=R.ow i ds h;refine dY (mX kR r k zv (fK b9 hF rfl) zv zv rfl rfl) (iV g s j f n ?_);exact⟨l,vs,rfl,.inl (nj.of o),by rw[m.length];exact q _ S H (EB.refl R.sub) (.int _)⟩
def SH(r:X.N[i]?=some x)(B:vb X.env.scope x)(t:qq9 x)(n:xj8 x)(O:ρ[i]?=some (some (.ow ds)))(G:ED a X ρ y (.int j))(P:vc y)(g:yB ds j=some d):ED a X ρ (.Subscript (.Name x npos) y pos) d:=λS H σ R Q q=>by obtain⟨l,vs,C,J,L,p⟩:=R.ow i ds O;refine dY (Q4 Fj b9 b9 P) (iV r B t n C (G S H σ R _ λu M I h F=>?_));obtain rfl:=xj9 F;obtain⟨v,T⟩:=h.k l _ J L rfl;unfold yB at g;cases hi:Fi ds.length j with|none=>rw[hi] at g;cases g|some w=>rw[hi] at g;obtain⟨z,hz,A⟩:=p.get g;refine⟨l,vs,j,z,rfl,rfl,nj.of v,?_,q z M I h (A.up h.s)⟩;unfold yB;rw[p.length,hi];exact hz
def ZZ(b c):(FC b c).lookup ("commas" :Str)=some b:=by simp_all
def aan(d c):(FC d c).lookup ("notes" :Str)=some c:=by have e:(("notes" :Str)==("commas" :Str))=false:=zv;grind
def Kl(c b){m}(d:(m==("commas" :Str))=false)(e:(m==("notes" :Str))=false):(FC c b).lookup m=none:=by simp_all
def WC(c a v):mr "commas" v (FC c a)=FC v a:=by simp[FC,mr]
def Yo(c d v):mr "notes" v (FC c d)=FC c v:=by have e:¬(("commas" :Str)=("notes" :Str)):=zv;simp[FC,mr,e]
def Ud{c n}{b}(r:X.N[i]?=some x)(v:vb X.env.scope x)(B:qq9 x)(h:xj8 x)(p:AA X.K a.C)(y:iy X.K a.C "commas")(u:iy X.K a.C "notes") (z:ρ[i]?=some (some (.ob c n))) (s:fV (.Name x npos) (if b=true then "notes" else "commas") X.env (cq (.Name x npos) X.env)=cq (.Name x npos) X.env):ED a X ρ (.Attribute (.Name x npos) (if b=true then "notes" else "commas") pos) (if b=true then n else c):=λS H σ R Q q=>by obtain⟨l,t,F,m,g,k,o,w,A⟩:=R.ob i c n z;refine dY (UA b9 s) (iV r v B h t ?_);cases b with|true=>exact⟨l,a.C,m,_,k,rfl,o,p,u,aan g k,q _ S H (EB.refl R.sub) A⟩|false=>exact⟨l,a.C,m,_,g,rfl,o,p,y,ZZ g k,q _ S H (EB.refl R.sub) w⟩
def OE(a:Ad)(X:Cx)(ρ:Ev)(e:Expr)(i:Nat)(d c' n':D):Prop:=∀S H σ,jt X.K a ρ S H σ->∀Q:VK,(∀v S' H' p,σ[i]?=some (some (.ref p))->v9 a p S H S' H'->S' p=none->tD X.K a S' H' p c' n'->Rp X.K a.fa S' v d->Q v H')->WE X e σ H Q
def jt.pG{K}{S H y H'}{σ}{c n C u}{q}(R:jt K a ρ S H σ)(F:ρ[i]?=some (some (.ob c n)))(M:σ[i]?=some (some (.ref q)))(s:v9 a q S H y H')(Z:y q=none)(ho:tD K a y H' q C u):jt K a (ρ.set i (some (.ob C u))) y H' σ:=by have own:∀{j r},iu (ρ.set i (some (.ob C u))) σ j r->iu ρ σ j r:=λ{j r} o=>by{obtain⟨o,e⟩:=o;by_cases l:j=i;{subst l;exact⟨.inr ⟨c,n,F⟩,e⟩};.rw[aU (λz=>l z.symm)] at o;exact⟨o,e⟩};refine⟨s.h,by rw[cb];exact R.len,λj d' h=>?_,λj x h=>?_,λj c m h=>?_,λj k q U P=>R.ap j k q (own U) (own P),s.t R.tab⟩;{rcases MM h with⟨rfl,e⟩|⟨l,h⟩;{cases e};.obtain⟨v,e,r⟩:=R.pl j d' h;exact⟨v,e,r.up s.s⟩};{rcases MM h with⟨rfl,e⟩|⟨l,h⟩;{cases e};.obtain⟨r,J,e,u,h',W⟩:=R.ow j x h;have G:r≠q:=λz=>l (R.ap j i q ⟨.inl ⟨x,h⟩,by grind⟩ ⟨.inr ⟨_,_,F⟩,M⟩);obtain⟨B,I⟩:=s.k r _ u h' rfl G;exact⟨r,J,e,I,B,W.up s.s⟩};.rcases MM h with⟨rfl,e⟩|⟨l,h⟩;{simp_all};.obtain⟨r,e,u,Y,O,T,h',N,X⟩:=R.ob j c m h;have G:r≠q:=λz=>l (R.ap j i q ⟨.inr ⟨_,_,h⟩,by grind⟩ ⟨.inr ⟨_,_,F⟩,M⟩);obtain⟨B,I⟩:=s.k r _ u h' rfl G;exact⟨r,e,I,Y,O,T,B,N.up s.s,X.up s.s⟩
def cj.pG{S H A H'}{σ}{c n y v}{q}(x:ρ[i]?=some (some (.ob c n)))(J:σ[i]?=some (some (.ref q)))(s:v9 a q S H A H'):cj a ρ σ (ρ.set i (some (.ob y v))) σ S H A H':=by refine⟨s.s,s.h,λb o v h C G=>s.k b o v h C λz=>G ⟨i,.inr ⟨c,n,x⟩,by simp_all⟩,s.t,λj b u=>?_,λj o=>⟨?_,rfl⟩⟩;(rotate_left);{by_cases r:i=j;{subst r;exact⟨y,v,zD (aQ.mp x).1⟩};.obtain⟨B,F,e⟩:=o;exact⟨B,F,by simp_all⟩};obtain⟨u,e⟩:=u;by_cases r:j=i;{subst r;exact .inl ⟨j,.inr ⟨c,n,x⟩,e⟩};.rw[aU (λz=>r z.symm)] at u;exact .inl ⟨j,u,e⟩
theorem EB.b{S H f H' d c}{q}(s:EB a S H f H')(t:v9 a q f H' d c):v9 a q S H d c:=⟨s.s.trans t.s,t.h,λb o n h e g=>t.k b o (s.k b o n h e).2 (s.k b o n h e).1 e g,λh=>t.t (s.t h)⟩
def tD.step{K}{S H d H'}{q}{c n}(h:tD K a S H q c n)(s:EB a S H d H')(m:S q=none):tD K a d H' q c n/\d q=none:=by obtain⟨o,f,l,i,g,r⟩:=h;obtain⟨p,j⟩:=s.k q _ m i rfl;exact⟨⟨o,f,l,p,g.up s.s,r.up s.s⟩,j⟩
section
variable {c c':D}{n' m':D}{FO:D->D->List D->Option (D×D×D)}{y:Str}{ypos:Pos}{nn:D}
def F7(Fn:gm X.prog X.w X.K X.mg X.base nM k g fd ps (Jl X.K a n FO))(F:gH k X.A)(hg:Gl X x)(P:X.mg x=some (.ref g))(Z:b8 X.K (.ref g)=true)(M:AR X.K fd ps [])(r:qq9 x) (hN:X.N[i]?=some y) (hv:vb X.env.scope y) (L:qq9 y) (m:xj8 y) (B:(dU pos (aH es X.env)).any (·.1)=false) (I:ρ[i]?=some (some (.ob c nn))) (h:AD a X ρ es ds) (U:ds.length+1=n) (hf:FO c nn ds=some (d,c',n')):OE a X ρ (.Call (.Name x p) (.Name y ypos::es) [] pos) i d c' n':=λS H σ R Q q=>by obtain⟨l,u,G,T⟩:=R.ob i c nn I;refine dY (GO Fn F hg P Z M .nil uv (fK b9 ka rfl) r rfl B) (iV hN hv L m u (h S H σ R _ λvs S1 H1 j Y=>?_));obtain⟨o1,n1⟩:=T.step j G;exact⟨S1,l,vs,ds,c,nn,d,c',n',by simp,j.h,j.t R.tab,n1,o1,Y,U,hf,λv J H' s' O o2 C=>q v J H' l u (j.b s') O o2 C⟩
def Ma(Fn:gm X.prog X.w X.K X.mg X.base nM k (a.fa f) fd ps (Jl X.K a n FO))(hr:gH k X.A)(hk:b8 X.K (.ref (a.fa f))=true)(hb:AR X.K fd ps []){j:Nat} (G:X.N[j]?=some x) (z:vb X.env.scope x) (F:qq9 x) (g:xj8 x) (hj:ρ[j]?=some (some (.pl (.fn f)))) (T:X.N[i]?=some y) (Z:vb X.env.scope y) (hd:qq9 y) (u:xj8 y) (P:(dU pos (aH es X.env)).any (·.1)=false) (J:ρ[i]?=some (some (.ob c nn))) (h:AD a X ρ es ds) (hn:ds.length+1=n) (hf:FO c nn ds=some (d,c',n')):OE a X ρ (.Call (.Name x p) (.Name y ypos::es) [] pos) i d c' n':=λS H σ R Q q=>by obtain⟨l,I,nS,ho⟩:=R.ob i c nn J;obtain⟨v,e2,r⟩:=R.pl j _ hj;cases r;refine dY (B1 Fn hr hk hb (wM G z F g) (fK b9 ka rfl) rfl P) ⟨_,e2,rfl,iV T Z hd u I (h S H σ R _ λvs Y H1 o L=>?_)⟩;obtain⟨O,n1⟩:=ho.step o nS;exact⟨Y,l,vs,ds,c,nn,d,c',n',rfl,o.h,o.t R.tab,n1,O,L,hn,hf,λv S' H' s' M o2 U=>q v S' H' l I (o.b s') M o2 U⟩
def PV(M:AA X.K a.C)(hm:uN X.K a.C m g)(Fn:gm X.prog X.w X.K X.mg X.base nM k g fd ps (Jl X.K a n FO))(hr:gH k X.A)(hb:AR X.K fd ps [])(O:(m==("commas" :Str))=false)(m2:(m==("notes" :Str))=false)
  (Y:X.N[i]?=some y) (hv:vb X.env.scope y) (hd:qq9 y) (r:xj8 y) (hs:∀es,aH (e::es) X.env=(false,cq e X.env)::aH es X.env) (W:(dU pos (aH es X.env)).any (·.1)=false)
  {pl} (ht:cq (.Call (.Attribute (.Name y ypos) m apos) (e::es) [] pos) X.env=(do
   let F<-cq (.Name y ypos) X.env
   lJ apos.atName
   let(f,first)<-fw [F] (m7 F m pl)
   xt pos f first (dU pos (aH (e::es) X.env)) (gT pos (eA [] X.env))))
  (h0:ρ[i]?=some (some (.ob c nn))) (h:AD a X ρ (e::es) ds) (hn:ds.length+1=n) (hf:FO c nn ds=some (d,c',n')):OE a X ρ (.Call (.Attribute (.Name y ypos) m apos) (e::es) [] pos) i d c' n':=λS H σ R Q q=>by
 obtain⟨l,z,T,L,J,B,G,s,x⟩:=R.ob i c nn h0
 refine dY (Ou b9 M hm Fn hr hb .nil uv ka (hs _) W ht) (iV Y hv hd r z ⟨l,L,_,rfl,G,Kl J B O m2,h S H σ R _ λvs P H1 o r1=>?_⟩)
 obtain⟨U,n1⟩:=tD.step ⟨L,J,B,G,s,x⟩ o T
 exact⟨P,l,vs,ds,c,nn,d,c',n',by simp,o.h,o.t R.tab,n1,U,r1,hn,hf,λv S' H' s' n2 o2 Z=>q v S' H' l z (o.b s') n2 o2 Z⟩
def Kh(I:AA X.K a.C)(Z:uN X.K a.C m g)(M:gm X.prog X.w X.K X.mg X.base nM k g fd ps (Jl X.K a n FO))(T:gH k X.A)(W:AR X.K fd ps [])(m1:(m==("commas" :Str))=false)(O:(m==("notes" :Str))=false)
  (hN:X.N[i]?=some y) (J:vb X.env.scope y) (Y:qq9 y) (j:xj8 y)
  {pl} (ht:cq (.Call (.Attribute (.Name y ypos) m apos) [] [] pos) X.env=(do
   let s<-cq (.Name y ypos) X.env
   lJ apos.atName
   let(f,first)<-fw [s] (m7 s m pl)
   xt pos f first (dU pos (aH [] X.env)) (gT pos (eA [] X.env))))
  (F:ρ[i]?=some (some (.ob c nn))) (hn:1=n) (hf:FO c nn []=some (d,c',n')):OE a X ρ (.Call (.Attribute (.Name y ypos) m apos) [] [] pos) i d c' n':=λS H σ R Q q=>by
 obtain⟨l,t,P,z,u,x,B,o,p⟩:=R.ob i c nn F
 refine dY (Cp b9 I Z M T W .nil uv ht) (iV hN J Y j t ⟨l,z,_,rfl,B,Kl u x m1 O,?_⟩)
 exact⟨S,l,[],[],c,nn,d,c',n',by rfl,R.sub,R.tab,P,⟨z,u,x,B,o,p⟩,.nil,hn,hf,λv U H' s' L o2 G=>q v U H' l t s' L o2 G⟩
def Kr(Z:AA X.K a.C)(Y:uN X.K a.C m g)(L:gm X.prog X.w X.K X.mg X.base nM k g fd ps (Wz X.K a n W))(P:gH k X.A)(U:AR X.K fd ps [])(B:(m==("commas" :Str))=false)(J:(m==("notes" :Str))=false)
  (F:X.N[i]?=some y) (I:vb X.env.scope y) (hd:qq9 y) (j:xj8 y)
  {pl} (ht:cq (.Call (.Attribute (.Name y ypos) m apos) [] [] pos) X.env=(do
   let t<-cq (.Name y ypos) X.env
   lJ apos.atName
   let(f,first)<-fw [t] (m7 t m pl)
   xt pos f first (dU pos (aH [] X.env)) (gT pos (eA [] X.env))))
  (M:ρ[i]?=some (some (.ob c nn))) (hn:1=n) (hf:W c nn []=some d):ED a X ρ (.Call (.Attribute (.Name y ypos) m apos) [] [] pos) d:=λS H σ R Q q=>by
 obtain⟨l,G,O,z,x,r,u,o,p⟩:=R.ob i c nn M
 refine dY (Cp b9 Z Y L P U .nil uv ht) (iV F I hd j G ⟨l,z,_,rfl,u,Kl x r B J,?_⟩)
 exact⟨S,l,[],[],c,nn,d,by rfl,R.sub,R.tab,O,⟨z,x,r,u,o,p⟩,.nil,hn,hf,λv T H' s' r'=>q v T H' s' r'⟩
def Fc(g:ρ[i]?=some (some (.ob c nn)))(h:OE a X ρ e i d c' n'):xj a X ρ (.Return (some e) pos) (.rt d (ρ.set i (some (.ob c' n')))):=λS H σ R D q=>jK (DC b9) (h S H σ R _ λv k m l b f o j n=>q v k m σ (R.pG g b f o j) (cj.pG g b f) n)
def Ut(o:fz e none pos.line X.env=pure false)(g:ρ[i]?=some (some (.ob c nn)))(h:OE a X ρ e i d c' n'):xj a X ρ (.Expr e pos) (.nx (ρ.set i (some (.ob c' n')))):=λS H σ R D q=>jK (zq b9 o) (h S H σ R _ λv k m l b f n j p=>q k m σ (R.pG g b f n j) (cj.pG g b f))
def Ov(r:X.N.Nodup)(t:X.N[j]?=some x)(A:Loc X.env.scope x)(F:X.fn x=true\/X.env.scope.names.lookup x=some .local)(w:fz e (some (.Name x C)) pos.line X.env=pure false)(s:sF ρ j=true)(k:j≠i) (n:ρ[i]?=some (some (.ob c nn))) (h:OE a X ρ e i d c' n'):xj a X ρ (.Assign [.Name x C] e pos) (.nx ((ρ.set i (some (.ob c' n'))).set j (some (.pl d)))):=λS H σ R D q=>jK (zA r t A b9 w F) (h S H σ R _ λv B z l o m y G u=>by have p:=R.pG n o m y G;have f:sF (ρ.set i (some (.ob c' n'))) j=true:=by{unfold sF;rw[aU (dQ k)];exact s};exact q B z _ (p.set (lB f) u) (cj.trans R.tab (cj.pG n o m) (cj.JO (EB.refl p.sub) f)))
def Pc(hN:X.N[i]?=some y)(hv:vb X.env.scope y)(Z:qq9 y)(I:xj8 y)(hc:AA X.K a.C)(n1:iy X.K a.C "commas")(n2:iy X.K a.C "notes") (Y:fz e (some (.Attribute (.Name y ypos) (if b=true then "notes" else "commas") apos)) pos.line X.env=pure false) (r:ρ[i]?=some (some (.ob c nn))) (h:ED a X ρ e d):xj a X ρ (.Assign [.Attribute (.Name y ypos) (if b=true then "notes" else "commas") apos] e pos) (.nx (ρ.set i (some (if b=true then .ob c d else .ob d nn)))):=λS H σ R D q=>by refine jK (Es b9 b9 Y) (h S H σ R _ λv n s A Q=>?_);have w:=R.step A;obtain⟨l,p,U,j,M,B,T,G,O⟩:=w.ob i c nn r;refine iV hN hv Z I p ⟨l,a.C,j,_,rfl,T,hc,by lia,by simp_all,?_⟩;have t:∀{C j:aE} {W:List (Str×V)},v9 a l n s n (IZ s l (.ins C j W)):=λ{C j W}=>by{refine⟨λ_ _ h=>h,λb u h=>?_,λb u n' h _ L=>?_,λh=>h.IZ rfl (.inr ⟨_,T,rfl⟩) λb _ h=>h⟩;{have L:b≠l:=λz=>Eg;rw[aS L];exact w.sub b u h};.rw[aS L];exact⟨h,n'⟩};cases b with|true=>have J:tD X.K a n (IZ s l (.ins a.C j (mr "notes" v (FC M B)))) l c d:=⟨j,M,v,by rw[bh,Yo],G,Q⟩;exact q n _ σ (w.pG r p t U J) (cj.trans R.tab (EB.m A) (cj.pG r p t))|false=>have J:tD X.K a n (IZ s l (.ins a.C j (mr "commas" v (FC M B)))) l d nn:=⟨j,v,B,by rw[bh,WC],Q,O⟩;exact q n _ σ (w.pG r p t U J) (cj.trans R.tab (EB.m A) (cj.pG r p t))
def zF(C:aE):Sp:=λvs H Q _=>∃(p dx:aE),vs=[.ref p]/\H p=some (.ins C dx [])/\∀(H':Hp) (l1 l2:aE),H' p=some (.ins C dx (FC (.ref l1) (.ref l2)))->H l1=none->H l2=none->H' l1=some (.lst [])->H' l2=some (.lst [])->l1≠l2->(∀b o,H b=some o->b≠p->H' b=some o)->(∀b ps,H' b=some (.rf ps)->H b=some (.rf ps))->Q .ie H'
def Qn(M:Mk X.K a.C g)(Fn:gm X.prog X.w X.K X.mg X.base nM k g fd ["self"] (zF a.C))(hr:gH (k+1) X.A)(hg:Gl X y)(hm:X.mg y=some (.ref a.C))(hb:AR X.K fd ["self"] [])(hdb:qq9 y) (hN:X.N.Nodup) (hx:X.N[i]?=some x) (hl:Loc X.env.scope x) (hf:X.fn x=true\/X.env.scope.names.lookup x=some .local) (W:sF ρ i=true):xj a X ρ (.Assign [.Name x p'] (.Call (.Name y ypos) [] [] pos) apos) (.nx (ρ.set i (some (.ob (.lst []) (.lst []))))):=λS H σ R D q=>by refine jK (zA hN hx hl (KC M Fn hr hg hm hb .nil uv hdb) rfl hf) ?_;intro l U nl ndx ne;refine⟨l,U,rfl,bh,λH' I G F O h3 h4 h5 h12 kp ktb=>⟨rfl,?_⟩⟩;have Q:∀b o,H b=some o->H' b=some o:=λb o h=>kp b o (by rw[aS (aY h nl),aS (aY h ndx)];exact h) (aY h nl);have fr:∀{r:aE},IZ (IZ H U (.own l)) l (.ins a.C U []) r=none->H r=none/\r≠l:=λ{r} h=>by{have F:r≠l:=λz=>by{rw[z,bh] at h;cases h};rw[aS F] at h;have O:r≠U:=λz=>by{rw[z,bh] at h;cases h};rw[aS O] at h;exact⟨h,F⟩};obtain⟨f1,g1⟩:=fr O;obtain⟨f2,g2⟩:=fr h3;have hi:i<ρ.length:=lB W;have hs:i<σ.length:=by{rw[R.len];exact hi};have nl':S l=none:=EB.free R.sub nl;have n1:S I=none:=EB.free R.sub f1;have n2:S G=none:=EB.free R.sub f2;have sm:eY S (IZ (IZ S I (.lst [])) G (.lst [])):=(gO n1).trans (gO (by rw[aS (dQ h12)];exact n2));have T:eY (IZ (IZ S I (.lst [])) G (.lst [])) H':=λb u h=>by{by_cases L:b=G;{subst L;rw[bh] at h;obtain rfl:=bA h;exact h5};.rw[aS L] at h;by_cases Z:b=I;{subst Z;rw[bh] at h;obtain rfl:=bA h;exact h4};.rw[aS Z] at h;exact Q b u (R.sub b u h)};have out:∀{b:aE},S b=none->b≠I->b≠G->IZ (IZ S I (.lst [])) G (.lst []) b=none:=λ{b} n F O=>by{rw[aS O,aS F];exact n};have kk:∀b o,S b=none->H b=some o->H' b=some o/\IZ (IZ S I (.lst [])) G (.lst []) b=none:=λb o n h=>⟨Q b o h,out n (aY h f1) (aY h f2)⟩;have tt:jz a S H->jz a (IZ (IZ S I (.lst [])) G (.lst [])) H':=λtb=>tb.to (λb o h _=>Q b o h) (λb ps h hs=>out hs (aY h f1) (aY h f2)) λb ps h=>by{have F:=ktb b ps h;have hb:b≠l:=λz=>by{rw[z,bh] at F;cases F};rw[aS hb] at F;have L:b≠U:=λz=>by{rw[z,bh] at F;cases F};rw[aS L] at F;exact⟨ps,F⟩};have st:EB a S H (IZ (IZ S I (.lst [])) G (.lst [])) H':=⟨sm,T,λb o n h _=>kk b o n h,tt⟩;have R1:=R.step st;have own:∀{j r},iu (ρ.set i (some (.ob (.lst []) (.lst [])))) (σ.set i (some (.ref l))) j r->(j=i/\r=l)\/(j≠i/\r≠l/\iu ρ σ j r):=λ{j r} o=>by{obtain⟨o,e⟩:=o;by_cases P:j=i;{subst P;rw[zD hs] at e;cases e;exact .inl ⟨rfl,rfl⟩};.rw[aU (λz=>P z.symm)] at o e;obtain⟨_,u,hu⟩:=iu.free R ⟨o,e⟩;exact .inr ⟨P,aY hu nl,o,e⟩};refine q (IZ (IZ S I (.lst [])) G (.lst [])) H' _ ⟨T,by rw[cb,cb];exact R.len,λj d' h=>?_,λj ds' h=>?_,λj c m h=>?_,λj k r o1 o2=>?_,R1.tab⟩ ⟨sm,T,λb o n h _ _=>kk b o n h,tt,λj r o=>?_,qL (vZ W)⟩;{rcases MM h with⟨rfl,e⟩|⟨P,h⟩;{cases e};.obtain⟨w,e,r⟩:=R1.pl j d' h;exact⟨w,by rw[aU (λz=>P z.symm)];exact e,r⟩};{rcases MM h with⟨rfl,e⟩|⟨P,h⟩;{cases e};.obtain⟨w,vs,e,r⟩:=R1.ow j ds' h;exact⟨w,vs,by rw[aU (λz=>P z.symm)];exact e,r⟩};{rcases MM h with⟨rfl,e⟩|⟨P,h⟩;{cases e;refine⟨l,zD hs,out nl' (dQ g1) (dQ g2),U,.ref I,.ref G,F,.lst (.inl ?_) .nil,.lst (.inl bh) .nil⟩;rw[aS h12,bh]};.obtain⟨w,e,r⟩:=R1.ob j c m h;exact⟨w,by rw[aU (λz=>P z.symm)];exact e,r⟩};{rcases own o1 with⟨rfl,rfl⟩|⟨F,O,o1⟩;{rcases own o2 with⟨rfl,_⟩|⟨_,O,_⟩;{rfl};.exact absurd rfl O};.rcases own o2 with⟨rfl,rfl⟩|⟨_,_,o2⟩;{exact absurd rfl O};.exact R.ap j k r o1 o2};.rcases own o with⟨rfl,rfl⟩|⟨_,_,o⟩;{exact .inr nl};.exact .inl ⟨j,o⟩
end
end
structure rY(prog:Program)(w:World)(K:ah)(a:Ad)(q:aE)(l:List (Int×D)):Prop where
 ne:(q==CW)=false
 ex:∃vs:List (Int×Value),(∀h:Heap,K.In h->h.DictOf (mJ prog w) q vs)/\
  (∀i d,l.lookup i=some d->∃u v,valueAt vs i=some u/\Sk v u/\∀S,Rp K a.fa S v d)/\∀i,l.lookup i=none->valueAt vs i=none
section
variable {a:Ad}{X:Cx}{ρ:Ev}{x:Str}{e y:Expr}{p pos npos:Pos}{q:aE}{l:List (Int×D)}{i:Int}{d:D}
def O2(T:rY X.prog X.w X.K a q l)(Z:Gl X x)(J:X.mg x=some (.ref q))(G:qq9 x)(C:T5 e)(h:ED a X ρ e (.int i))(hf:l.lookup i=some d):ED a X ρ (.Subscript (.Name x npos) e pos) d:=λS H σ R Q k=>by intro π s I;obtain⟨vs,O,U,_⟩:=T.ex;obtain⟨u,v,e1,P,L⟩:=U i d hf;refine NH PySem.F.slot_dict_getitem.lookup C (pO I Z J ?_ G);refine fS (h S H σ R (λw g=>w=.int i/\Q v g) (λw z g B r=>⟨by obtain rfl:=xj9 r;rfl,k v z g B (L z)⟩) π s I) λiv s2 zz=>?_;obtain⟨w,Y,p,M,N,W⟩:=zz;subst N;obtain⟨t,rfl⟩:=M;have A:=O _ p.Ae;exact⟨A.typeIs,wpAny_getItem_of (knd:=mJ X.prog X.w) (k:=i) (by simp[mJ,uW]) A.mapOf e1 ⟨v,Y,p.tok _,P,W⟩⟩
def Gr(T:rY X.prog X.w X.K a q l)(N:Gl X x)(A:X.mg x=some (.ref q))(R:qq9 x){p}(O:PE X e p):PC X .In e (.Name x npos) (λσ H Q=>p σ H λv m=>∃i,v=.int i/\Q (.bl (l.lookup i).isSome) m):=by intro π s σ H Q I h;obtain⟨vs,J,F,P⟩:=T.ex;refine fS (O π s σ H _ I h) λU W zz=>?_;obtain⟨y,m,o,G,i,B,C⟩:=zz;subst B;obtain⟨t,rfl⟩:=G;refine pO o N A ?_ R;refine wpAny_in_of (knd:=mJ X.prog X.w) (k:=i) (by simp[mJ,uW]) T.ne (J _ o.Ae).mapOf ⟨.bl (l.lookup i).isSome,m,o.tok _,?_,C⟩;cases r:l.lookup i with|none=>rw[P i r];rfl|some d=>obtain⟨u,v,L,_⟩:=F i d r;rw[L];rfl
def Sv(T:rY X.prog X.w X.K a q l)(n:Gl X x)(d:X.mg x=some (.ref q))(o:qq9 x)(h:ED a X ρ e (.int i)):ED a X ρ (.Compare e [.In] [.Name x npos] pos) (.bl (l.lookup i).isSome):=λS H σ R Q k=>dY (S7 (Gr T n d o b9) rfl) (h S H σ R _ λv j m f g=>by obtain rfl:=xj9 g;exact⟨i,rfl,k _ j m f (.bl _)⟩)
def RI(T:rY X.prog X.w X.K a q l)(n:Gl X x)(d:X.mg x=some (.ref q))(o:qq9 x)(h:ED a X ρ e (.int i)):TD a X ρ (.Compare e [.In] [.Name x npos] pos) (l.lookup i).isSome:=λS H σ R Q k=>Bn (Uh (Gr T n d o b9) rfl) (h S H σ R _ λv j m f g=>by obtain rfl:=xj9 g;exact⟨i,rfl,_,rfl,k j m f⟩)
def uc(h:i.natAbs.log2<1920):(txt i).length<=1921:=YF h
def EV{σ:L2.St}{H}{Q}(h:WE X e σ H λv f=>∃i:Int,v=.int i/\i.natAbs.log2<1920/\Q (.str (txt i)) f):WE X (.FormattedValue e (-1) none pos) σ H Q:=λπ s I=>by refine FormattedValue_plain (fS (h π s I) λv m zz=>?_);obtain⟨w,f,g,k,i,j,hi,q⟩:=zz;subst j;obtain⟨t,rfl⟩:=k;exact formatField_int_small hi ⟨.str (txt i),f,g.tok _,⟨_,rfl⟩,q⟩
def Uj(h:ED a X ρ e (.int i))(hi:i.natAbs.log2<1920):ED a X ρ (.JoinedStr [.FormattedValue e (-1) none fpos] pos) (.str (txt i)):=λS H σ R Q q=>λπ s I=>JoinedStr_one (EV (h S H σ R _ λv k f g j=>by obtain rfl:=xj9 j;exact⟨i,rfl,hi,q _ k f g (.str _)⟩) π s I)
def Sh{n l m}{O}(h:ED a X ρ e (.int i))(h':ED a X ρ y (.int j))(hi:i.natAbs.log2<1920)(P:j.natAbs.log2<1920):ED a X ρ (.JoinedStr [.FormattedValue e (-1) none n,.Constant (.str "/") O m,.FormattedValue y (-1) none l] pos) (.str (lU++txt i++aR "/" ++txt j)):=λS H σ R Q q=>λπ s I=>by have l1:=uc hi;have l2:=uc P;have l0:lU.length=0:=rfl;have l3:(aR "/").length=1:=zv;have hz:aG=16777216:=sP;have Z:WE X (.FormattedValue e (-1) none n) σ H λv w=>v=.str (txt i)/\∃p,EB a S H p w:=EV (h S H σ R _ λv p w F G=>by obtain rfl:=xj9 G;exact⟨i,rfl,hi,rfl,p,F⟩);refine JoinedStr_many (C7 (fS (Z π s I) λu F ⟨v,w,I1,G,ev,p,r⟩=>?_));subst ev;obtain⟨t,rfl⟩:=G;refine⟨by rw[gz];lia,C7 ?_⟩;refine fS (D0 (X:=X) (x:="/") (j:=O) (pos:=m) π F σ w (λv C=>v=.str "/" /\C=w) I1 ⟨rfl,rfl⟩) λu2 s2 zz=>?_;obtain⟨v2,C,I2,Y,N,eH⟩:=zz;subst N eH;obtain⟨t2,rfl⟩:=Y;refine⟨by rw[gz,gz];show _+(aR "/").length<=_;lia,C7 ?_⟩;have w3:WE X (.FormattedValue y (-1) none l) σ C λv A=>v=.str (txt j)/\∃z,EB a S H z A:=EV (h' p C σ (R.step r) _ λv z A U L=>by obtain rfl:=xj9 L;exact⟨j,rfl,P,rfl,z,r.trans U⟩);refine fS (w3 π s2 I2) λu3 U ⟨v3,A,I3,L,M,z,J⟩=>?_;subst M;obtain⟨t3,rfl⟩:=L;have T:(lU++txt i++aR "/" ++txt j).length<=aG:=by{rw[gz,gz,gz];lia};exact⟨T,joinParts_nil ⟨.str _,A,I3.tok _,⟨_,rfl⟩,q _ z A J (.str _)⟩ T⟩
def OP{x}{b c}{s}{r}(d:(b.endLine==c.line)=true)(o:aH [e] X.env=[(false,cq e X.env)])(h:ED a X ρ e (.lst (r.map .str)))(hz:(r.map (·.length)).sum+r.length*x.length<=16777216):ED a X ρ (.Call (.Attribute (.Constant (.str x) s npos) "join" b) [e] [] c) (.str (kJ x r)):=λS H σ R Q q=>by refine dY (Qa D0 b9 o rfl d) ⟨⟨x,rfl⟩,h S H σ R _ λv n l k m=>?_⟩;obtain⟨p,rfl,t1⟩:=Rp.strs m;exact⟨x,p,r,rfl,rfl,.inl (Rd.xl (Rd.mono k.h t1)),hz,q _ n l k (.str _)⟩
end
structure Ts where
 xJ:Nat->Str
 lv:Nat->Nat
 ar:Nat->Nat
 kd:Nat->Nat
 cv:List Nat
 Hn:List Nat
 ci:Nat
 lm:Option (Pos×Str)
 gn:Nat->Str
 dn:Nat->Str
class inductive Syn where
 |e (x:Expr)|t (x:Expr)|w (x:Expr)|a (xs:List Expr)|i (x:Expr)|f (x:Expr)|o (x:Option Expr)
def X3(a:Scope)(x:Str):Bool:=match a.names.lookup x with|some .local=>true|some .cell=>true|some .free=>true|_=>false
def Xx(a:Scope)(x:Str):Bool:=match a.names.lookup x with|some .local=>true|some .cell=>true|_=>false
def rQ(a:Scope)(x:Str):Bool:=(match a.names.lookup x with|some .globalImplicit=>true|_=>false)&&!(x==("__debug__" :Str))&&!(x==("__name__" :Str))
def AB(N:List Str)(a:Scope)(i:Nat)(x:Str):Bool:=decide (N[i]?=some x)&&X3 a x&&!(x==("__debug__" :Str))&&!(x==("__classdict__" :Str))
def HK(N:List Str)(a:Scope)(i:Nat)(x:Str):Bool:=decide (N[i]?=some x)&&Xx a x
def D8(x:Expr):Bool:=x.ctorIdx !=22
def jV(x:Expr):Bool:=x.ctorIdx !=7
def yn(x:Expr):Bool:=x.ctorIdx==23||x.ctorIdx==16
def isName(x:Expr):Bool:=x.ctorIdx==23
def nQ(x:Expr):Bool:=x.ctorIdx !=26&&x.ctorIdx !=25
def opB(o:Y1)(p:Operator):Bool:=decide (p=WH o)
def L7(o:Cm)(p:CmpOp):Bool:=decide (p=ZM o)
def biN:Bi->Str|.len=>"len" |.abs=>"abs" |.max2=>"max" |.DI=>"min" |.sum=>"sum" |.all=>"all" |.any=>"any" |.ord=>"ord" |.He=>"max"
def WB:D->Const->Bool|.int i,.int j=>decide (i=j)|.bl b,.bool c=>b==c|.str x,.str y=>decide (x=y)|.ie,.none=>true|_,_=>false
def vy:Tg->Bool|.tp _=>true|_=>false
def mY(N:List Str)(own:List Nat):List (Str×Nat):=own.map λi=>(N.getD i ("" :Str),i)
def jR(x:E):Bool:=x.ctorIdx==34||x.ctorIdx==35
def uU(l:List α)(f:α->List α->Bool):Bool:=match l with|x::xs=>f x xs|_=>false
def wO(l:List α)(f:α->Bool):Bool:=match l with|[x]=>f x|_=>false
def zn(l:List α)(f:α->α->Bool):Bool:=uU l λx l=>wO l λy=>f x y
def At(l:List α)(f:α->α->α->Bool):Bool:=uU l λx l=>zn l λy z=>f x y z
def AC(o:Option α)(f:α->Bool):Bool:=match o with|some x=>f x|_=>false
def AT(y:Syn)(f:Expr->Bool):Bool:=match y with|.e x=>f x|_=>false
def Bw(y:Syn)(f:Expr->Bool):Bool:=match y with|.t x=>f x|_=>false
def BT(y:Syn)(f:Expr->Bool):Bool:=match y with|.e x=>f x|.t x=>f x|_=>false
def Ch(y:Syn)(f:Expr->Bool):Bool:=match y with|.e x=>f x|.f x=>f x|_=>false
def Cl(y:Syn)(f h:Expr->Bool):Bool:=match y with|.t x=>f x|.w x=>f x|.e x=>h x|_=>false
def Da(y:Syn)(f h:Expr->Bool):Bool:=match y with|.w x=>f x|.e x=>h x|_=>false
def Db(y:Syn)(f:List Expr->Bool):Bool:=match y with|.a x=>f x|_=>false
def Do(y:Syn)(f:Expr->Bool):Bool:=match y with|.i x=>f x|_=>false
def EQ(y:Syn)(f:Option Expr->Bool):Bool:=match y with|.o x=>f x|_=>false
def jq0(x:Expr)(g:x.ctorIdx=n->Bool):Bool:=if c:_ then g c else false
def jq1(x:Stmt)(g:x.ctorIdx=n->Bool):Bool:=if c:_ then g c else false
def jq2{x:Expr}{g:x.ctorIdx=n->Bool}(h:jq0 x g=true):x.ctorIdx=n:=bq λc=>c9 ((dif_neg c).symm.trans h)
def jq3{x:Stmt}{g:x.ctorIdx=n->Bool}(h:jq1 x g=true):x.ctorIdx=n:=bq λc=>c9 ((dif_neg c).symm.trans h)
def Fa(x:Expr)(f:Str->Pos->Bool):Bool:=jq0 x λc=>Expr.Name.elim x c f
def FB(x:Expr)(f:Const->Bool):Bool:=jq0 x λc=>Expr.Constant.elim x c λc _ _=>f c
def FM(x:Expr)(f:UnaryOp->Expr->Bool):Bool:=jq0 x λc=>Expr.UnaryOp.elim x c λu z _=>f u z
def FS(x:Expr)(f:Expr->Operator->Expr->Bool):Bool:=jq0 x λc=>Expr.BinOp.elim x c λl o r _=>f l o r
def Go(x:Expr)(f:Expr->List CmpOp->List Expr->Bool):Bool:=jq0 x λc=>Expr.Compare.elim x c λl o r _=>f l o r
def GE(x:Expr)(f:Expr->CmpOp->Expr->Bool):Bool:=Go x λl o r=>wO o λo=>wO r λr=>f l o r
def GM(x:Expr)(f:Expr->CmpOp->Expr->CmpOp->Expr->Bool):Bool:=Go x λl o r=>zn o λo q=>zn r λr s=>f l o r q s
def GT(x:Expr)(f:BoolOp->List Expr->Pos->Bool):Bool:=jq0 x λc=>Expr.BoolOp.elim x c f
def Id(x:Expr)(f:BoolOp->Expr->Expr->List Expr->Pos->Bool):Bool:=GT x λo l p=>uU l λu l=>uU l λv r=>f o u v r p
def Ix(x:Expr)(f:Expr->Bool):Bool:=GT x λ_ l _=>wO l f
def IN(x:Expr)(f:Expr->Expr->Expr->Bool):Bool:=jq0 x λc=>Expr.IfExp.elim x c λz u v _=>f z u v
def IO(x:Expr)(f:Expr->Str->Pos->Bool):Bool:=jq0 x λc=>Expr.Attribute.elim x c f
def IR(x:Expr)(f:Expr->Str->Bool):Bool:=IO x λu m _=>f u m
def KB(x:Expr)(f:Expr->List Expr->List Keyword->Pos->Bool):Bool:=jq0 x λc=>Expr.Call.elim x c f
def KF(x:Expr)(f:Str->List Expr->Bool):Bool:=KB x λg l k _=>Fa g λn _=>k.isEmpty&&f n l
def KM(x:Expr)(f:Str->List Expr->Str->Expr->Bool):Bool:=KB x λg l k _=>Fa g λn _=>wO k λq=>AC q.arg λo=>f n l o q.value
def KT(x:Expr)(f:Expr->Str->Pos->List Expr->Pos->Bool):Bool:=KB x λg l k v=>IO g λu m b=>k.isEmpty&&f u m b l v
def KU(x:Expr)(f:List Expr->Bool):Bool:=jq0 x λc=>Expr.Tuple.elim x c λes _ _=>f es
def LE(x:Expr)(f:List Expr->Bool):Bool:=jq0 x λc=>Expr.List.elim x c λes _=>f es
def LT(x:Expr)(f:Expr->Expr->Bool):Bool:=jq0 x λc=>Expr.Subscript.elim x c λu v _=>f u v
def Mx(x:Expr)(f:Option Expr->Option Expr->Option Expr->Bool):Bool:=jq0 x λc=>Expr.Slice.elim x c λu v w _=>f u v w
def No(x:Expr)(f:Option Expr->Option Expr->Bool):Bool:=Mx x λu v w=>w.isNone&&f u v
def NE(x:Expr)(f:Expr->List Comprehension->Scope->Bool):Bool:=jq0 x λc=>Expr.ListComp.elim x c λz g h _=>f z g h
def On(x:Expr)(f:List Expr->Bool):Bool:=jq0 x λc=>Expr.JoinedStr.elim x c λl _=>f l
def Os(x:Expr)(f:Expr->Int->Option Expr->Bool):Bool:=jq0 x λc=>Expr.FormattedValue.elim x c λz c o _=>f z c o
def Pi(x:Expr)(f:Expr->Int->Bool):Bool:=Os x λz c o=>o.isNone&&f z c
def Ph(N:List Str)(a:Scope):List Nat->List Expr->Bool|[],l=>l.isEmpty|i::l,es=>uU es λe es=>Fa e λx _=>HK N a i x&&Ph N a l es
def Jj(N:List Str)(a:Scope):Tg->Expr->Bool|.nm i,e=>Fa e λx _=>HK N a i x|.tp l,e=>KU e λes=>Ph N a l es
def xk2(y:Syn)(f:Str->List Expr->Bool):Bool:=AT y λx=>KF x f
def xk3(y:Syn)(f:Str->List Expr->Bool):Bool:=Do y λx=>KF x f
def Ps{P:Prop}(h:(a&&b)=true)(k:a=true->b=true->P):P:=k (E6.1 h).1 (E6.1 h).2
def Pv{P:Prop}(h:(a&&b&&c)=true)(k:a=true->b=true->c=true->P):P:=Ps h λh z=>Ps h λx y=>k x y z
def PD{P:Prop}(h:(a&&b&&c&&d)=true)(k:a=true->b=true->c=true->d=true->P):P:=Ps h λh z=>Pv h λx y w=>k x y w z
def PP{P:Prop}(h:(a&&b&&c&&d&&e)=true)(k:a=true->b=true->c=true->d=true->e=true->P):P:=Ps h λh z=>PD h λx y w v=>k x y w v z
def P3{P:Prop}(h:(a&&b&&c&&d&&e&&f)=true)(k:a=true->b=true->c=true->d=true->e=true->f=true->P):P:=Ps h λh z=>PP h λx y w v u=>k x y w v u z
def Re{P:Prop}(h:(a&&b&&c&&d&&e&&f&&g)=true)(k:a=true->b=true->c=true->d=true->e=true->f=true->g=true->P):P:=Ps h λh z=>P3 h λx y w v u t=>k x y w v u t z
def SB{P:Prop}(h:(a&&b&&c&&d&&e&&f&&g&&i)=true)(k:a=true->b=true->c=true->d=true->e=true->f=true->g=true->i=true->P):P:=Ps h λh z=>Re h λx y w v u t s=>k x y w v u t s z
section
variable {y:Syn}{x:Expr}{P:Syn->Prop}{Q:Expr->Prop}
@[elab_as_elim] theorem SC (l:List α) {R:List α->Prop} {f} (h:wO l f=true) (k:∀x,f x=true->R [x]):R l:=by cases l with|nil=>exact(c9 h).elim|cons x l=>cases l<;>first|exact k _ h|exact(c9 h).elim
@[elab_as_elim] theorem SL (l:List α) {R:List α->Prop} {f} (h:uU l f=true) (k:∀x r,f x r=true->R (x::r)):R l:=by cases l<;>first|exact k _ _ h|exact(c9 h).elim
@[elab_as_elim] theorem ST (l:List α) {R:List α->Prop} {f} (h:zn l f=true) (k:∀x y,f x y=true->R [x,y]):R l:=SL l h λx l h=>SC l h λy h=>k x y h
@[elab_as_elim] theorem SZ (l:List α) {R:List α->Prop} {f} (h:At l f=true) (k:∀x y z,f x y z=true->R [x,y,z]):R l:=SL l h λx l h=>ST l h λy z h=>k x y z h
@[elab_as_elim] theorem Tk (l:List α) {R:List α->Prop} (h:l.isEmpty=true) (k:R []):R l:=by cases l<;>first|exact k|exact(c9 h).elim
@[elab_as_elim] theorem Tm (o:Option α) {R:Option α->Prop} {f} (h:AC o f=true) (k:∀x,f x=true->R (some x)):R o:=by cases o<;>first|exact k _ h|exact(c9 h).elim
@[elab_as_elim] theorem Ty (o:Option α) {R:Option α->Prop} (h:o.isNone=true) (k:R none):R o:=by cases o<;>first|exact k|exact(c9 h).elim
@[elab_as_elim] theorem TW (x:Expr) {f} (h:Fa x f=true) (k:∀n p,f n p=true->Q (.Name n p)):Q x:=Expr.Name.elim x (jq2 h) k h
@[elab_as_elim] theorem Uf (x:Expr) {f} (h:IO x f=true) (k:∀u m p,f u m p=true->Q (.Attribute u m p)):Q x:=Expr.Attribute.elim x (jq2 h) k h
@[elab_as_elim] theorem UF (x:Expr) {f} (h:IR x f=true) (k:∀u m p,f u m=true->Q (.Attribute u m p)):Q x:=Uf x h k
@[elab_as_elim] theorem UV (y:Syn) {f} (h:AT y f=true) (k:∀x,f x=true->P (.e x)):P y:=by cases y<;>first|exact k _ h|exact(c9 h).elim
@[elab_as_elim] theorem WF (y:Syn) {f} (h:Bw y f=true) (k:∀x,f x=true->P (.t x)):P y:=by cases y<;>first|exact k _ h|exact(c9 h).elim
@[elab_as_elim] theorem WP (y:Syn) {f} (h:BT y f=true) (k:∀x,f x=true->P (.e x)) (j:∀x,f x=true->P (.t x)):P y:=by cases y<;>first|exact k _ h|exact j _ h|exact(c9 h).elim
@[elab_as_elim] theorem XL (y:Syn) {f} (h:Ch y f=true) (k:∀x,f x=true->P (.e x)) (j:∀x,f x=true->P (.f x)):P y:=by cases y<;>first|exact k _ h|exact j _ h|exact(c9 h).elim
@[elab_as_elim] theorem XV (y:Syn) {f g} (h:Cl y f g=true) (k:∀x,f x=true->P (.t x)) (j:∀x,f x=true->P (.w x)) (i:∀x,g x=true->P (.e x)):P y:=by cases y<;>first|exact k _ h|exact j _ h|exact i _ h|exact(c9 h).elim
@[elab_as_elim] theorem ZB (y:Syn) {f g} (h:Da y f g=true) (j:∀x,f x=true->P (.w x)) (i:∀x,g x=true->P (.e x)):P y:=by cases y<;>first|exact j _ h|exact i _ h|exact(c9 h).elim
@[elab_as_elim] theorem qx0 (y:Syn) {f} (h:Db y f=true) (k:∀x,f x=true->P (.a x)):P y:=by cases y<;>first|exact k _ h|exact(c9 h).elim
@[elab_as_elim] theorem qx1 (y:Syn) {f} (h:Do y f=true) (k:∀x,f x=true->P (.i x)):P y:=by cases y<;>first|exact k _ h|exact(c9 h).elim
@[elab_as_elim] theorem qx2 (y:Syn) {f} (h:EQ y f=true) (k:∀x,f x=true->P (.o x)):P y:=by cases y<;>first|exact k _ h|exact(c9 h).elim
@[elab_as_elim] theorem qx3 (x:Expr) {f} (h:FB x f=true) (k:∀c j p,f c=true->Q (.Constant c j p)):Q x:=Expr.Constant.elim x (jq2 h) k h
@[elab_as_elim] theorem qx4 (x:Expr) {f} (h:FM x f=true) (k:∀u z p,f u z=true->Q (.UnaryOp u z p)):Q x:=Expr.UnaryOp.elim x (jq2 h) k h
@[elab_as_elim] theorem qx5 (x:Expr) {f} (h:FS x f=true) (k:∀l o r p,f l o r=true->Q (.BinOp l o r p)):Q x:=Expr.BinOp.elim x (jq2 h) k h
@[elab_as_elim] theorem qx6 (x:Expr) {f} (h:IN x f=true) (k:∀l o r p,f l o r=true->Q (.IfExp l o r p)):Q x:=Expr.IfExp.elim x (jq2 h) k h
@[elab_as_elim] theorem qx7 (x:Expr) {f} (h:KU x f=true) (k:∀l j p,f l=true->Q (.Tuple l j p)):Q x:=Expr.Tuple.elim x (jq2 h) k h
@[elab_as_elim] theorem qx8 (x:Expr) {f} (h:LE x f=true) (k:∀l p,f l=true->Q (.List l p)):Q x:=Expr.List.elim x (jq2 h) k h
@[elab_as_elim] theorem qx9 (x:Expr) {f} (h:LT x f=true) (k:∀u v p,f u v=true->Q (.Subscript u v p)):Q x:=Expr.Subscript.elim x (jq2 h) k h
@[elab_as_elim] theorem qz0 (x:Expr) {f} (h:NE x f=true) (k:∀z g s p,f z g s=true->Q (.ListComp z g s p)):Q x:=Expr.ListComp.elim x (jq2 h) k h
@[elab_as_elim] theorem qz1 (x:Expr) {f} (h:On x f=true) (k:∀l p,f l=true->Q (.JoinedStr l p)):Q x:=Expr.JoinedStr.elim x (jq2 h) k h
@[elab_as_elim] theorem qz2 (x:Expr) {f} (h:Go x f=true) (k:∀l o r p,f l o r=true->Q (.Compare l o r p)):Q x:=Expr.Compare.elim x (jq2 h) k h
@[elab_as_elim] theorem qz3 (x:Expr) {f} (h:GE x f=true) (k:∀l o r p,f l o r=true->Q (.Compare l [o] [r] p)):Q x:=qz2 x h λl o r p h=>SC o h λo h=>SC r h λr h=>k l o r p h
@[elab_as_elim] theorem qz4 (x:Expr) {f} (h:GM x f=true) (k:∀l o r q s p,f l o r q s=true->Q (.Compare l [o,q] [r,s] p)):Q x:=qz2 x h λl o r p h=>ST o h λo q h=>ST r h λr s h=>k l o r q s p h
@[elab_as_elim] theorem qz5 (x:Expr) {f} (h:GT x f=true) (k:∀o l p,f o l p=true->Q (.BoolOp o l p)):Q x:=Expr.BoolOp.elim x (jq2 h) k h
@[elab_as_elim] theorem qz6 (x:Expr) {f} (h:Id x f=true) (k:∀o u v r p,f o u v r p=true->Q (.BoolOp o (u::v::r) p)):Q x:=qz5 x h λo l p h=>SL l h λu l h=>SL l h λv r h=>k o u v r p h
@[elab_as_elim] theorem qz7 (x:Expr) {f} (h:Ix x f=true) (k:∀o u p,f u=true->Q (.BoolOp o [u] p)):Q x:=qz5 x h λo l p h=>SC l h λu h=>k o u p h
@[elab_as_elim] theorem qz8 (x:Expr) {f} (h:KB x f=true) (k:∀g l w p,f g l w p=true->Q (.Call g l w p)):Q x:=Expr.Call.elim x (jq2 h) k h
@[elab_as_elim] theorem qz9 (x:Expr) {f} (h:KF x f=true) (k:∀n p es q,f n es=true->Q (.Call (.Name n p) es [] q)):Q x:=qz8 x h λg l w q h=>TW g h λn p h=>Ps h λi h=>Tk w i (k n p l q h)
@[elab_as_elim] theorem qj0 (x:Expr) {f} (h:KM x f=true) (k:∀n p es o l r q,f n es o l=true->Q (.Call (.Name n p) es [⟨some o,l,r⟩] q)):Q x:=qz8 x h λg l w q h=>TW g h λn p h=>SC w h λ⟨o,v,r⟩ h=>Tm o h λo h=>k n p l o v r q h
@[elab_as_elim] theorem qj1 (x:Expr) {f} (h:KT x f=true) (k:∀u m b es v,f u m b es v=true->Q (.Call (.Attribute u m b) es [] v)):Q x:=qz8 x h λg l w v h=>Uf g h λu m b h=>Ps h λi h=>Tk w i (k u m b l v h)
@[elab_as_elim] theorem qj2 (x:Expr) {f} (h:Mx x f=true) (k:∀u v w p,f u v w=true->Q (.Slice u v w p)):Q x:=Expr.Slice.elim x (jq2 h) k h
@[elab_as_elim] theorem qj3 (x:Expr) {f} (h:No x f=true) (k:∀u v p,f u v=true->Q (.Slice u v none p)):Q x:=qj2 x h λu v w p h=>Ps h λi h=>Ty w i (k u v p h)
@[elab_as_elim] theorem qj4 (x:Expr) {f} (h:Os x f=true) (k:∀u v w p,f u v w=true->Q (.FormattedValue u v w p)):Q x:=Expr.FormattedValue.elim x (jq2 h) k h
@[elab_as_elim] theorem qj5 (x:Expr) {f} (h:Pi x f=true) (k:∀z c p,f z c=true->Q (.FormattedValue z c none p)):Q x:=qj4 x h λu v w p h=>Ps h λi h=>Ty w i (k u v p h)
@[elab_as_elim] theorem xk4 (y:Syn) {f} (h:xk2 y f=true) (k:∀n p es q,f n es=true->P (.e (.Call (.Name n p) es [] q))):P y:=UV y h λx h=>qz9 x h λn p es q h=>k n p es q h
@[elab_as_elim] theorem xk5 (y:Syn) {f} (h:xk3 y f=true) (k:∀n p es q,f n es=true->P (.i (.Call (.Name n p) es [] q))):P y:=qx1 y h λx h=>qz9 x h λn p es q h=>k n p es q h
end
def qj6(N:List Str)(g h:Scope)(t:Tg)(i:E)(own:List Nat)(c:Comprehension):Bool:=decide (c.is_async=0)&&Jj N h t c.target&&(!jR i||vy t)&&jV c.iter&&v8 N g h (mY N own)&&t.slots.all (λj=>own.contains j)
section
variable (T:Ts)(F:List Nat)(N:List Str)(k:Nat)
def dO:E->Scope->Syn->Bool|.var i=>λg y=>AT y λx=>Fa x λn _=>AB N g i n|.con d=>λ_ y=>AT y λx=>FB x λc=>WB d c|.jg j=>λg y=>AT y λx=>Fa x λn _=>decide (n=T.gn j)&&rQ g n|.neg a=>λg y=>AT y λx=>FM x λu z=>decide (u=.USub)&&dO a g (.e z)|.nt a=>λg y=>Bw y λx=>FM x λu z=>decide (u=.Not)&&dO a g (.t z)|.tv a=>λg y=>Bw y λx=>yn x&&dO a g (.e x)|.bin o a b=>λg y=>AT y λx=>FS x λl p r=>opB o p&&dO a g (.e l)&&dO b g (.e r)|.cmp o a b=>λg y=>BT y λx=>GE x λl p r=>L7 o p&&dO a g (.e l)&&dO b g (.e r)|.Vx a b=>λg y=>AT y λx=>GE x λl p r=>decide (p=.Eq)&&dO a g (.e l)&&dO b g (.e r)|.Ym a=>λg y=>Bw y λx=>GE x λl p r=>decide (p=.Is)&&(FB r λc=>decide (c=.none))&&dO a g (.e l)|.Vd a=>λg y=>Bw y λx=>GE x λl p r=>decide (p=.IsNot)&&(FB r λc=>decide (c=.none))&&dO a g (.e l)|.IU a b=>λg y=>Bw y λx=>GE x λl p r=>decide (p=.NotIn)&&jV r&&dO a g (.e l)&&dO b g (.e r)|.Hh o p a b c=>λg y=>BT y λx=>GM x λl u r v s=>L7 o u&&L7 p v&&dO a g (.e l)&&dO b g (.e r)&&dO c g (.e s)|.an a b=>λg y=>Cl y (λx=>Id x λo u v r p=>decide (o=.And)&&dO a g (.t u)&&dO b g (.w (.BoolOp .And (v::r) p))) λx=>Id x λo u v r p=>decide (o=.And)&&dO a g (.e u)&&dO b g (.e (.BoolOp .And (v::r) p))|.or a b=>λg y=>Cl y (λx=>Id x λo u v r p=>decide (o=.Or)&&dO a g (.t u)&&dO b g (.w (.BoolOp .Or (v::r) p))) λx=>Id x λo u v r p=>decide (o=.Or)&&dO a g (.e u)&&dO b g (.e (.BoolOp .Or (v::r) p))|.one a=>λg y=>Da y (λx=>Ix x λu=>dO a g (.t u)) λx=>Ix x λu=>dO a g (.e u)|.ite c a b=>λg y=>AT y λx=>IN x λz u v=>dO c g (.t z)&&dO a g (.e u)&&dO b g (.e v)|.nil=>λ_ y=>Db y List.isEmpty|.cons a r=>λg y=>Db y λl=>uU l λx xs=>D8 x&&dO a g (.e x)&&dO r g (.a xs)|.cM f a=>λg y=>xk2 y λn es=>decide (n=T.xJ f)&&rQ g n&&F.contains f&&decide (T.kd f=0)&&decide (T.lv f<=k)&&decide (es.length=T.ar f)&&dO a g (.a es)|.bi b a=>λg y=>xk2 y λn es=>uU es λe es=>decide (n=biN b)&&rQ g n&&dO a g (.a (e::es))|.tup a=>λg y=>AT y λx=>KU x λes=>decide (es.length<1000)&&dO a g (.a es)|.lst a=>λg y=>Ch y λx=>LE x λes=>decide (es.length<1000)&&dO a g (.a es)|.Tz a=>λg y=>Ch y λx=>KF x λn es=>wO es λe=>decide (n="list")&&rQ g n&&D8 e&&dO a g (.e e)|.ix a b=>λg y=>AT y λx=>LT x λu v=>nQ v&&dO a g (.e u)&&dO b g (.e v)|.sl a b c=>λg y=>Ch y λx=>LT x λu v=>No v λi j=>dO a g (.e u)&&dO b g (.o i)&&dO c g (.o j)|.np=>λ_ y=>EQ y Option.isNone|.pt a=>λg y=>EQ y λo=>AC o λx=>dO a g (.e x)|.lc e t i own=>λg y=>Ch y λx=>NE x λz l h=>wO l λc=>c.ifs.isEmpty&&qj6 N g h t i own c&&dO i g (.i c.iter)&&dO e (qT h g) (.e z)|.LV e t i c own=>λg y=>Ch y λx=>NE x λz l h=>wO l λq=>qj6 N g h t i own q&&dO i g (.i q.iter)&&(wO q.ifs λu=>dO c (qT h g) (.t u))&&dO e (qT h g) (.e z)|.wq a=>λg y=>xk3 y λn es=>wO es λe=>decide (n="range")&&rQ g n&&D8 e&&dO a g (.e e)|.zV a b=>λg y=>xk3 y λn es=>zn es λe q=>decide (n="range")&&rQ g n&&D8 e&&D8 q&&dO a g (.e e)&&dO b g (.e q)|.AL a b c=>λg y=>xk3 y λn es=>At es λe q r=>decide (n="range")&&rQ g n&&D8 e&&D8 q&&D8 r&&dO a g (.e e)&&dO b g (.e q)&&dO c g (.e r)|.zip a b=>λg y=>xk3 y λn es=>zn es λe q=>decide (n="zip")&&rQ g n&&D8 e&&D8 q&&dO a g (.e e)&&dO b g (.e q)|.DW a=>λg y=>xk3 y λn es=>wO es λe=>decide (n="enumerate")&&rQ g n&&D8 e&&dO a g (.e e)|.uf a=>λg y=>Do y λx=>dO a g (.e x)|.bl a=>λg y=>AT y λx=>KT x λu m b es v=>es.isEmpty&&decide (m="bit_length")&&(b.endLine==v.line)&&isName u&&dO a g (.e u)|.idx a b=>λg y=>AT y λx=>KT x λu m q es v=>wO es λe=>decide (m="index")&&(q.endLine==v.line)&&isName u&&D8 e&&dO a g (.e u)&&dO b g (.e e)|.join s a=>λg y=>AT y λx=>KT x λu m q es v=>wO es λe=>(FB u λc=>decide (c=.str s))&&decide (m="join")&&(q.endLine==v.line)&&D8 e&&dO a g (.e e)|.Xo a=>λg y=>AT y λx=>On x λl=>wO l λw=>Pi w λz c=>decide (c= -1)&&dO a g (.e z)|.Yr a b=>λg y=>AT y λx=>On x λl=>At l λu s w=>(Pi u λz c=>decide (c= -1)&&dO a g (.e z))&&(FB s λc=>decide (c=.str "/"))&&Pi w λz c=>decide (c= -1)&&dO b g (.e z)|.xH j a=>λg y=>AT y λx=>LT x λu v=>Fa u λn _=>decide (n=T.dn j)&&rQ g n&&nQ v&&dO a g (.e v)|.Vb j a=>λg y=>BT y λx=>GE x λl p r=>decide (p=.In)&&(Fa r λn _=>decide (n=T.dn j)&&rQ g n)&&dO a g (.e l)|.Vc i a=>λg y=>AT y λx=>LT x λu v=>Fa u λn _=>AB N g i n&&nQ v&&dO a g (.e v)|.xG i=>λg y=>xk2 y λn es=>wO es λe=>Fa e λv _=>decide (n="len")&&rQ g n&&AB N g i v|.HL i a=>λg y=>xk2 y λn es=>uU es λe es=>AB N g i n&&T.cv.all (λf=>F.contains f&&decide (T.kd f=0)&&decide (T.lv f<=k)&&decide (T.ar f=es.length+1))&&dO a g (.a (e::es))|.fld i b=>λg y=>AT y λx=>IR x λu m=>Fa u λn _=>AB N g i n&&decide (m=(if b=true then "notes" else "commas" :Str))|.Ci f i a=>λg y=>AT y λx=>KT x λu m q es v=>Fa u λn _=>es.isEmpty&&(AB N g i n&&decide (m=T.xJ f)&&(q.endLine==v.line)&&F.contains f&&decide (T.kd f=3)&&decide (T.lv f<=k)&&(!(m==("commas" :Str))&&!(m==("notes" :Str)))&&dO a g (.a []))|.La a n=>λg y=>AT y λx=>KM x λq es o l=>wO es λe=>(FB l λc=>decide (c=.int n))&&decide (q="max")&&decide (o="default")&&rQ g q&&D8 e&&dO a g (.e e)|.oT a=>λg y=>xk2 y λn es=>wO es λw=>KF w λz es=>wO es λe=>decide (n="len")&&decide (z="set")&&rQ g n&&rQ g z&&D8 e&&dO a g (.e e)|.qf a=>λg y=>xk2 y λn es=>wO es λw=>KF w λz es=>wO es λe=>decide (n="sorted")&&decide (z="set")&&rQ g n&&rQ g z&&D8 e&&dO a g (.e e)|.vG a=>λg y=>xk2 y λn es=>wO es λe=>decide (n="sorted")&&rQ g n&&D8 e&&dO a g (.e e)|.Lr _ _=>λ_ _=>false|.T6 _=>λ_ _=>false
end
structure Tx(prog:Program)(w:World)(K:ah)(mg:Str->Option Value)(base:Heap)(a:Ad)(G:Gm)(T:Ts)(F:List Nat):Prop where
 fu:∀f∈F,T.kd f=0->∃fd ps,gm prog w K mg base nM (T.lv f) (a.fa f) fd ps (Mr K a (T.ar f) (G.d3 f))/\AR K fd ps []/\mg (T.xJ f)=some (.ref (a.fa f))/\b8 K (.ref (a.fa f))=true
 fo:∀f∈F,T.kd f=1->∃fd ps,gm prog w K mg base nM (T.lv f) (a.fa f) fd ps (Jl K a (T.ar f) (G.j4 f))/\AR K fd ps []/\mg (T.xJ f)=some (.ref (a.fa f))/\b8 K (.ref (a.fa f))=true
 fm:∀f∈F,T.kd f=2->∃fd ps,gm prog w K mg base nM (T.lv f) (a.fa f) fd ps (Jl K a (T.ar f) (G.j4 f))/\AR K fd ps []/\uN K a.C (T.xJ f) (a.fa f)
 fq:∀f∈F,T.kd f=3->∃fd ps,gm prog w K mg base nM (T.lv f) (a.fa f) fd ps (Wz K a 1 (G.M4 f))/\AR K fd ps []/\uN K a.C (T.xJ f) (a.fa f)
 fi:∀f∈F,T.kd f=4->∃g fd,Mk K a.C g/\gm prog w K mg base nM (T.lv f) g fd ["self"] (zF a.C)/\AR K fd ["self"] []/\mg (T.xJ f)=some (.ref a.C)
 cl:AA K a.C/\iy K a.C "commas" /\iy K a.C "notes"
 cv:G.cv=T.cv
 Hn:G.Hn=T.Hn
 gl:∀j d,G.Vm j=some d->∃v u,mg (T.gn j)=some u/\Sk v u/\∀S,Rp K a.fa S v d
 YZ:∀j,∃q,mg (T.dn j)=some (.ref q)/\rY prog w K a q (G.del j)
 di:∀j,G.del j≠[]->∃q,mg (T.dn j)=some (.ref q)/\rY prog w K a q (G.del j):=λj _=>YZ j
 bn:∀x∈(["len","abs","max","min","sum","all","any","ord","list","range","zip","enumerate","sorted","set"]:List Str),mg x=none
structure uL(a:Ad)(G:Gm)(T:Ts)(F:List Nat)(N:List Str)(k:Nat)(sc so:Scope)(X:Cx):Prop where
 tx:Tx X.prog X.w X.K X.mg X.base a G T F
 hN:X.N=N
 nd:N.Nodup
 Hs:X.env.scope=sc
 calm:X.calm=true
 room:gH k X.A
 lo:∀x,so.names.lookup x=some .local->X.env.scope.names.lookup x=some .local
 ce:∀x,so.names.lookup x=some .cell->X.env.scope.names.lookup x=some .cell/\X.fn x=true
 po:yS (aT X.prog X.w) X.A X.env X.xe
section
variable {a:Ad}{G:Gm}{T:Ts}{F:List Nat}{N:List Str}{k:Nat}{sc sc' so:Scope}{X:Cx}
theorem uL.lK(C:uL a G T F N k sc so X)(s)(H)(cl)(L)(f):uL a G T F N k (qT sc' sc) sc' (X.lK s H sc' (cJ sc' cl L X.env) f):=by have e:(cJ sc' cl L X.env).scope=qT sc' sc:=by{rw[<-C.Hs];rfl};refine⟨C.tx,C.hN,C.nd,e,C.calm,C.room,λx h=>?_,λx h=>⟨?_,?_⟩,E7⟩;{exact jQ (by trivial) h};{exact jQ Eg h};simp_all
def uL.CK(C:uL a G T F N k sc so X){i}{x}(h:AB N sc i x=true):X.N[i]?=some x/\vb X.env.scope x/\qq9 x/\xj8 x:=by unfold AB at h;simp only[aa,aw,jJ] at h;obtain⟨⟨⟨n,j⟩,p⟩,o⟩:=h;rw[C.hN,C.Hs];refine⟨n,?_,p,o⟩;unfold X3 at j;split at j;{exact .inl (by assumption)};{exact .inr (.inl (by assumption))};{exact .inr (.inr (by assumption))};.cases j
def uL.gl(C:uL a G T F N k sc so X){x}(h:rQ sc x=true):Gl X x/\qq9 x/\x≠"__name__" :=by unfold rQ at h;simp only[aa,jJ] at h;obtain⟨⟨j,m⟩,o⟩:=h;refine⟨?_,m,λz=>by simp_all⟩;split at j;{show X.env.scope.names.lookup x=_;rw[C.Hs];assumption};.cases j
theorem uL.st(C:uL a G T F N k sc so X){i}{x}{pos:Pos}(h:HK N so i x=true):X.N[i]?=some x/\Loc X.env.scope x/\(X.fn x=true\/X.env.scope.names.lookup x=some .local):=by unfold HK at h;simp only[aa,aw] at h;obtain⟨m,g⟩:=h;rw[C.hN];unfold Xx at g;split at g;{have q:=C.lo x (by assumption);exact⟨m,.inl q,.inr q⟩};{have q:=C.ce x (by assumption);exact⟨m,.inr q.1,.inl q.2⟩};.cases g
def uL.nm(C:uL a G T F N k sc so X){i}{x}{pos}(h:HK N so i x=true):J5 X i (.Name x pos):=by obtain⟨d,f,e⟩:=C.st (pos:=pos) h;exact⟨x,pos,rfl,d,f,e⟩
theorem uL.nms(C:uL a G T F N k sc so X):∀{l} {es},Ph N so l es=true->ua X l es|[],es,h=>Tk es h .nil|i::l,es,h=>SL es h λe es h=>TW e h λn p h=>Ps h λh j=>.cons (C.nm h) (C.nms j)
def uL.tg(C:uL a G T F N k sc so X){t}{e}(h:Jj N so t e=true):PZ X t e:=by cases t with|nm i=>exact TW e h λn p h=>.nm (C.nm h)|tp l=>exact qx7 e h λes _ _ h=>.tp (C.nms h)
def dm(h:D8 e=true)(es)(env):aH (e::es) env=(false,cq e env)::aH es env:=by cases e<;>first|rfl|cases h
def Dt(h:jV e=true)(env)(x):cH e env x=pure x:=by cases e<;>first|rfl|cases h
def OM(h:yn e=true)(env)(a):qB e env a=(do let v<-a;lJ e.pos;fw [v] (truthy v)):=by cases e<;>first|rfl|cases h
def QP(h:nQ e=true):vc e:=λo i=>by cases e<;>first|rfl|cases h
def pY(h:isName e=true):fV e m env (cq e env)=cq e env:=by cases e<;>first|rfl|cases h
def Gc(h:L7 o op=true):op=ZM o:=gN h
def rE{o}(h:L7 o op=true):behindInMarks op e=false:=by cases Gc h;cases o<;>exact TF e
def K3{op a}{e e'}{o p:Cm}(h':L7 p a=true):yU [op,a] [e,e']=false:=rE h'
end
section
variable {prog:Program}{w:World}{B:Around}{R:Zq->Shared->Prop}{J:aE}{fp wr:List aE}{cnt:Nat}{Pq:Nat->Value->Prop}{Sq:Nat->Heap->Prop}
def PY:(toString "max" ++toString ".loop" :String)="max.loop" :=by decide
def PN(kk)(W:Walks prog w B.in1 J fp wr cnt Pq Sq)(s)(hc:CmpOf prog w B.in1 .Gt Pq s)(L:aE)(Q:L∉fp):∀(k j:Nat) (z:Shared) (m:Value) (c:Nat),cnt -(j+1)=k->j+1<=cnt->Sq (j+1) z.heap->Pq (tU s j) m->z.heap.get? L=some {cls:=.type "list",dict:=none,data:=.seq #[m,m] c,slots:=#[]}->(∀v h' tk,Pq (tU s (cnt -1)) v->(∀b o,b∉wr->b≠L->z.heap.get? b=some o->h'.get? b=some o)->R (.ok (.ret v)) {z with heap:=h',toks:=tk})->iI (aT prog w) B (.builtin "max.loop" ⟨[.ref J,.none,.ref L],kk⟩) R z:=by have x:L∉wr:=λh=>Q (W.sub _ h);intro k;induction k with|zero=>intro j z m c hk hj st pb hz hR;have U:j+1=cnt:=by{omega};refine dR oC ?_;rw[dF ft _];show aK _ B.in1 (tV (.ref L)>>=_) _ _ z;refine ab (dB hz rfl ?_);show aK _ B.in1 (tryCatch (jk (.ref J)) _>>=_) _ _ z;refine ab (nA (W.done z _ _ (U▸st) λh' tk t=>?_));have i:=t L _ x hz;show aK _ B.in1 (Jf L (λ_=>#[])>>=_) _ _ _;refine ab (jI i rfl (ab (lM (aq ?_))));exact hR m _ tk (by rw[<-U];exact pb) λb o p r e=>(a9 _ _ (dQ r)).trans (t b o p e)|succ k ih=>intro j z m c hk hj st pb hz hR;have lt:j+1<cnt:=by{omega};refine dR oC ?_;rw[dF ft _];show aK _ B.in1 (tV (.ref L)>>=_) _ _ z;refine ab (dB hz rfl ?_);show aK _ B.in1 (tryCatch (jk (.ref J)) _>>=_) _ _ z;refine ab (nA (W.item (j+1) z _ _ lt st λv h' tk hP u t=>?_));have i:=t L _ x hz;show aK _ B.in1 (tryCatch (fw [v,v] (richCompare .Gt v m>>=_)) _>>=_) _ _ _;refine ab (nA (eX (ab (hc (j+1) (tU s j) v m _ _ _ hP pb ?_))));refine ab (eX (ef (ab (lM (aq ?_)))));cases Z:s (j+1) (tU s j) with|true=>dsimp;refine ab (jI i rfl (ab (lM ?_)));rw[PY];refine aq ⟨jw ft _,ih (j+1) _ v _ (by omega) lt (W.frame _ _ _ u λb bf o e=>?_) (by simp only[tU,Z,sG];exact hP) (d6 _ i rfl) λv2 N q p2 k2=>?_⟩;{exact(a9 _ _ (λh:L=b=>Q (by rw[h];exact bf))).trans e};.exact hR v2 N q p2 λb o p r e=>k2 b o p r ((a9 _ _ (dQ r)).trans (t b o p e))|false=>dsimp;refine ab (lM ?_);rw[PY];refine aq ⟨jw ft _,ih (j+1) _ m c (by omega) lt u (by simp only[tU,Z,jh,AG];exact pb) i λv2 N q p2 k2=>?_⟩;exact hR v2 N q p2 λb o p r e=>k2 b o p r (t b o p e)
def K7(n)(W:Walks prog w B.in1 J fp wr cnt Pq Sq)(bt)(hc:CmpOf prog w B.in1 .Gt Pq bt)(L)(g:L∉fp)(x:0<cnt){z}{c:Nat}(st:Sq 0 z.heap) (hz:z.heap.get? L=some {cls:=.type "list",dict:=none,data:=.seq #[] c,slots:=#[]}) (hR:∀v h' tk,Pq (tU bt (cnt -1)) v->(∀b o,b∉wr->b≠L->z.heap.get? b=some o->h'.get? b=some o)->R (.ok (.ret v)) {z with heap:=h',toks:=tk}):iI (aT prog w) B (.builtin "max.loop" ⟨[.ref J,.none,.ref L],n⟩) R z:=by have i:L∉wr:=λh=>g (W.sub _ h);refine dR oC ?_;rw[dF ft _];show aK _ B.in1 (tV (.ref L)>>=_) _ _ z;refine ab (dB hz rfl ?_);show aK _ B.in1 (tryCatch (jk (.ref J)) _>>=_) _ _ z;refine ab (nA (W.item 0 z _ _ x st λv h' tk N st' y=>?_));have f:=y L _ i hz;show aK _ B.in1 (Jf L (λ_=>#[v,v])>>=_) _ _ _;refine ab (jI f rfl ?_);rw[PY];refine aq ⟨jw ft _,PN n W bt hc L g _ 0 _ v _ rfl x (W.frame _ _ _ st' λb I o e=>?_) N (d6 _ f rfl) λH h2 j p2 C=>?_⟩;{exact(a9 _ _ (λh:L=b=>g (by rw[h];exact I))).trans e};.exact hR H h2 j p2 λb o bw bL e=>C b o bw bL ((a9 _ _ (dQ bL)).trans (y b o bw e))
def PB(W:Walks prog w B.in1 J fp wr 0 Pq Sq)(L)(n:L∉fp){z}{c}(st:Sq 0 z.heap) (hz:z.heap.get? L=some {cls:=.type "list",dict:=none,data:=.seq #[] c,slots:=#[]}) (l:∀h' tk,(∀b o,b∉wr->z.heap.get? b=some o->h'.get? b=some o)->R (.ok (.ret k)) {z with heap:=h',toks:=tk}):iI (aT prog w) B (.builtin "max.loop" ⟨[.ref J,.none,.ref L],[("default",k)]⟩) R z:=by refine dR oC ?_;rw[dF ft _];show aK _ B.in1 (tV (.ref L)>>=_) _ _ z;refine ab (dB hz rfl ?_);show aK _ B.in1 (tryCatch (jk (.ref J)) _>>=_) _ _ z;refine ab (nA (W.done z _ _ st λh' tk m=>?_));show aK _ B.in1 (GZ _>>=_) _ _ _;refine ab (nv (aq ?_));exact l h' tk m
theorem qO:∀ns:List Int,Se (ns.map D.int)=some ns|[]=>rfl|n::ns=>by rw[aX,Se,qO ns];rfl
def HA(a v):Jz "max" ⟨[a],[(aR "default",v)]⟩:=by unfold Jz;kernel_rfl
end
section
variable {prog:Program}{w:World}{A:Around}{E:Value->Shared->Prop}{s:Shared}{l:aE}{xs:Array (Int×Tok)}
def Oq{Q}(H:A.handled=none)(L:s.heap.IsList l (nu xs)) (I:xs.size=0->∀h' tk,(∀b o,s.heap.get? b=some o->h'.get? b=some o)->Q m {s with heap:=h',toks:=tk}) (J:0<xs.size->∀v h' tk,(nu xs)[tU (λi j=>decide (UN xs i>UN xs j)) (xs.size -1)]?=some v->(∀b o,s.heap.get? b=some o->h'.get? b=some o)->Q v {s with heap:=h',toks:=tk}):aK (aT prog w) A (call (.builtin "max") [.ref l] [(aR "default",m)]) Q E s:=by refine kmk_tree PySem.F.kind_max PySem.F.plain_max PySem.F.entry_max (HA _ _) ?_;show aK _ A.in1 (qj "max" ["key","default"] 0 ⟨[],[(aR "default",m)]⟩>>=_) _ _ s;refine ab (sS (show qj "max" ["key","default"] 0 ⟨[],[(aR "default",m)]⟩=pure [none,some m] from rfl) (ab (aq ?_)));refine ab (iter_intList L λP e st q x=>?_);subst e;refine ab (eh ?_);rw[PY];have W:=xw (prog:=prog) (w:=w) (A:=A.in1) H s.heap.objs.size l x (nu xs);have G:(s.heap.push {cls:=.type "list_iterator",data:=.fields #[.ref l,.int 0 0]}).objs.size∉[s.heap.objs.size,l]:=λO=>fI _ (q _ O);have N:∀b o,b∉[s.heap.objs.size]->(s.heap.push {cls:=.type "list_iterator",data:=.fields #[.ref l,.int 0 0]}).get? b=some o->b≠(s.heap.push {cls:=.type "list_iterator",data:=.fields #[.ref l,.int 0 0]}).objs.size:=λb o _ e=>a7 (aF e);refine aq ⟨jw ft _,?_⟩;have hsz:(nu xs).size=xs.size:=by{simp[nu]};rcases gX xs.size with y|B;{rw[hsz,y] at W;refine PB W _ G (W.frame _ _ _ st λb _ o e=>ae _ e) (ay _ rfl) λh' tk t=>I y h' tk (old_kept λb o p e=>t b o p (ae _ e))};.refine K7 _ W _ (CmpOf.ints_gt (UN xs) (λ_ _=>Aq)) _ G (by rw[hsz];exact B) (W.frame _ _ _ st λb _ o e=>ae _ e) (ay _ rfl) λv h' tk M t=>?_;exact J B v h' tk (by simpa[hsz] using M) (old_kept λb o p e=>t b o p (N b o p e) (ae _ e))
end
section
variable {a:Ad}{X:Cx}{ρ:Ev}{x y:Expr}{p pos kp kq:Pos}{ns:List Int}{n:Int}{j}
def tH{id}{e}{es}{a}{t tk}{r:L2.St->List V->List V->Hp->VK->Prop}(ks) (x:∀(π) (s) (σ:L2.St) (H) (vs c) (us i) (Q),IM X π σ H s->cu vs us->cu c i->r σ vs c H Q->aK (aT X.prog X.w) X.A (call (.builtin id) us (ks.zip i)) (EP X π σ Q) X.xe s) (U:Gl X g) (C:X.mg g=none) (B:iq g=some (.builtin id)) (y:PA X (e::es) t) (P:PK X a tk) (L:g≠"__name__") (k:qq9 g) (T:aH (e::es) X.env=(false,cq e X.env)::aH es X.env) (j:(dU pos (aH (e::es) X.env)).any (·.1)=false) (d:(gT pos (eA a X.env)).all (·.1.isSome)=true) (o:(gT pos (eA a X.env)).filterMap (·.1)=ks) (m:(gT pos (eA a X.env)).any (·.1.isNone)=false):PE X (.Call (.Name g p) (e::es) a pos) (λσ H Q=>t σ H λvs l=>tk σ l λc u=>r σ vs c u Q):=by intro π s σ H Q I h;refine gb (oQ I U C B ?_ L k);refine YG (fS (y pos π s σ H _ I h) λus v ⟨vs,l,N,M,J⟩=>fS (P pos π v σ l _ N J) λi R ⟨c,u,W,G,z⟩=>?_) (by show dU pos (aH (e::es) X.env)=_;rw[T];rfl) j d m;rw[o];exact x π R σ u vs c us i Q W M G z
def Pw(hg:Gl X "max")(G:X.mg "max" =none)(L:X.calm=true)(F:∀es,aH (x::es) X.env=(false,cq x X.env)::aH es X.env)(h:ED a X ρ x (.lst (ns.map .int))){d}(A:BD n (.lst (ns.map .int))=some d):ED a X ρ (.Call (.Name "max" p) [x] [⟨some "default",.Constant (.int n) j kq,kp⟩] pos) d:=λS H σ R Q q=>by refine dY (tH (id:="max") (r:=λ_ vs J H Q=>∃(l:aE) (ns:List Int),vs=[.ref l]/\J=[.int n]/\nj X.K H l (ns.map V.int)/\(ns=[]->Q (.int n) H)/\∀m,m∈ns->(∀y∈ns,y<=m)->Q (.int m) H) [aR "default"] ?_ hg G zv (fK b9 hF (F _)) (zS Ms ER) zv zv (F _) (by rw[F];rfl) rfl rfl rfl) (h S H σ R _ λv Z Y N M=>?_);{intro π s σ H vs J us ws Q I M r2 q;obtain⟨l,ns,rfl,rfl,F,q0,q1⟩:=q;obtain⟨its,T,hl,_⟩:=I.list F;rw[cu.qW M];obtain⟨u,rfl,ru⟩:=vals1 r2;obtain⟨xs,e⟩:=T.ints.allInts.items;have W:Zr (nu xs).toList=ns:=by{rw[<-e];exact T.ints.numsOf};rw[uY] at W;subst W;have C:=hl.isList;rw[e] at C;refine Oq (I.ok.hd L) C (λz0 h' tk B=>⟨.int n,H,I.kept B,ru,q0 (by rw[List.map_eq_nil_iff];exact c8 (by rw[br];exact z0))⟩) λzp v h' tk hv B=>?_;obtain⟨t,rfl⟩:=Aq hv;obtain⟨g1,g2⟩:=argBest_gt (UN xs) (xs.size -1);refine⟨.int _,H,I.kept B,⟨_,rfl⟩,q1 _ ?_ λy hy=>?_⟩;{rw[xu];exact ju (by rw[ak,br];omega)};.obtain⟨j,hj,rfl⟩:=C5 hy;rw[ak,br] at hj;rw[<-xu];exact g2 j (by omega)};.obtain⟨l,rfl,t1⟩:=Rp.ints M;have A:(match Se (ns.map D.int) with|some []=>some (.int n)|some (x::r)=>some (.int (most x r))|none=>none)=some d:=A;rw[qO] at A;refine⟨l,ns,rfl,rfl,Rd.xl (Rd.mono N.h t1),λe0=>?_,λm G B=>?_⟩;{subst e0;obtain rfl:=bA A;exact q _ Z Y N (.int _)};.cases ns with|nil=>cases G|cons z J=>obtain rfl:=bA A;rw[GN G B];exact q _ Z Y N (.int _)
end
theorem wy:∀{l},z∈tQ x l↔z=x\/z∈l|[]=>by simp[tQ]|y::r=>by dsimp only[tQ];split;{simp};.split;{next h=>subst h;simp};.rw[aD,wy];simp;constructor;{rintro(h|h|h)<;>simp[h]};.rintro(h|h|h)<;>simp[h]
theorem wL:∀{l},l.Pairwise (·<·)->(tQ x l).Pairwise (·<·)|[],_=>by simp[tQ]|y::r,h=>by obtain⟨i,n⟩:=a8.mp h;unfold tQ;split;{next m=>refine a8.mpr ⟨λz hz=>?_,h⟩;rcases aD.mp hz with rfl|hz;{exact m};.have:=i z hz;omega};.split;{exact h};.refine a8.mpr ⟨λz hz=>?_,wL n⟩;rcases wy.mp hz with rfl|hz;{lia};.exact i z hz
theorem o9:∀{l},z∈kg l↔z∈l|[]=>Iff.rfl|y::r=>by show z∈tQ y (kg r)↔_;rw[wy,o9,aD]
theorem ke:∀l:List Int,(kg l).Pairwise (·<·)|[]=>.nil|y::r=>wL (ke r)
def BE{l:List Int}(h:l.Pairwise (·<·)):l.Nodup:=h.imp λ{a b} h=>by lia
def tG{l ns:List Int}(a:l.Nodup)(h:∀z,z∈l↔z∈ns):l.Perm (kg ns):=(xW a (BE (ke ns))).mpr λz=>by rw[h,o9]
theorem Lw(b):∀i,(gY b i).Nodup/\∀z,z∈gY b i↔∃j,j<i/\b j=z|0=>⟨by rw[G6];exact .nil,λz=>by rw[G6];constructor;(intro h;cases h);(rintro⟨j,h,_⟩;simp_all)⟩|i+1=>by obtain⟨v,B⟩:=Lw b i;have A:=firstMet_any b (i+1);have p:∀z,z∈gY b (i+1)↔∃j,j<i+1/\b j=z:=λz=>by{have:=A z;rw[b0,eO,eO] at this;simp only[fQ,exists_eq_right,bg,gA] at this;exact this};refine⟨?_,p⟩;rw[firstMet_succ];unfold iY;split;{exact v};.next h=>rw[List.nodup_append];refine⟨v,by simp,λx w y t e=>h ?_⟩;rw[bB] at t;subst t;subst e;rw[eO];exact⟨_,w,by simp⟩
def Px:(gY (λi=>ns.getD i 0) ns.length).length=(kg ns).length:=by obtain⟨n,m⟩:=Lw (λi=>ns.getD i 0) ns.length;refine(tG n λz=>?_).length_eq;rw[m];constructor;{rintro⟨j,l,rfl⟩;exact ju l};.intro h;obtain⟨j,l,e⟩:=C5 h;exact⟨j,l,e⟩
section
variable {a:Ad}{X:Cx}{ρ:Ev}{x:Expr}{p p2 pos pos2:Pos}{ns:List Int}
def T1(t:X.calm=true):jc X (.type "set") (λvs H Q=>∃(l:aE) (ns:List Int),vs=[.ref l]/\nj X.K H l (ns.map V.int)/\ns.length<=4000/\∀p S,H p=none->Q (.ref p) (IZ H p (.set S (kg ns).length))):=by intro π s σ H vs us Q I r h;obtain⟨l,ns,rfl,w,hz,q⟩:=h;obtain⟨its,m,v,_⟩:=I.list w;rw[cu.qW r];have d:its.length=ns.length:=by{rw[<-m.length,ak]};have hsz:its.toArray.size=ns.length:=by{rw[bx,d]};refine call_set_list (I.ok.hd t) v.isList m.ints (by rw[hsz];show _<4096;lia) λh' tk k n=>?_;rw[hsz] at k;rw[Px] at k;exact⟨.ref _,_,I.laid (o:=.set _ (kg ns).length) (λb u e=>n b u (aF e) e) (aB _) k,rfl,q _ _ (I.fR.fresh (aB _))⟩
def Ho:jc X (.builtin "len") (λvs H Q=>∃(l:aE) (S:Int->Bool) (n:Nat),vs=[.ref l]/\H l=some (.set S n)/\Q (.int n) H):=by intro π s σ H vs us Q I r h;obtain⟨l,S,n,rfl,g,q⟩:=h;rw[cu.qW r];obtain⟨o,es,k,t,f,e,i,_,_,m,j,rfl⟩:=(show s.heap.SetOf (intKind X.prog X.w) l S n from I.fR l _ g);exact call_len_set f e i j (by have:nh=4096:=rfl;lia) ⟨.int _,H,I.tok _,⟨_,rfl⟩,q⟩
def Iv(t:X.calm=true)(s:Gl X "len")(m:X.mg "len" =none)(f:Gl X "set")(i:X.mg "set" =none)(j:∀es,aH (x::es) X.env=(false,cq x X.env)::aH es X.env)(h:ED a X ρ x (.lst (ns.map .int)))(hz:ns.length<=4000):ED a X ρ (.Call (.Name "len" p) [.Call (.Name "set" p2) [x] [] pos2] [] pos) (.int (kg ns).length):=λS H σ R Q q=>by refine dY (mX Ho s m zv (fK (qc (T1 t) f i zv (fK b9 hF (j _)) zv zv (j _) rfl) hF rfl) zv zv rfl rfl) (h S H σ R _ λv n u e o=>?_);obtain⟨l,rfl,t1⟩:=Rp.ints o;refine⟨l,ns,rfl,Rd.xl (Rd.mono e.h t1),hz,λr St k=>⟨r,St,_,rfl,bh,?_⟩⟩;exact q _ n _ (e.trans (EB.vU e.h k)) (.int _)
end
def Ie(h:AE x y=true)(k:AE y z=true):AE x z=true:=by unfold AE at*;simp only[dM,aa,aw] at*;lia
def HG(x y):AE x y=true\/AE y x=true:=by unfold AE;simp only[dM,aa,aw];lia
def MF(h:AE x y=true)(k:AE y x=true):x=y:=by unfold AE at*;simp only[dM,aa,aw] at*;obtain⟨a,b⟩:=x;obtain⟨c,d⟩:=y;simp only at*;rw[Prod.mk.injEq];lia
theorem tf(x):∀l:List (Int×Int),(EZ x l).Perm (x::l)|[]=>.refl _|y::r=>by dsimp only[EZ];split;{exact .refl _};.exact((tf x r).cons y).trans (.swap x y r)
theorem vR:∀l:List (Int×Int),(su l).Perm l|[]=>.refl _|y::r=>(tf y (su r)).trans ((vR r).cons y)
theorem uw:∀{l},l.Pairwise (λa b=>AE a b=true)->(EZ x l).Pairwise (λa b=>AE a b=true)|[],_=>by simp[EZ]|y::r,h=>by obtain⟨m,o⟩:=a8.mp h;unfold EZ;split;{next j=>refine a8.mpr ⟨λz hz=>?_,h⟩;rcases aD.mp hz with rfl|hz;{exact j};.exact Ie j (m z hz)};.next j=>refine a8.mpr ⟨λz hz=>?_,uw o⟩;rcases aD.mp ((tf x r).mem_iff.mp hz) with rfl|hz;{exact(HG y z).resolve_right j};.exact m z hz
theorem rN:∀l:List (Int×Int),(su l).Pairwise (λa b=>AE a b=true)|[]=>.nil|y::r=>uw (rN r)
def Bx(h:l.Perm r)(s:l.Pairwise (λa b=>AE a b=true)):l=su r:=(h.trans (vR r).symm).eq_of_pairwise (λa b _ _ h k=>MF h k) s (rN r)
abbrev NM:Nat->Bool:=λ_=>false
class inductive PT(h:Heap):List Value->List (Int×Int)->Prop
 |nil:PT h [] []
 |cons {t:aE} {o:Obj} {i j:Int} {t1 t2:Tok} {n:Nat} {us:List Value} {r:List (Int×Int)}:h.get? t=some o->o.cls=.type "tuple" ->o.data=.seq #[.int i t1,.int j t2] n->PT h us r->PT h (.ref t::us) ((i,j)::r)
def jB(h:Heap)(u:Value):Int×Int:=match sC h NM u with|some [.inl i,.inl j]=>(i,j)|_=>(0,0)
theorem QQ:∀{us} {r},PT h us r->(∃g,TupsOf h NM us g)/\(∀u∈us,sC h NM u=some [.inl (jB h u).1,.inl (jB h u).2])/\us.map (jB h)=r|_,_,.nil=>⟨⟨[],.nil⟩,λ_ z=>(by cases z),rfl⟩|_,_,.cons (t:=t) (i:=i) (j:=j) (t1:=t1) (t2:=t2) o n q rest=>by obtain⟨⟨g,v⟩,w,s⟩:=QQ rest;have k:sC h NM (.ref t)=some [.inl i,.inl j]:=Zz o n q rfl;have p:jB h (.ref t)=(i,j):=by{unfold jB;rw[k]};refine⟨⟨.int i t1::g,.cons ⟨t,_,_,_,rfl,o,n,q,rfl,λ_=>⟨i,t1,rfl⟩,λz=>by cases z⟩ v⟩,λu l=>?_,by rw[aX,p,s]⟩;rcases aD.mp l with rfl|l;{rw[p];exact k};.exact w u l
def A5{vs}{a}(O:∀u∈vs,sC h NM u=some [.inl (jB h u).1,.inl (jB h u).2])(J:a.Perm (pairsOf vs))(M:SortedToK (G.tupKindC h NM) a (pairsOf vs).size):(a.toList.map (·.2)).Perm vs/\(a.toList.map (·.2)).map (jB h)=su (vs.map (jB h)):=by have C:a.toList.Perm (vs.zip vs):=by{have e:=Array.perm_iff_toList_perm.mp J;rw[pairsOf_toList] at e;exact e};have p2:(a.toList.map (·.2)).Perm vs:=by{have:=C.map (·.2);rw[List.map_snd_zip (aB _)] at this;exact this};have r:∀p∈a.toList,p.1=p.2/\p.2∈vs:=λp z=>by{have l:=C.mem_iff.mp z;obtain⟨e,A⟩:=mem_zip_self l;exact⟨e,e▸A⟩};refine⟨p2,Bx (p2.map (jB h)) ?_⟩;rw[aV,mK,iQ];intro i j hi H v;have hsz:a.size=(pairsOf vs).size:=J.size_eq;have q:=M i j (eU v) (by rw[<-hsz,<-br];exact H);have F:∀(m:Nat) (l:m<a.toList.length),KK (G.tupKindC h NM) a m=[.inl (jB h a.toList[m].2).1,.inl (jB h a.toList[m].2).2]:=λm l=>by{obtain⟨P,L⟩:=r _ (nV l);unfold KK;have N:a[m]?=some a.toList[m]:=by{rw[<-fM];exact ai l};rw[N];show(sC h NM a.toList[m].1).getD _=_;rw[P,O _ L];rfl};rw[F i hi,F j H] at q;have I:lexLt itemOrd [.inl (jB h a.toList[j].2).1,.inl (jB h a.toList[j].2).2] [.inl (jB h a.toList[i].2).1,.inl (jB h a.toList[i].2).2]=false:=q;show AE (jB h a.toList[i].2) (jB h a.toList[j].2)=true;generalize jB h a.toList[i].2=x at*;generalize jB h a.toList[j].2=y at*;rw[lex_false] at I;obtain⟨s,g⟩:=I;have s:decide (y.1<x.1)=false:=s;rw[QA] at s;unfold AE;simp only[dM,aa,aw];rcases g with g|g;{have g:decide (x.1<y.1)=true:=g;exact .inl (gN g)};.rw[lex_false] at g;have g:decide (y.2<x.2)=false:=g.1;rw[QA] at g;lia
def Vu:Value->V|.ref t=>.ref t|_=>.ie
section
variable {a:Ad}{X:Cx}{ρ:Ev}{x:Expr}{p pos:Pos}
theorem bN.Q5{K}{fa}{S}{f}{g}:∀{us:List Value},(∀u∈us,Rp K fa S (f u) (g u))->bN K fa S (us.map f) (us.map g)|[],_=>.nil|u::us,h=>.cons (h u ag) (bN.Q5 λz hz=>h z (af _ hz))
theorem Kc{K}{fa}{S}:∀{r} {xs},bN K fa S xs (r.map λp=>D.tup [.int p.1,.int p.2])->∀{π s σ H},X.K=K->eY S H->IM X π σ H s->∀{us},cu xs us->PT s.heap us r/\∀u∈us,Rp K fa S (Vu u) (.tup [.int (jB s.heap u).1,.int (jB s.heap u).2])/\Sk (Vu u) u|[],_,.nil,π,s,σ,H,_,_,I,us,l=>by cases l;exact⟨.nil,λu z=>by cases z⟩|(i,j)::r,_,.cons v U,π,s,σ,H,T,e,I,us,l=>by subst T;cases l with|cons R Q=>obtain⟨F,B⟩:=Kc U rfl e I Q;have h:=v;obtain⟨_,_,rfl,O,L⟩:=zq3 v;obtain⟨Z,y2,rfl,M,P⟩:=L.e2;obtain rfl:=xj9 M;cases P;subst R;obtain⟨its,w,⟨o,y,A,n,x⟩,_⟩:=I.tuple (qR.mono e O);obtain⟨Y,w2,rfl,N,C⟩:=vals2 w;obtain⟨t1,rfl⟩:=N;obtain⟨t2,rfl⟩:=C;refine⟨.cons y A x F,λu q=>?_⟩;rcases aD.mp q with rfl|q;{have k:sC s.heap NM (.ref _)=some [.inl i,.inl j]:=Zz y A x rfl;unfold jB;rw[k];exact⟨h,rfl⟩};.exact B u q
theorem yq:∀{us},(∀u∈us,Sk (f u) u)->cu (us.map f) us|[],_=>.nil|u::us,h=>.cons (h u ag) (yq λz hz=>h z (af _ hz))
def KJ:jc X (.builtin "sorted") (λvs H Q=>∃(l:aE) (xs:List V) (S:Hp) (r:List (Int×Int)),vs=[.ref l]/\nj X.K H l xs/\eY S H/\bN X.K a.fa S xs (r.map λp=>D.tup [.int p.1,.int p.2])/\∀p ys,H p=none->bN X.K a.fa S ys ((su r).map λp=>D.tup [.int p.1,.int p.2])->Q (.ref p) (IZ H p (.lst ys))):=by intro π s σ H vs us Q I r h;obtain⟨l,xs,S,ps,rfl,L,e,R,q⟩:=h;obtain⟨its,A,M,hz⟩:=I.list L;rw[cu.qW r];obtain⟨N,x⟩:=Kc R rfl e I A;obtain⟨⟨W,U⟩,y,C⟩:=QQ N;have m:its.length=xs.length:=A.length.symm;refine G.sorted_tups M.isList U (λv P=>⟨_,y v P⟩) (by rw[m];exact hz) λc T J _=>?_;obtain⟨p2,es⟩:=A5 y T J;obtain⟨F,O⟩:=YH s.heap its ((UX c).map (·.2));rw[C] at es;have B:((UX c).map (·.2)).toList=(UX c).toList.map (·.2):=by{simp};have n:∀u∈(UX c).toList.map (·.2),Rp X.K a.fa S (Vu u) (.tup [.int (jB s.heap u).1,.int (jB s.heap u).2])/\Sk (Vu u) u:=λu t=>x u (p2.mem_iff.mp t);refine⟨.ref _,IZ H (s.heap.objs.size+1) (.lst (((UX c).toList.map (·.2)).map Vu)),I.laid (t':=s.toks) (λ_ _=>YI) (m8 _) ⟨?_,_,F,yq λu t=>(n u t).2,?_⟩,rfl,q _ _ (I.fR.fresh (m8 _)) ?_⟩;{rw[ak,p2.length_eq,m];exact hz};{rw[O,<-B]};.have:=bN.Q5 (f:=Vu) (g:=λu=>D.tup [.int (jB s.heap u).1,.int (jB s.heap u).2]) λu t=>(n u t).1;rw[<-es];generalize (UX c).toList.map (·.2)=Y at*;rw[aV (f:=jB s.heap)];exact this
theorem Bj:∀{l} {r},wC l=some r->l=r.map λp=>D.tup [.int p.1,.int p.2]|[],r,h=>by cases h;rfl|d::l,r,h=>jq9 d h λx h=>jx0 x h λx y h=>jq8 x h λi h=>jq8 y h λj h=>by rw[et] at h;obtain⟨s,g,rfl⟩:=h;rw[Bj g];rfl
def Kz(B:Gl X "sorted")(y:X.mg "sorted" =none)(o:∀es,aH (x::es) X.env=(false,cq x X.env)::aH es X.env){s d}(h:ED a X ρ x s)(g:Du s=some d):ED a X ρ (.Call (.Name "sorted" p) [x] [] pos) d:=λS H σ R Q q=>by unfold Du at g;(split at g<;>try cases g);rename_i l;(split at g<;>try cases g);rename_i r t;split at g<;>cases g;rw[Bj t] at h;refine dY (mX (KJ (a:=a)) B y zv (fK b9 hF (o _)) zv zv (o _) rfl) (h S H σ R _ λv C I i u=>?_);obtain⟨_,_,rfl,z,F⟩:=zq2 u;exact⟨_,_,C,r,rfl,Rd.xl (Rd.mono i.h z),i.h,F,λp ys n w=>q _ _ _ (i.trans (EB.new i.h n)) (.lst (.inl bh) (w.up (gO (EB.free i.h n))))⟩
end
section
variable {prog:Program}{w:World}{A:Around}{s:Shared}{name qual:Str}{params:Arguments}{body:Expr}{scope:Scope}{cl:List (Str×aE)}{pm ctv:Value}{c' q:aE}{v:Value}{x:Str}{Q:Value->Shared->Prop}
abbrev JV(qual:Str)(scope:Scope)(L q c':aE)(cl:List (Str×aE)):Env:=PySem.W.envX qual scope L q (.ref c') cl
def Gu(f:A.depth<CY)(B:s.heap.get? q=some (iU name qual params body scope cl pm c' ctv))(p:s.heap.CodeRec (.ref c') qual)(m:s.heap.NoLimit) (d:xr (vn name qual params body scope cl pm (.ref c') ctv) ⟨[v],[]⟩=pure [(x,v)]) (F:scope.names.lookup x=some .local) (i:∀y∈scope.names,y.2≠.cell) (l:scope.isCoroutine=false) (k:scope.isGenerator=false) (H:scope.kind=.function) (h:∀(j) (tk),(∀b o,s.heap.get? b=some o->j.get? b=some o)->j.Ns s.heap.objs.size (λy=>[(x,v)].reverse.lookup y)->aK (aT prog w) (A.deeper (JV qual scope s.heap.objs.size q c' cl)) (cq body (JV qual scope s.heap.objs.size q c' cl)) Q (λ_ _=>False) {s with heap:=j,toks:=tk}):aK (aT prog w) A (call (.ref q) [v]) Q (λ_ _=>False) s:=by refine CZ (PySem.W.kla_callFunE f B rfl l k rfl p ?_);rw[d];refine aq (wpAny_newFunctionEnv i (λy r=>?_) (λj ns z=>⟨m.fresh _ z,?_⟩) H);{rw[bB] at r;subst r;exact F};have C:∀b o,s.heap.get? b=some o->j.get? b=some o:=λb o e=>z.extBut b o (a7 (aF e)) (ae _ e);show iI _ _ (.expr body (JV qual scope s.heap.objs.size q c' cl)) _ _;exact PySem.W.kla_codeExpr (fB (h j _ C ns) (λv J I=>I) λ_ _ y=>y.elim)
def PF{L l c}{its:List Value}{i}{t}{u}(j:scope.kind=.function)(m:scope.names.lookup d=some .free)(r:scope.names.lookup x=some .local)(n:cl.lookup d=some c) (a:s.heap.IsCell c (some (.ref l))) (p:s.heap.IsList l its.toArray) (k:0<=i) (B:i<2^63) (z:its[i.toNat]?=some u) (ns:s.heap.Ns L (λy=>[(x,Value.int i t)].reverse.lookup y)) (d1:qq9 d) (d2:xj8 d) (o:qq9 x) (h:Q u s):aK (aT prog w) A (cq (.Subscript (.Name d F) (.Name x p2) C) (JV qual scope L q c' cl)) Q (λ_ _=>False) s:=by refine vk (qC (Qw j m n a (qC (sO (v:=.int i t) j r ns ?_ ?_) o) d2) d1);{show qp x [(x,Value.int i t)]=_;simp};.exact item_listR p k B (by simpa using z) h rfl
def P2{L l}{its:List Value}{i}{j}{k}{u}(p:scope.kind=.function)(n:scope.names.lookup x=some .local) (g:IsTup s.heap l its.toArray) (C:0<=i) (H:i<2^63) (o:VF i its.length=some j) (m:its[j]?=some u) (ns:s.heap.Ns L (λy=>[(x,Value.ref l)].reverse.lookup y)) (t:qq9 x) (h:∀tk,Q u {s with toks:=tk}):aK (aT prog w) A (cq (.Subscript (.Name x G) (.Constant (.int i) k p2) F) (JV qual scope L q c' cl)) Q (λ_ _=>False) s:=by refine vk (qC (sO p n ns (v:=.ref l) ?_ ?_) t);{show qp x [(x,Value.ref l)]=_;simp};.refine Rv ?_;exact qF (x:=u) g.typeIs RB.lookup (getItem_tuple (j:=j) (Q:=λr z=>r=u/\Q r z) g (by lia) (by omega) (by rw[bx];exact o) (by simpa using m) ⟨rfl,h _⟩) rfl
def Io{E}{Q}{r}{a b c}{t u v}{n:Nat}(F:A.handled=none)(C:IsRange s.heap r a b c t u v)(f:jF a b c=true) (B:dW a b c=n) (l:n<=2^24) (h:∀h' tk acc,s.heap.objs.size<h'.objs.size->(∀b o,s.heap.get? b=some o->h'.get? b=some o)->UY (λi v=>∃t,v=.int (a+i*c) t) acc n->Q acc.toList {s with heap:=h',toks:=tk}):aK (aT prog w) A (UZ (.ref r)) Q E s:=by unfold UZ;refine ab (C8 (dR Np ?_));show aK _ _ (do An (.builtin "list.__iadd__" ⟨[<-UP [],.ref r],[]⟩)) _ _ s;refine ab (u1 (aq ⟨sD _ zv,dR VL ?_⟩));rw[dF (id:="list.__iadd__") zv _];show aK _ A.in1 (gD (.ref s.heap.objs.size) (.ref r) (.ref s.heap.objs.size)) _ _ {s with heap:=s.heap.push (kv "list" #[] 0)};refine wpAny_extend_range (R:=λr x=>match r with|.ok (.ret v)=>aK (aT prog w) A (match v with|.ref a=>(do let o<-load a;match o.data with|.seq xs _=>pure xs.toList|_=>oz "internal:collect")|_=>oz "internal:collect") Q E x|.ok _=>False|.error e=>E e x) (s:={s with heap:=s.heap.push (kv "list" #[] 0)}) F (ae _ C) f B l s.heap.objs.size (.ref s.heap.objs.size) 0 (ay _ rfl) λh' tk acc G z y k=>?_;refine ab (Rx y (aq ?_));exact h h' tk acc (aF y) (λb o e=>z b o (a7 (aF e)) (ae _ e)) k
end
structure JY(a:Ad)(X:Cx)(q:aE×Pos×Str):Prop where
 mem:q∈a.tabs
 ex:∃c,X.env.code=.ref c/\jO X.K c q.1=true
 bb:X.base.BuiltinsAt X.mg q.1
 ql:X.env.qual++"<lambda>" =q.2.2
 gp:cD≠q.1
 nd:(a.tabs.map (·.1)).Nodup
section
variable {a:Ad}{X:Cx}{ρ:Ev}{q:aE×Pos×Str}{params:Arguments}{body:Expr}{lsc:Scope}{clos:List (Str×aE)}
abbrev fnX(a:Str)(params:Arguments)(body:Expr)(lsc:Scope)(clos:List (Str×aE))(e p:aE):HO:=.ext λh=>∃d b,h.get? p=some (iU "<lambda>" a params body lsc clos d e b)
abbrev M7(a:Str)(b:aE):HO:=.ext λh=>h.CodeRec (.ref b) a
def JL{a}{f p}{d b}(e:h.get? p=some (iU "<lambda>" a params body lsc clos d f b)):gB P w H h p (fnX a params body lsc clos f p):=⟨⟨d,b,e⟩,⟨_,e⟩,λg i ⟨x,y,z⟩ k=>⟨x,y,k _ z⟩⟩
def SU{i}(e:h.CodeRec (.ref i) f):gB P w H h i (M7 f i):=by refine⟨e,?_,λn p z k=>?_⟩;{obtain⟨c,o,vs,t,l,j,_⟩:=e;cases l;exact⟨o,j⟩};.obtain⟨c,o,vs,t,l,j,m⟩:=z;cases l;exact⟨i,o,vs,t,rfl,k _ j,m⟩
def IQ{S H}{q}{k p}{o}(P:(a.tabs.map (·.1)).Nodup)(I:jz a S H)(F:q∈a.tabs)(B:H q.1=some (.rf #[]))(N:H k=none)(L:H p=none)(A:k≠p)(T:qx o=false):jz a S (IZ (IZ (IZ H q.1 (.rf #[cg q.2.1.line,cg q.2.1.col,.ref k])) k (M7 q.2.2 k)) p o):=by have y:∀{b u},H b=some u->b≠q.1->IZ (IZ (IZ H q.1 (.rf #[cg q.2.1.line,cg q.2.1.col,.ref k])) k (M7 q.2.2 k)) p o b=some u:=λ{b u} h R=>by{rw[aS (aY h L),aS (aY h N),aS R];exact h};have O:IZ (IZ (IZ H q.1 (.rf #[cg q.2.1.line,cg q.2.1.col,.ref k])) k (M7 q.2.2 k)) p o q.1=some (.rf #[cg q.2.1.line,cg q.2.1.col,.ref k]):=by{rw[aS (aY B L),aS (aY B N),bh]};refine⟨λr M=>?_,λb ps h=>?_⟩;{obtain⟨Q,x⟩:=I.at_ r M;refine⟨Q,?_⟩;by_cases t:r.1=q.1;{have U:r=q:=by{obtain⟨i,hi,rfl⟩:=dj M;obtain⟨j,W,rfl⟩:=dj F;have:i=j:=by{have v:(a.tabs.map (·.1))[i]'(by simpa using hi)=(a.tabs.map (·.1))[j]'(by simpa using W):=by{simpa using t};have J:=iQ.mp P;rcases Nat.lt_trichotomy i j with z|z|z;{exact absurd v (J i j _ _ z)};{exact z};.exact absurd v.symm (J j i _ _ z)};subst this;rfl};subst U;exact .inr ⟨k,O,by rw[aS A,bh]⟩};.rcases x with x|⟨X,x,v⟩;{exact .inl (y x t)};.refine .inr ⟨X,y x t,y v λz=>?_⟩;rw[z,B] at v;cases v};.by_cases C:b=p;{rw[C,bh] at h;obtain rfl:=bA h;cases T};.rw[aS C] at h;by_cases G:b=k;{rw[G,bh] at h;cases h};.rw[aS G] at h;by_cases w:b=q.1;{exact⟨q,F,w.symm⟩};.rw[aS w] at h;exact I.all b ps h
def Ll(L:JY a X q)(hdef:defaultsOf params X.env=([],[]))(hcl:vm lsc X.env=pure clos){S H}{σ}(R:jt X.K a ρ S H σ){Q} (k:∀p l H',EB a S H S H'->H' p=some (fnX q.2.2 params body lsc clos l p)->H' l=some (M7 q.2.2 l)->Q (.ref p) H'):WE X (.Lambda params body lsc q.2.1) σ H Q:=by intro π s I;obtain⟨c,x,hhd⟩:=L.ex;have C:PySem.W.CodeHd s.heap c q.1:=CF I.Ae hhd;have hg:s.heap.Ns cD X.mg:=by{obtain⟨o,es,ep,e,r⟩:=I.mod.glob;exact⟨o,es,ep,I.bk _ _ e,r⟩};refine PySem.W.kla_eval hdef ?_;rw[L.ql];obtain⟨nS,h1⟩:=R.tab.at_ q L.mem;rcases h1 with A|⟨l,A,Z⟩;{have hP:s.heap.get? q.1=some (oD #[]):=I.fR q.1 _ A;refine PySem.W.kla_makeFunction hcl I.ok.glob hg x C hP trivial rfl L.gp (L.bb.keeps I.bk) λl ctv h' tk ext Y g2 rec hP'=>?_;have k1:∀b o,b≠q.1->s.heap.get? b=some o->(h'.push (iU "<lambda>" q.2.2 params body lsc clos ((X.mg "__name__").getD .none) l ctv)).get? b=some o:=λb o F e=>ae _ (ext b o F e);have hp1:s.heap.objs.size<=h'.objs.size:=aM Y (eU g2);have nc:H l=none:=I.fR.fresh Y;have U:H h'.objs.size=none:=I.fR.fresh hp1;have ncp:l≠h'.objs.size:=a7 g2;have eP:IZ (IZ (IZ H q.1 (.rf #[cg q.2.1.line,cg q.2.1.col,.ref l])) l (M7 q.2.2 l)) h'.objs.size (fnX q.2.2 params body lsc clos l h'.objs.size) q.1=some (.rf #[cg q.2.1.line,cg q.2.1.col,.ref l]):=by{rw[aS (aY A U),aS (aY A nc),bh]};have N:∀{b u},H b=some u->b≠q.1->IZ (IZ (IZ H q.1 (.rf #[cg q.2.1.line,cg q.2.1.col,.ref l])) l (M7 q.2.2 l)) h'.objs.size (fnX q.2.2 params body lsc clos l h'.objs.size) b=some u:=λ{b u} h F=>by{rw[aS (aY h U),aS (aY h nc),aS F];exact h};have t:∀{b u},H b=some u->qx u=false->b≠q.1:=λ{b u} h hu z=>by{rw[z,A] at h;obtain rfl:=bA h;cases hu};refine⟨.ref h'.objs.size,_,I.un (H':=IZ (IZ (IZ H q.1 (.rf #[cg q.2.1.line,cg q.2.1.col,.ref l])) l (M7 q.2.2 l)) h'.objs.size (fnX q.2.2 params body lsc clos l h'.objs.size)) ⟨λb o e n _ _=>k1 b o (λz=>by rw[z,A] at n;cases n) e,λb o e n _ _=>⟨o.slots,k1 b o (λz=>by rw[z,A] at n;cases n) e⟩,λb o e n _=>?_,λb o e _=>?_,λb xs e=>N e (t e rfl),λb o u e=>N e (t e rfl),λb ps e=>?_⟩ ?_,rfl,k _ l _ ?_ bh (by rw[aS ncp,bh])⟩;{have hlt:=aF e;have J:b≠h'.objs.size:=a7 (aJ hlt hp1);have M:b≠l:=a7 (aJ hlt Y);rw[aS J,aS M,aS (λz=>by rw[z,A] at n;cases n)];exact n};{by_cases F:b=q.1;{rw[F];exact⟨_,ae _ hP'⟩};.exact⟨o,k1 b o F e⟩};{by_cases F:b=q.1;{rw[F,A] at e;cases e;rw[F,eP];exact⟨#[cg q.2.1.line,cg q.2.1.col,.ref l],by rfl⟩};.exact⟨#[],by rw[N e F];rfl⟩};{intro b u e;by_cases J:b=h'.objs.size;{subst J;rw[bh] at e;obtain rfl:=bA e;exact JL (ay _ rfl)};.rw[aS J] at e;by_cases M:b=l;{subst M;rw[bh] at e;cases e;exact SU (rec.push _)};.rw[aS M] at e;by_cases O:b=q.1;{subst O;rw[bh] at e;obtain rfl:=bA e;show(h'.push _).get? q.1=some _;rw[ae _ hP'];rfl};.rw[aS O] at e;refine(I.fR b u e).wR (λz v hz P=>k1 z v ?_ P) (λz P=>N P (t P rfl)) λz xs P=>N P (t P rfl);rcases hz with rfl|hz;{exact O};.exact t hz rfl};.refine⟨λ_ _ h=>h,λb u h=>?_,λb u n h hu=>⟨N h (t h hu),n⟩,λtb=>IQ L.nd tb L.mem A nc U ncp rfl⟩;exact N (R.sub b u h) λz=>by rw[z,nS] at h;cases h};.have hP:s.heap.get? q.1=some (oD #[cg q.2.1.line,cg q.2.1.col,.ref l]):=I.fR q.1 _ A;refine PySem.W.kla_makeFunctionHit hcl I.ok.glob hg x C hP (cv:=.ref l) trivial (by simp[codeAmong,cg]) (L.bb.keeps I.bk) λctv h' tk kp Y=>?_;have U:H h'.objs.size=none:=I.fR.fresh Y;refine⟨.ref h'.objs.size,_,I.laid (o:=fnX q.2.2 params body lsc clos l h'.objs.size) (λb u e=>ae _ (kp b u e)) Y (JL (ay _ rfl)),rfl,k _ l _ (EB.vU R.sub U) bh ?_⟩;rw[aS (aY Z U)];exact Z
end
theorem ux(f)(x)(c):∀l:List Nat,(oM f x l).filter (λz=>f z==c)=(x::l).filter (λz=>f z==c)|[]=>rfl|y::r=>by dsimp only[oM];by_cases h:f y<f x;{rw[au h,bU,ux f x c r,bU,bU,bU];grind};lia
theorem AM(f)(x):∀(l) (z),z∈oM f x l->z=x\/z∈l|[],z,h=>by have:z=x:=by{simpa[oM] using h};simp_all|y::r,z,h=>by unfold oM at h;by_cases q:f y<f x;{rw[au q] at h;rcases aD.mp h with e|e;{grind};.rcases AM f x r z e with e|e;{exact .inl e};.simp_all};simp_all
theorem GC(f)(x):∀l:List Nat,l.Pairwise (λa b=>f a<=f b)->(oM f x l).Pairwise (λa b=>f a<=f b)|[],_=>by simp[oM]|y::r,h=>by obtain⟨p,o⟩:=a8.mp h;unfold oM;by_cases q:f y<f x;{rw[au q];refine a8.mpr ⟨λz hz=>?_,GC f x r o⟩;rcases AM f x r z hz with e|e;{lia};simp_all};.rw[ax q];refine a8.mpr ⟨λz hz=>?_,h⟩;grind
theorem vP(f):∀l:List Nat,(l9 f l).Pairwise (λa b=>f a<=f b)|[]=>.nil|x::l=>GC f x _ (vP f l)
theorem kU(f)(c):∀l:List Nat,(l9 f l).filter (λz=>f z==c)=l.filter (λz=>f z==c)|[]=>rfl|x::l=>by show(oM f x (l9 f l)).filter _=_;rw[ux,bU,bU,kU f c l]
def JM{l r}(d:r.Pairwise (λa b=>f a<=f b))(e:∀c:Int,r.filter (λz=>f z==c)=l.filter (λz=>f z==c)):r=l9 f l:=CM.mB d (vP f l) λc=>by rw[e c,kU]
section
variable {prog:Program}{w:World}{A:Around}{E:Value->Shared->Prop}{s:Shared}{g0:Heap}{L:aE}{m:Str->Option Value}{nw:List (aE×Obj)}{Q:Value->Shared->Prop}
def Hb{b}{t u v}{n:Nat}{kz}(hh:A.handled=none)(F:Fr g0 L s.heap m)(N:Zn g0 L s.heap nw)(hr:IsRange s.heap r 0 b 1 t u v)(hsm:jF 0 b 1=true) (hn:dW 0 b 1=n) (hlen:n<=2^20) (T:kz.length=n) (Y:∀(i:Nat) (t:Tok) (k:Int),i<n->kz[i]?=some k->∀(h) (tk:Nat) (own:List (aE×Obj)),Fr g0 L h m->Zn g0 L h (nw++own)->aK (aT prog w) A.in1.in1 (call (.ref q) [.int (i:Nat) t]) (KskEnd g0 L m (nw++own) k {s with heap:=h,toks:=tk}) (λ_ _=>False) {s with heap:=h,toks:=tk}) (h:∀vs D h' tk out c,UY (λi v=>∃t,v=.int (0+i*1) t) vs n->Fr g0 L h' m->Zn g0 L h' ((D,kv "list" out c)::nw)->(∀p∈nw,p.1<D)->KskOutSt false kz vs.toList out.toList->Q (.ref D) {s with heap:=h',toks:=tk}):aK (aT prog w) A (call (.builtin "sorted") [.ref r] [(aR "key",.ref q)]) Q E s:=by refine call_function_entry_kw kind_sorted plain_sorted entry_sorted (ksk_s1 _ _) ?_;unfold jG.«sorted»;refine ab (m:=checkCount "sorted" 1 1 _) (aq (ab (Io hh hr hsm hn (aM hlen JN) λh2 tk2 acc hsz kp hacc=>?_)));have C:n<=aG:=aM hlen JN;have z:acc.toList.length=n:=by{rw[br,hacc.1]};refine ab (u1 ?_ (by rw[z];exact C));have hoL:(h2.push (kv "list" acc.toList.toArray 0)).get? h2.objs.size=some (kv "list" acc.toList.toArray 0):=ay _ rfl;have keep:∀b o,s.heap.get? b=some o->(h2.push (kv "list" acc.toList.toArray 0)).get? b=some o:=λb o e=>ae _ (kp b o e);have Z:L<s.heap.objs.size:=F.ns.lt;refine ab (eX (wpAny_call_entry_kw ZA ⟨_,hoL,rfl⟩ YJ ?body (ksk_l1 _ _)));show aK (aT prog w) A.in1.in1 (jG.«list.sort» ⟨[.ref h2.objs.size],[(aR "key",.ref q)]⟩) _ _ _;rw[ksk_t1];refine ksk_sortSt (kz:=kz) (vs:=acc.toList) (F.kept keep) (N.grown keep) hoL (gS (gi Z hsz)) (E5 (aM F.above (eU (gi Z hsz)))) (λp U=>a7 (gi (aF (N p U).1) hsz)) (by rw[T,z]) (by rw[z];exact C) (λi x k hx hk X B own F3 W=>?_) λX B out c F3 W ko=>⟨_,rfl,?_⟩;{have hx':acc[i]?=some x:=by{rw[<-fM];exact hx};obtain⟨t,rfl⟩:=hacc.2 i x hx';grind};.exact aq ⟨_,rfl,h acc _ X B out c hacc F3 W (λp U=>gi (aF (N p U).1) hsz) ko⟩
end
def _root_.L2.gB.there{P:Program}{w:World}{H:Hp}{h:Heap}{a:aE}:∀{o:HO},gB P w H h a o->∃u,h.get? a=some u:=by
 intro o
 induction o with
 |lst xs=>rintro⟨_,_,_,_,e⟩;exact⟨_,e⟩
 |tup xs=>rintro⟨_,_,_,ob,e,_⟩;exact⟨_,e⟩
 |dK kvs=>rintro⟨_,_,_,_,ob,_,_,e,_⟩;exact⟨_,e⟩
 |dT kvs=>rintro⟨_,_,_,_,ob,_,_,e,_⟩;exact⟨_,e⟩
 |set S n=>rintro⟨ob,_,_,_,e,_⟩;exact⟨_,e⟩
 |ins C dx fs=>rintro⟨_,_,_,e,_⟩;exact⟨_,e⟩
 |own y=>rintro⟨_,e⟩;exact⟨_,e⟩
 |xd fs=>rintro⟨_,⟨_,_,_,e,_⟩,_⟩;exact⟨_,e⟩
 |Q9 lo hi=>rintro⟨_,_,_,e⟩;exact⟨_,e⟩
 |yH ob u ih=>rintro⟨e,_⟩;exact⟨_,e⟩
 |rf ps=>intro e;exact⟨_,(show h.get? a=some _ from e)⟩
 |met f y=>intro e;exact⟨_,(show h.get? a=some _ from e)⟩
 |ext φ=>rintro⟨_,⟨u,e⟩,_⟩;exact⟨u,e⟩
section
variable {X:Cx}{π:List (aE×Obj)}{σ:L2.St}{H:Hp}{s:Shared}{m:Str->Option Value}
def pq(I:IM X π σ H s)(F:Fr X.base X.env.locals h' m)(N:Zn X.base X.env.locals h' (nO X.base s.heap X.env.locals++own)):∀b o,b≠X.env.locals->s.heap.get? b=some o->h'.get? b=some o:=λb o d e=>by cases q:X.base.get? b with|some u=>have:=I.bk b u q;rw[e] at this;obtain rfl:=bA this;exact F.keep b _ q|none=>exact(N (b,o) (gg _ (uo d q e))).1
def HI{D}{o}{C}{tk}(I:IM X π σ H s)(U:s.heap.Ns X.env.locals m)(F:Fr X.base X.env.locals h' m)(N:Zn X.base X.env.locals h' ((D,C)::nO X.base s.heap X.env.locals)) (Q:∀p∈nO X.base s.heap X.env.locals,p.1<D) (x:gB X.prog X.w (IZ H D o) h' D o):H D=none/\IM X π σ (IZ H D o) {s with heap:=h',toks:=tk}:=by obtain⟨d1,d2,P⟩:=N (D,C) ag;have r:=pq (own:=[]) I F (by rw[bM];exact λp O=>N p (af _ O));have G:∀b u,s.heap.get? b=some u->b≠D:=λb u e z=>by{subst z;exact fI _ (Q (b,u) (uo d2 P e))};have l:H D=none:=by{cases q:H D with|none=>rfl|some u=>obtain⟨T,e⟩:=(I.fR D u q).there;exact absurd rfl (G D T e)};refine⟨l,?_⟩;refine I.step (g':=s.gens) (d':=s.drawn) (ch:=[]) (λ_ z=>nomatch z) (λb u j _ _ e _=>r b u j e) (λb u j _ _ e _=>⟨u.slots,r b u j e⟩) (λb u _ e n=>by rw[aS (G b u e)];exact n) (λb u _ e=>?_) (λb xs e=>by rw[aS (aY e l)];exact e) (λb u v e=>by rw[aS (aY e l)];exact e) (λb ps e=>⟨#[],by rw[aS (aY e l),e];rfl⟩) (λY y=>?_) (λb u e=>?_) I.bare;{by_cases j:b=X.env.locals;{obtain⟨R,es,W,e',_⟩:=F.ns;rw[j];exact⟨R,e'⟩};.exact⟨u,r b u j e⟩};{rw[y.eq_nsMap,<-U.eq_nsMap];exact F.ns};.by_cases j:b=D;{subst j;rw[bh] at e;obtain rfl:=bA e;exact x};.rw[aS j] at e;have J:∀c v,H c=some v->c≠X.env.locals:=λc v q z=>by{rw[z,I.free] at q;cases q};refine(I.fR b u e).wR (λc v A q=>r c v ?_ q) (λc q=>by rw[aS (aY q l)];exact q) λc xs q=>by{rw[aS (aY q l)];exact q};rcases A with rfl|A;{exact J _ _ e};.exact J _ _ A
end
def natOf:Value->Nat|.int i _=>i.toNat|_=>0
def DJ{n}{kz}{vs out}(G:kz=(aj n).map f)(U:vs.length=n)(hi:∀(i) (v:Value),vs[i]?=some v->∃t,v=.int (i:Nat) t)(N:KskOutSt false kz vs out):cu (((l9 f (aj n)).map λ(i:Nat)=>(i:Int)).map V.int) out/\out.length=n:=by obtain⟨ps,I,rfl,R,W⟩:=N;have hz:kz.length=vs.length:=by{rw[G,U];simp};have w:∀p∈kz.zip vs,∃t,p.2=.int (natOf p.2:Nat) t/\p.1=f (natOf p.2):=λp k=>by{obtain⟨i,u,rfl⟩:=dj k;rw[MW];have Y:i<kz.length:=by{rw[gc] at u;simp_all};have y:i<vs.length:=by{rw[gc] at u;simp_all};obtain⟨t,e⟩:=hi i _ (ai y);refine⟨t,?_,?_⟩;{show vs[i]=_;rw[e];rfl};.show kz[i]=f (natOf vs[i]);rw[e];subst G;rw[MX,Jg];rfl};have j:∀p∈ps,∃t,p.2=.int (natOf p.2:Nat) t/\p.1=f (natOf p.2):=λp k=>w p (I.mem_iff.mp k);have O:(kz.zip vs).map (λp=>natOf p.2)=aj n:=by{apply nR;{rw[ak,gc,dD];omega};.intro i T X;rw[MX,MW,Jg];have y:i<vs.length:=by{rw[ak,gc] at T;simp_all};obtain⟨t,e⟩:=hi i _ (ai y);show natOf vs[i]=i;rw[e];rfl};have H:∀(l:List (Int×Value)) (c:Int),(∀p∈l,p.1=f (natOf p.2))->(l.map λp=>natOf p.2).filter (λz=>f z==c)=(l.filter λp=>p.1==c).map λp=>natOf p.2:=λl c x=>by{rw[oE];congr 1;apply dC;intro p k;show(f (natOf p.2)==c)=_;rw[x p k]};have es:(ps.map λp=>natOf p.2)=l9 f (aj n):=by{refine JM ?_ λc=>?_;{rw[mK];refine dN (λ{p q} k C h=>?_) R;obtain⟨_,_,M⟩:=j p k;obtain⟨_,_,Q⟩:=j q C;rw[<-M,<-Q];exact h};.rw[H ps c λp k=>(j p k).elim λ_ h=>h.2,W c,<-H (kz.zip vs) c λp k=>(w p k).elim λ_ h=>h.2,O]};refine⟨?_,by rw[ak,I.length_eq,gc];omega⟩;rw[<-es];have:∀l:List (Int×Value),(∀p∈l,∃t,p.2=.int (natOf p.2:Nat) t)->cu ((((l.map λp=>natOf p.2).map λ(i:Nat)=>(i:Int)).map V.int)) (l.map Prod.snd):=λl x=>by{induction l with|nil=>exact .nil|cons p l L=>obtain⟨t,e⟩:=x p ag;exact .cons ⟨t,e⟩ (L λq C=>x q (af _ C))};exact this ps λp k=>(j p k).elim λt h=>⟨t,h.1⟩
section
variable {a:Ad}{X:Cx}{ρ:Ev}{q:aE×Pos×Str}
def To:jc X (.type "range") (λvs H Q=>∃n:Int,vs=[.int n]/\∀p,H p=none->Q (.ref p) (IZ H p (.Q9 0 n))):=by intro π s σ H vs us Q I r h;obtain⟨n,rfl,q⟩:=h;obtain⟨u,rfl,t,rfl⟩:=vals1 r;exact call_range_1 ⟨.ref _,_,I.laid (o:=.Q9 0 n) (λb u e=>ae _ e) (aB _) ⟨_,_,_,ay _ rfl⟩,rfl,q _ (I.fR.fresh (aB _))⟩
def Ir:Scope:={kind:=.function,names:=[("place",.local),("measures",.free)],isGenerator:=false,isCoroutine:=false,more:=[]}
def Oi(i:Pos):Arguments:={posonlyargs:=[],args:=[{arg:="place",annotation:=none,pos:=i}],vararg:=none,kwonlyargs:=[],kw_defaults:=[],kwarg:=none,defaults:=[]}
def IJ(f)(b)(a)(cl)(e d v)(g):xr (vn "<lambda>" b (Oi f) a Ir cl e (.ref g) d) ⟨[v],[]⟩=pure [(("place" :Str),v)]:=rfl
def yN{σ:L2.St}{H}{s}(I:IM X π σ H s){l}{its}(h:s.heap.IsList l its):l≠X.env.locals:=λz=>by obtain⟨o,e,_,n,d⟩:=h;obtain⟨m,⟨f,es,g,e',d',_⟩,_⟩:=I.loc;rw[z,e'] at e;obtain rfl:=bA e;rw[d'] at d;cases d
def L9{i j:Nat}{p p2 p3 p4 p5 p6 p7 p8 p9 p10 pp pos}{M}{ns:List Int}(L:JY a X q)(hc:X.calm=true){k}(hroom:gH k X.A) (hg1:Gl X "sorted") (hm1:X.mg "sorted" =none) (hg2:Gl X "range") (hm2:X.mg "range" =none) (hg3:Gl X "len") (hm3:X.mg "len" =none) (n1:X.N[i]?=some "rows") (v1:vb X.env.scope "rows") (h1:ρ[i]?=some (some (.pl (.lst M)))) (n2:X.N[j]?=some "measures") (v2:X.env.scope.names.lookup ("measures" :Str)=some .cell) (h2:ρ[j]?=some (some (.pl (.lst (ns.map .int))))) (hle:M.length<=ns.length) (hz:M.length<=1000):ED a X ρ (.Call (.Name "sorted" p) [.Call (.Name "range" p2) [.Call (.Name "len" p3) [.Name "rows" p4] [] p5] [] p6] [⟨some "key",.Lambda (Oi pp) (.Subscript (.Name "measures" p7) (.Name "place" p8) p9) Ir q.2.1,p10⟩] pos) (.ints ((l9 (λi=>ns.getD i 0) (aj M.length)).map λ(i:Nat)=>(i:Int))):=λS H σ R Q qq=>by refine Ug λzz=>?_;obtain⟨pins0,s0,I0⟩:=zz;obtain⟨C,G⟩:=I0.ok.has "measures" (.inl v2);have hcl:vm Ir X.env=pure [(("measures" :Str),C)]:=by{rw[wV];{show pure [(aR "measures",(X.env.cells.lookup (aR "measures")).getD 0)]=_;rw[G];rfl};.intro y hy hf;have hy:y∈[((aR "place",NameKind.local):Str×NameKind),(aR "measures",NameKind.free)]:=hy;rcases aD.mp hy with rfl|hy;{cases hf};.rw[bB] at hy;subst hy;exact⟨C,G⟩};obtain⟨v2',U,r2⟩:=R.pl j _ h2;obtain⟨ml,rfl,t2⟩:=Rp.ints r2;let Y:Expr:=.Subscript (.Name "measures" p7) (.Name "place" p8) p9;refine dY (tH (id:="sorted") (r:=λσ' vs zs H Q=>∃(r p O:aE),vs=[.ref r]/\zs=[.ref p]/\H r=some (.Q9 0 M.length)/\H p=some (fnX q.2.2 (Oi pp) Y Ir [(("measures" :Str),C)] O p)/\H O=some (M7 q.2.2 O)/\nj X.K H ml (ns.map V.int)/\σ'[j]?=some (some (.ref ml))/\∀D,H D=none->Q (.ref D) (IZ H D (.lst (((l9 (λi=>ns.getD i 0) (aj M.length)).map λ(i:Nat)=>(i:Int)).map V.int)))) [aR "key"] ?_ hg1 hm1 zv (fK (qc To hg2 hm2 zv (fK (mX kR hg3 hm3 zv (fK b9 hF rfl) zv zv rfl rfl) hF rfl) zv zv rfl rfl) hF rfl) (zS b9 ER) zv zv rfl rfl rfl rfl rfl) (LR n1 v1 zv zv h1 S H σ R _ λv S1 H1 s1 r1=>?_);{intro π s σ' H' vs zs us ws Q' I r1 r2 hq;obtain⟨r,p,O,rfl,rfl,hr,hp,hcd,hms,hσ,fin⟩:=hq;rw[cu.qW r1,cu.qW r2];obtain⟨m,Fs,loc⟩:=I.loc;have F:Fr X.base X.env.locals s.heap m:=⟨Fs,I.bk,aM I.ok.Mq I.ok.above⟩;obtain⟨u,ru,lk⟩:=loc j "measures" (.ref ml) n2 hσ (.inr (.inl v2));subst ru;have hcv:s.heap.IsCell C (some (.ref ml)):=by{rcases lk with⟨z,_⟩|⟨_,c2,z1,z2⟩;{have z:X.env.scope.names.lookup ("measures" :Str)=some .local:=z;rw[v2] at z;cases z};.rw[G] at z1;obtain rfl:=bA z1;exact z2};obtain⟨its,rv,hl,_⟩:=I.list hms;obtain⟨rt,ru2,rv2,hrg⟩:=(show ∃t u v,s.heap.get? r=some _ from I.fR r _ hr);obtain⟨⟨pm,ctv,hpo⟩,_,_⟩:=(show(∃pm ctv,s.heap.get? p=some (iU "<lambda>" q.2.2 (Oi pp) Y Ir [(("measures" :Str),C)] pm O ctv))/\_ from I.fR p _ hp);obtain⟨hcr,_,_⟩:=(show s.heap.CodeRec (.ref O) q.2.2/\_ from I.fR O _ hcd);have nf:∀{b o},H' b=some o->b≠X.env.locals:=λ{b o} e z=>by{rw[z,I.free] at e;cases e};have kz:((aj M.length).map λi=>ns.getD i 0).length=M.length:=by{simp};refine Hb (kz:=(aj M.length).map λi=>ns.getD i 0) (n:=M.length) (I.ok.hd hc) F (BH (h:=s.heap)) hrg (small_one Eg Eg Eg (by omega)) (by rw[rangeSize_one];split<;>simp_all) (by lia) kz (λi t k hi hk h tk own F3 N3=>?_) λvs D h' tk out c hvs F3 N3 hD ko=>?_;{have kL:=pq I F3 N3;have hk':ns.getD i 0=k:=by{rw[aP,dh hi] at hk;exact bA hk};have hil:i<its.length:=by{have:=rv.length;rw[ak] at this;lia};have hu:∃T,its[i]?=some (.int k T):=by{obtain⟨u,e1,U⟩:=rv.get (i:=i) (show(ns.map V.int)[i]?=some (V.int k) by rw[aP,ai (by omega:i<ns.length)];rw[<-hk',aA,ai (by omega:i<ns.length)];rfl);obtain⟨t',rfl⟩:=U;exact⟨t',e1⟩};obtain⟨T,hu⟩:=hu;refine Gu (A:=X.A.in1.in1) (s:={s with heap:=h,toks:=tk}) hroom.depth (kL p _ (nf hp) hpo) ?_ (I.mod.nolimit.keeps F3.keep) (IJ ..) rfl zv rfl rfl rfl λh1 tk1 kp ns1=>?_;{obtain⟨c2,o,vs2,t2,e1,U,e3⟩:=hcr;cases e1;exact⟨O,o,vs2,t2,rfl,kL O o (nf hcd) U,e3⟩};.have cellh:h1.IsCell C (some (.ref ml)):=by{obtain⟨o,e1,U⟩:=hcv;exact⟨o,kp _ _ (kL C o (I.QT _ _ G) e1),U⟩};have Z:h1.IsList ml its.toArray:=by{have nml:=yN I hl.isList;obtain⟨o,e1,U⟩:=hl.isList;exact⟨o,kp _ _ (kL ml o nml e1),U⟩};refine PF (i:=(i:Int)) (t:=t) rfl rfl rfl (by rfl) cellh Z Eg (by have:=hz;omega) (u:=.int k T) (by exact hu) ns1 zv zv zv ?_;exact⟨h1,tk1,T,rfl,rfl,F3.kept kp,N3.grown kp⟩};.have hvl:vs.toList.length=M.length:=by{rw[br,hvs.1]};obtain⟨w1,w2⟩:=DJ (f:=λi=>ns.getD i 0) (n:=M.length) rfl hvl (λi v hv=>by obtain⟨t,rfl⟩:=hvs.2 i v (by rw[<-fM];exact hv);exact⟨t,by congr 1;simp_all⟩) ko;obtain⟨dn,I2⟩:=HI (tk:=tk) (o:=.lst (((l9 (λi=>ns.getD i 0) (aj M.length)).map λ(i:Nat)=>(i:Int)).map V.int)) I Fs F3 N3 hD ⟨by rw[w1.length,w2];exact aM hz JN,out.toList,c,w1,by have:=(N3 (D,kv "list" out c) ag).1;exact this⟩;exact⟨.ref D,_,I2,rfl,fin D dn⟩};.cases r1 with|lst q1 a1=>refine⟨_,_,rfl,.inl (Rd.xl (Rd.mono s1.h q1)),?_⟩;rw[a1.length];refine⟨M.length,rfl,λr hr=>?_⟩;have s2:=s1.trans (EB.vU (o:=.Q9 0 M.length) s1.h hr);refine Ll L rfl hcl (R.step s2) λp O H3 s3 e3 e4=>?_;have s4:=s2.trans s3;refine⟨r,p,O,rfl,rfl,(s3.k r _ (EB.free s1.h hr) bh rfl).1,e3,e4,Rd.xl (Rd.mono (s4.s.trans s4.h) t2),U,λD hD=>?_⟩;exact qq _ _ _ (s4.trans (EB.new s4.h hD)) (.lst (.inl bh) (bN.ofInts _))
end
theorem qb:∀(r) (m p),((p=m/\∀y∈r,m.2<=y.2)\/∃i:Nat,r[i]?=some p/\p.2<m.2/\(∀y∈r,p.2<=y.2)/\∀(j) y,j<i->r[j]?=some y->p.2<y.2)->my m r=p.1
 |[],m,p,h=>by rcases h with⟨rfl,_⟩|⟨i,h,_⟩;{rfl};.cases h
 |x::r,m,p,h=>by dsimp only[my];rcases h with⟨rfl,h⟩|⟨i,n,l,s,o⟩;{have:=h x ag;rw[ax Eg];exact qb r p p (.inl ⟨rfl,λy e=>h y (af _ e)⟩)};.cases i with|zero=>obtain rfl:=bA n;rw[au l];exact qb r x x (.inl ⟨rfl,λy e=>s y (af _ e)⟩)|succ i=>have u:=o 0 x Eg rfl;refine qb r _ p (.inr ⟨i,n,?_,λy e=>s y (af _ e),λj y w e=>o (j+1) y Eg e⟩);split;{exact u};.exact l
theorem By:∀{l} {ks},keyed l=some ks->l=ks.map (·.1)/\∀p∈ks,∃x,p.1=.tup [x,.int p.2]|[],ks,h=>by obtain rfl:=bA h;exact⟨rfl,λp z=>by cases z⟩|d::l,ks,h=>jq9 d h λx h=>jx0 x h λx y h=>jq8 y h λk h=>by rw[et] at h;obtain⟨q,h',rfl⟩:=h;obtain⟨t,o⟩:=By h';refine⟨by rw[aX,<-t],λp m=>?_⟩;rcases aD.mp m with rfl|m;{exact⟨x,rfl⟩};.exact o p m
def J4{σ:L2.St}{H}{s}{m}{h'}{tk}(I:IM X π σ H s)(A:s.heap.Ns X.env.locals m)(F:Fr X.base X.env.locals h' m)(N:Zn X.base X.env.locals h' (nO X.base s.heap X.env.locals)):IM X π σ H {s with heap:=h',toks:=tk}:=by have h:=pq (own:=[]) I F (by rw[bM];exact N);refine I.step (g':=s.gens) (d':=s.drawn) (ch:=[]) (λ_ z=>nomatch z) (λb u g _ _ e _=>h b u g e) (λb u g _ _ e _=>⟨u.slots,h b u g e⟩) (λb u _ e n=>n) (λb u _ e=>?_) (λb xs e=>e) (λb u v e=>e) (λb ps e=>⟨#[],by rw[e];rfl⟩) (λC o=>?_) (λb u e=>?_) I.bare;{by_cases g:b=X.env.locals;{obtain⟨y,es,G,e',_⟩:=F.ns;rw[g];exact⟨y,e'⟩};.exact⟨u,h b u g e⟩};{rw[o.eq_nsMap,<-A.eq_nsMap];exact F.ns};.have w:∀c v,H c=some v->c≠X.env.locals:=λc v q z=>by{rw[z,I.free] at q;cases q};refine(I.fR b u e).wR (λc v l q=>h c v ?_ q) (λc q=>q) λc xs q=>q;rcases l with rfl|l;{exact w _ _ e};.exact w _ _ l
section
variable {a:Ad}{X:Cx}{ρ:Ev}{q:aE×Pos×Str}
def HB:Scope:={kind:=.function,names:=[("leading",.local)],isGenerator:=false,isCoroutine:=false,more:=[]}
def P4(i:Pos):Arguments:={posonlyargs:=[],args:=[{arg:="leading",annotation:=none,pos:=i}],vararg:=none,kwonlyargs:=[],kw_defaults:=[],kwarg:=none,defaults:=[]}
def Im(f)(b)(a)(cl)(e d v)(g):xr (vn "<lambda>" b (P4 f) a HB cl e (.ref g) d) ⟨[v],[]⟩=pure [(("leading" :Str),v)]:=rfl
def IV{σ:L2.St}{H}{s}(I:IM X π σ H s){l}{its}(h:IsTup s.heap l its):l≠X.env.locals:=λz=>by obtain⟨o,e,_,n,d⟩:=h;obtain⟨m,⟨f,es,g,e',d',_⟩,_⟩:=I.loc;rw[z,e'] at e;obtain rfl:=bA e;rw[d'] at d;cases d
def P5{p p2 p3 p4 p5 p6 pp pos:Pos}{kk}{dx d}(L:JY a X q)(hc:X.calm=true){k}(hroom:gH k X.A)(hg1:Gl X "min")(hm1:X.mg "min" =none)(hs:∀es,aH (x::es) X.env=(false,cq x X.env)::aH es X.env) (h:ED a X ρ x dx) (hf:GB dx=some d):ED a X ρ (.Call (.Name "min" p) [x] [⟨some "key",.Lambda (P4 pp) (.Subscript (.Name "leading" p3) (.Constant (.int 1) kk p4) p5) HB q.2.1,p6⟩] pos) d:=λS H σ R Q qq=>by unfold GB at hf;(split at hf<;>try cases hf);rename_i l;split at hf<;>cases hf;rename_i C G hky;obtain⟨el,hks⟩:=By hky;subst el;have hcl:vm HB X.env=pure []:=closureFor_none zv;let T:Expr:=.Subscript (.Name "leading" p3) (.Constant (.int 1) kk p4) p5;refine dY (tH (id:="min") (r:=λσ' vs zs H Q=>∃(r p O:aE) (xs:List V) (S:Hp),vs=[.ref r]/\zs=[.ref p]/\eY S H/\nj X.K H r xs/\bN X.K a.fa S xs ((C::G).map (·.1))/\H p=some (fnX q.2.2 (P4 pp) T HB [] O p)/\H O=some (M7 q.2.2 O)/\∀v,Rp X.K a.fa S v (my C G)->Q v H) [aR "key"] ?_ hg1 hm1 zv (fK b9 hF (hs _)) (zS b9 ER) zv zv (hs _) (by rw[hs];rfl) rfl rfl rfl) (h S H σ R _ λv S1 H1 s1 r1=>?_);{intro π s σ' H' vs zs us ws Q' I r1 r2 hq;obtain⟨r,p,O,xs,S',rfl,rfl,e,hr,rr,hp,hcd,fin⟩:=hq;rw[cu.qW r1,cu.qW r2];obtain⟨m,Fs,loc⟩:=I.loc;have F:Fr X.base X.env.locals s.heap m:=⟨Fs,I.bk,aM I.ok.Mq I.ok.above⟩;obtain⟨its,rv,hl,_⟩:=I.list hr;obtain⟨⟨pm,ctv,hpo⟩,_,_⟩:=(show(∃pm ctv,s.heap.get? p=some (iU "<lambda>" q.2.2 (P4 pp) T HB [] pm O ctv))/\_ from I.fR p _ hp);obtain⟨hcr,_,_⟩:=(show s.heap.CodeRec (.ref O) q.2.2/\_ from I.fR O _ hcd);have nf:∀{b o},H' b=some o->b≠X.env.locals:=λ{b o} e z=>by{rw[z,I.free] at e;cases e};have P:its.length=(C::G).length:=by{rw[<-rv.length,rr.length,ak]};have at_:∀(i:Nat) (u:Value),its[i]?=some u->∃J,(C::G)[i]?=some J/\∃v,Sk v u/\Rp X.K a.fa S' v J.1:=λi u hu=>by{have hi:i<(C::G).length:=by{rw[<-P];exact(aQ.mp hu).1};refine⟨_,ai hi,?_⟩;obtain⟨v,hv,rp⟩:=rr.get (i:=i) (show((C::G).map (·.1))[i]?=some _ by rw[aP,ai hi];rfl);obtain⟨u',hu',ru⟩:=rv.get hv;rw[hu] at hu';obtain rfl:=bA hu';exact⟨v,ru,rp⟩};let kf:Nat->Int:=λi=>(((C::G)[i]?).map (·.2)).getD 0;refine kmk_min kf (I.ok.hd hc) F (BH (h:=s.heap)) (λh F3 N3=>?_) (by rw[P];simp) (λi u hu h tk own F3 N3=>?_) λi u h' tk' hu hbest F3 N3=>?_;{have kL:=pq (own:=[]) I F3 (by rw[bM];exact N3);have nl:=yN I hl.isList;obtain⟨o,e1,e2⟩:=hl.isList;exact⟨o,kL _ o nl e1,e2⟩};{have kL:=pq I F3 N3;obtain⟨J,M,v,ru,rp⟩:=at_ i u hu;obtain⟨z,hz⟩:=hks J (cx M);rw[hz] at rp;cases rp with|tup sq ra=>subst ru;obtain⟨y1,y2,rfl,b1,b2⟩:=ra.e2;cases b2;obtain⟨its2,w,Z,_⟩:=I.tuple (qR.mono e sq);obtain⟨w1,w2,rfl,c1,t2,rfl⟩:=vals2 w;have nt:=IV I Z;have ek:kf i=J.2:=by{show((((C::G)[i]?).map (·.2)).getD 0)=_;rw[M];rfl};rw[ek];refine Gu (A:=X.A.in1) (s:={s with heap:=h,toks:=tk}) hroom.depth (kL p _ (nf hp) hpo) ?_ (I.mod.nolimit.keeps F3.keep) (Im ..) rfl zv rfl rfl rfl λh1 tk1 kp ns1=>?_;{obtain⟨c2,o,vs2,t3,e1,e2,e3⟩:=hcr;cases e1;exact⟨O,o,vs2,t3,rfl,kL O o (nf hcd) e2,e3⟩};.refine P2 (its:=[w1,.int J.2 t2]) (j:=1) rfl rfl ?_ JN JN rfl rfl ns1 zv λtk2=>⟨h1,tk2,t2,rfl,rfl,F3.kept kp,N3.grown kp⟩;obtain⟨o,e1,e2⟩:=Z;exact⟨o,kp _ _ (kL _ o nt e1),e2⟩};.obtain⟨J,M,v,ru,rp⟩:=at_ i u hu;have kfe:∀(j:Nat) y,(C::G)[j]?=some y->kf j=y.2:=λj y Y=>by{show((((C::G)[j]?).map (·.2)).getD 0)=_;rw[Y];rfl};have el:my C G=J.1:=by{have all:∀(j:Nat) y,(C::G)[j]?=some y->J.2<=y.2/\(j<i->J.2<y.2):=λj y Y=>by{have:=hbest j (by rw[P];exact(aQ.mp Y).1);rw[kfe i J M,kfe j y Y] at this;exact this};have U:∀y∈G,J.2<=y.2:=λy Y=>by{obtain⟨j,hj,rfl⟩:=dj Y;exact(all (j+1) _ (ai (by simpa using hj))).1};refine qb G C J ?_;cases i with|zero=>obtain rfl:=bA M;exact .inl ⟨rfl,U⟩|succ i=>exact .inr ⟨i,M,(all 0 C rfl).2 Eg,U,λj y hj Y=>(all (j+1) y Y).2 Eg⟩};exact⟨v,H',J4 I Fs F3 N3,ru,fin v (by rw[el];exact rp)⟩};.cases r1 with|lst q1 a1=>refine Ll L rfl hcl (R.step s1) λp O H3 s3 e3 e4=>?_;exact⟨_,p,O,_,S1,rfl,rfl,s3.s.trans s3.h,Rd.xl (Rd.mono (s3.s.trans s3.h) q1),a1,e3,e4,λv rv=>qq v S1 H3 (s1.trans s3) rv⟩
end
def Ht(xs:Array Nat):Prop:=xs.toList.Pairwise (·<·)
def Ht.lt(h:Ht xs){i j}(hi)(c:j<xs.size)(b:i<j):xs[i]<xs[j]:=by have:=iQ.mp h i j (by exact hi) (by simpa using c) b;exact this
theorem vN(h:Ht xs)(j):∀(b lo hi),hi -lo<=b->lo<=hi->hi<=xs.size->(∀i (q),i<lo->xs[i]<j)->(∀i (q),hi<=i->j<=xs[i])->kx xs j b lo hi<=xs.size/\(∀i (q),i<kx xs j b lo hi->xs[i]<j)/\∀i (q),kx xs j b lo hi<=i->j<=xs[i]|0,lo,hi,v,x,l,n,p=>by have:lo=hi:=by{grind};subst this;exact⟨l,n,p⟩|b+1,lo,hi,v,x,l,n,p=>by unfold kx;by_cases q:lo<hi;{rw[au q];have s:(lo+hi)/2<xs.size:=by{omega};have w:xs.getD ((lo+hi)/2) j=xs[(lo+hi)/2]:=by{simp[s]};simp only;rw[w];by_cases r:xs[(lo+hi)/2]<j;{rw[au r];refine vN h j b _ _ (by omega) (by omega) l (λi t u=>?_) p;rcases lN i ((lo+hi)/2) with z|z;{exact gi (h.lt t s z) r};.have:i=(lo+hi)/2:=by{omega};subst this;exact r};.rw[ax r];refine vN h j b _ _ (by omega) (by omega) (by lia) n (λi t u=>?_);rcases lN ((lo+hi)/2) i with z|z;{have:=h.lt s t z;lia};.have:i=(lo+hi)/2:=by{omega};subst this;simp_all};.rw[ax q];have:lo=hi:=by{lia};subst this;exact⟨l,n,p⟩
def mQ(h:Ht xs)(j):bY xs j<=xs.size/\(∀i (q),i<bY xs j->xs[i]<j)/\∀i (q),bY xs j<=i->j<=xs[i]:=vN h j xs.size 0 xs.size Eg Eg Eg (λi q z=>by simp_all) (λi q z=>by lia)
def D7(h:Ht xs){j}(v:xs[bY xs j]?≠some j):Ht (SetTable.insertAt xs (bY xs j) j):=by obtain⟨B,w,s⟩:=mQ h j;unfold Ht;rw[SetTable.toList_insertAt];have u:∀z∈xs.toList.take (bY xs j),z<j:=λz hz=>by{obtain⟨i,hi,rfl⟩:=dj hz;rw[kh] at hi;rw[List.getElem_take];have:=w i (by simpa using (by omega:i<xs.toList.length)) Eg;exact this};have r:∀z∈xs.toList.drop (bY xs j),j<z:=λz hz=>by{obtain⟨i,hi,rfl⟩:=dj hz;rw[cX,br] at hi;rw[List.getElem_drop];have f:bY xs j+i<xs.size:=by{omega};have g:=s (bY xs j+i) f Eg;have n:bY xs j<xs.size:=by{lia};have A:=s (bY xs j) n (aB _);have C:xs[bY xs j]≠j:=λz=>v (by rw[eG n,z]);have:j<xs[bY xs j+i]:=by{rcases gX i with z|z;{subst z;dsimp only[lO];lia};.have:=h.lt n f Eg;grind};exact this};rw[E4,a8];refine⟨u4 (Ju _ _) h,⟨r,u4 (List.drop_sublist _ _) h⟩,λx t y m=>?_⟩;have:=u x t;rcases aD.mp m with rfl|m;{exact this};.have:=r y m;lia
structure kc(bt:Bool)(t:SetTable):Prop where
 ris:Ht t.place
 led:bt=true\/t.led=true
 dum:t.dummies=#[]
def Ii(n):Ht (Array.range n):=by unfold Ht;rw[Array.toList_range];exact jD
theorem kc.standIn(g:kc a t)(n):kc a (t.standIn n):=⟨Ii n,g.led,rfl⟩
theorem kc.orStandIn(g:kc d t)(n):kc d (t.orStandIn n):=by unfold SetTable.orStandIn;split;{exact g};.exact g.standIn n
def Ek{t:SetTable}(h:t.dummies=#[])(j):t.slot j≠.dummy:=by delta JA MY;rw[h];simp only;split;{intro z;cases z};.split;{rename_i z;simp at z};.intro z;cases z
def EH{t:SetTable}{j}(h:t.slot j=.empty):t.place[bY t.place j]?≠some j:=λz=>by unfold JA at h;simp only at h;rw[au (by rw[z];simp)] at h;cases h
theorem wQ(m:t.dummies=#[]){n}{h}:∀(f) (p) {j} {d},p.dummy=none->xx t n h f p=some (.empty j d)->d=none/\t.slot j=.empty|0,p,j,d,_,e=>by cases e|f+1,p,j,d,l,e=>by dsimp only[xx] at e;have k:(t.advance p).dummy=none:=by{unfold SetTable.advance;split;{exact l};.exact l};split at e;{cases e;exact⟨l,by assumption⟩};{exact absurd (by assumption) (Ek m _)};.split at e;{cases e};.exact wQ m f _ k e
theorem kc.layNew(g:kc n t)(es)(h)(x):kc n (layNew t es h x).2.1:=by unfold PySem.layNew;split;{rename_i m u k;unfold SetTable.freeSlot at k;split at k;{rename_i j s o;cases k;obtain⟨rfl,q⟩:=wQ g.dum _ _ rfl o;have p:kc n (t.put j).1:=by{refine⟨D7 g.ris (EH q),g.led,?_⟩;show(if MY t.dummies j then _ else t.dummies)=#[];rw[g.dum];rfl};exact p.orStandIn _};.cases k};.exact g.standIn _
def xI{f:Nat->Option Nat}{l:List Nat}(h:l.Pairwise (·<·)):((l.filterMap λj=>(f j).map (j,·)).map (·.1)).Pairwise (·<·):=by have:(l.filterMap λj=>(f j).map (j,·)).map (·.1)=l.filter λj=>(f j).isSome:=by{induction l with|nil=>rfl|cons x l g=>rw[List.filterMap_cons,bU];cases i:f x with|none=>exact g (a8.mp h).2|some y=>simpa[i] using g (a8.mp h).2};rw[this];exact h.filter _
theorem kc.relayAll(g:kc q t)(es)(n):kc q (relayAll t es n).2.1:=by unfold PySem.relayAll;split;{rename_i t' i l;simp only;split;{unfold SetTable.relaid SetTable.laid at l;rw[Option.bind_eq_bind,Option.bind_eq_some_iff] at l;obtain⟨owner,r,e⟩:=l;cases e;exact⟨by show Ht (List.toArray _);unfold Ht;rw[G3];exact xI (f:=λj=>owner.getD j none) jD,g.led,rfl⟩};.exact g.standIn _};.exact g.standIn _
abbrev FA(w:World):Bool:=w.params.followText "set-order"
inductive lx(prog:Program)(w:World)(h:Heap)(a:aE)(ks:List Int):Prop
 |mk(o es c t b)(_:h.get? a=some o)(_:o.ExactSet)(_:o.data=.set es c t)(_:U0 (intKind prog w) es.toList)(_:es.size<nh)(_:t.fits es.size=true)(_:kc (FA w) t)(_:IntsAre (es.toList.map (·.2)) b)(_:b.Perm ks)
section
variable {prog:Program}{w:World}{A:Around}{E:Value->Shared->Prop}{s:Shared}{a:aE}{ks:List Int}
def lx.of_get(g:lx prog w h a ks)(k:∀o,h.get? a=some o->h'.get? a=some o):lx prog w h' a ks:=by obtain⟨o,es,d,t,f,e,b,c,r,s,u,v,x,y⟩:=g;exact⟨o,es,d,t,f,k o e,b,c,r,s,u,v,x,y⟩
def lx.store{e}{t t'}{f}{h:Heap}(k:h.get? a=some o)(m:o.ExactSet)(g:o.data=.set es e t)(r:U0 (intKind prog w) b.toList)(u:b.size<nh)(n:t'.fits b.size=true)(s:kc (FA w) t') (j:IntsAre (b.toList.map (·.2)) f) (l:f.Perm ks):(h.update a (sV b t')).get? a=some {o with data:=.set b (e+1) t'}/\lx prog w (h.update a (sV b t')) a ks:=by have i:(h.update a (sV b t')).get? a=some {o with data:=.set b (e+1) t'}:=by{have q:=d6 (sV b t') k (by rw[putSet_of b t' g];rfl);rw[putSet_of b t' g] at q;exact q};exact⟨i,_,b,e+1,t',f,i,m,rfl,r,u,n,s,j,l⟩
def tu{l z}(p:l.Perm z):∀{a},IntsAre z a->∃j,IntsAre l j/\j.Perm a:=by
 induction p with
  |nil=>intro a h;exact⟨a,h,.refl _⟩
  |cons x p C=>intro a h;cases h with|cons n t i=>obtain⟨j,r,o⟩:=C i;exact⟨n::j,.cons n t r,o.cons n⟩
  |swap x y l=>intro a h;cases h with|cons n t i=>cases i with|cons m u i=>exact⟨m::n::_,.cons m u (.cons n t i),.swap n m _⟩
  |trans p q s k=>intro a h;obtain⟨j,r,o⟩:=k h;obtain⟨v,A,B⟩:=s r;exact⟨v,A,B.trans o⟩
theorem ints_app:∀{l} {a} (v) (t),IntsAre l a->IntsAre (l++[.int v t]) (a++[v])|_,_,v,t,.nil=>.cons v t .nil|_,_,v,t,.cons n u b=>.cons n u (ints_app v t b)
def BK{g:Bool->Sem Unit}(T:∀(b) (z) (Q),Q () z->aK (aT prog w) A (g b) Q E z){o}{es}{N}{t}(r:s.heap.get? a=some o)(G:o.ExactSet)(y:o.data=.set es N t)
  {c} {t2} {p} (I:U0 (intKind prog w) c.toList) (k:c.size<nh) (L:t2.fits c.size=true) (J:kc (FA w) t2) (H:IntsAre (c.toList.map (·.2)) p) (B:p.Perm ks) {M} {R}
  (h:∀h',iH a s.heap h'->lx prog w h' a ks->R (some true) {s with heap:=h'}):
  aK (aT prog w) A (do
    storeSet a c t2
    if(!M&&t2.tooFull)=true then do
      g (relayAll t2 c (ij c.size)).2.2
      storeSet a (relayAll t2 c (ij c.size)).1 (relayAll t2 c (ij c.size)).2.1
      pure (some true)
     else pure (some true)) R E s:=by
 refine ab (U1 r y ?_ (xy k))
 obtain⟨v,q2⟩:=lx.store (ks:=ks) r G y I k L J H B
 have u:=jN s.heap a (sV c t2)
 split
 ·have j:=relayAll_perm t2 c (ij c.size)
  have n:=relayAll_fits t2 c (ij c.size)
  have l:=J.relayAll c (ij c.size)
  generalize W:relayAll t2 c (ij c.size)=Y at j n l⊢
  obtain⟨O,t3,gv⟩:=Y
  simp only at j n l⊢
  have q:O.size=c.size:=by rw[<-br,j.length_eq,br]
  obtain⟨P,Z,X⟩:=tu (j.map (·.2)) H
  refine ab (T _ _ _ (ab (U1 v rfl ?_ (xy (by rw[q];exact k)))))
  obtain⟨_,U⟩:=lx.store (ks:=ks) v G rfl (I.perm j) (by rw[q];exact k) n l Z (X.trans B)
  exact aq (h _ (u.trans (jN _ a _)) U)
 ·exact aq (h _ u q2)
def int_is{x}{i}{t}(h:x=.int i t):(intKind prog w).is v x=decide (v=i):=by subst h;exact KeyKind.is_eq_decide (RF _ _ _ _) v
theorem BC:∀{l:List (Int×Value)} {f},IntsAre (l.map (·.2)) f->((∃e∈l,(intKind prog w).is v e.2=true)↔v∈f)|[],_,h=>by cases h;simp|e::l,_,h=>by obtain⟨k,x⟩:=e;cases h with|cons n t i=>have g:=BC (v:=v) i;simp only[aD,exists_eq_or_imp,g];rw[int_is (v:=v) rfl,aw]
def add_int{Q}(hG:lx prog w s.heap a ks)(C:ks.length+1<nh)(h:∀b h',iH a s.heap h'->lx prog w h' a (iY ks v)->Q b {s with heap:=h'}):aK (aT prog w) A (setAddHashed a (.int v tk) ((intKind prog w).hash v)) Q E s:=by obtain⟨o,es,ep,t,is,H,X,I,p,hb,hf,gt,hi,L⟩:=hG;have u:(intKind prog w).is v (.int v tk)=true:=RF _ _ _ _;have ln:es.size=ks.length:=by{rw[<-L.length_eq,<-hi.length,ak,br]};unfold setAddHashed setAddHashedIn;refine eX (ab (iK H I hf ?_));dsimp only;rw[byScan_of (x:=.int v tk) rfl hb p];simp only[↓reduceIte];dsimp only[setAddByScan];refine ab (ab (nv (ab (wpAny_setScan_of u H I hf p ?_))));have hm:=BC (v:=v) (prog:=prog) (w:=w) hi;cases hr:List.findIdx? (λe=>(intKind prog w).is v e.2) es.toList with|some j=>simp only;obtain⟨hj,pj,_⟩:=List.findIdx?_eq_some_iff_getElem.mp hr;have U:v∈ks:=L.mem_iff.mp (hm.mp ⟨_,nV hj,pj⟩);refine aq (aq ?_);have e:s={s with heap:=s.heap}:=by{cases s;rfl};rw[e];refine h _ s.heap (YK a s.heap) ?_;have:iY ks v=ks:=by{unfold iY;rw[au (by rw[eO];exact⟨v,U,by simp⟩)]};rw[this];exact⟨o,es,ep,t,is,H,X,I,p,hb,hf,gt,hi,L⟩|none=>simp only;have J:v∉ks:=λz=>by{obtain⟨e,he,pe⟩:=hm.mpr (L.mem_iff.mpr z);have:=List.findIdx?_eq_none_iff.mp hr e he;rw[pe] at this;cases this};have est:iY ks v=ks++[v]:=by{unfold iY;rw[ax (by rw[eO];rintro⟨y,hy,e⟩;have:=eq_of_beq e;subst this;exact J hy)]};have F:=layNew_perm t es ((intKind prog w).hash v) (.int v tk);have R:=layNew_fits t es ((intKind prog w).hash v) (.int v tk);have T:=gt.layNew es ((intKind prog w).hash v) (.int v tk);generalize hL:layNew t es ((intKind prog w).hash v) (.int v tk)=Lq at F R T⊢;obtain⟨Z,t1,wd,gv⟩:=Lq;dsimp only at F R T⊢;rw[Jh] at F;have B:U0 (intKind prog w) Z.toList:=(p.push u rfl).perm F;have sz1:Z.size=es.size+1:=by{rw[<-br,F.length_eq,bo,br];rfl};have N:Z.size<nh:=by{rw[sz1,ln];exact C};have G:=F.map (·.2);rw[bW] at G;obtain⟨Y,i1,i2⟩:=tu G (ints_app v tk hi);have i3:Y.Perm (iY ks v):=by{rw[est];exact i2.trans (L.append_right _)};have gw:∀(b:Bool) (z:Shared) (Q:Unit->Shared->Prop),Q () z->aK (aT prog w) A (match b with|true=>GZ "set.scan.the-table-gave-way" |false=>pure ()) Q E z:=λb z Q hq=>by{cases b<;>first|exact aq hq|exact nv hq};refine ab (gw _ _ _ ?_);have O:∀h',iH a s.heap h'->lx prog w h' a (iY ks v)->aK (aT prog w) A (pure true) Q E {s with heap:=h'}:=λh' M g=>aq (h true h' M g);split;{refine ab ?_;rw[hashByValue_scannable 8 (x:=.int v tk) rfl];refine aq ?_;refine BK (ks:=iY ks v) gw H X I B N ?_ ?_ i1 i3 λh' M g=>O h' M g;{exact R};.exact T};.refine ab (aq ?_);simp only[↓reduceIte];exact BK (ks:=iY ks v) gw H X I B N R T i1 i3 λh' M g=>O h' M g
end
section
variable {prog:Program}{w:World}{B:Around}{R:Zq->Shared->Prop}{J:aE}{fp wr:List aE}{Gq:Array GenState->Array GenState->Prop}{cnt:Nat}{Pq:Nat->Value->Prop}{Sq:Nat->Shared->Prop}
def OJ(W:WalksS prog w B.in1 J fp wr Gq cnt Pq Sq)(Z)(U:Z∉fp)(f)(hval:∀i v,Pq i v->∃t,v=.int (f i) t)(hb:cnt+1<nh):∀(k i) (z),cnt -i=k->i<=cnt->Sq i z->lx prog w z.heap Z (gY f i)->(∀l,Moved (Z::wr) Gq z l->lx prog w l.heap Z (gY f cnt)->R (.ok (.ret .none)) l)->iI (aT prog w) B (.builtin "set.update.loop" ⟨[.ref Z,.ref J],[]⟩) R z:=by have r:Z∉wr:=λh=>U (W.sub _ h);have x:∀b∈wr,b∈Z::wr:=λb h=>af _ h;intro k;induction k with|zero=>intro i z hk hi st g L;have e:i=cnt:=by{grind};subst e;refine dR ni ?_;rw[dF ib _];show aK _ B.in1 (jk (.ref J)>>=_) _ _ z;refine ab (W.done z _ _ st λl u=>?_);show aK _ B.in1 (ret Value.none) _ _ l;exact aq (L l (u.mono x) (g.of_get λo q=>u.heap Z o r q))|succ k Y=>intro i z hk hi st g L;have X:i<cnt:=by{omega};refine dR ni ?_;rw[dF ib _];show aK _ B.in1 (jk (.ref J)>>=_) _ _ z;refine ab (W.item i z _ _ X st λv l hP I u=>?_);obtain⟨t,rfl⟩:=hval i v hP;have g':lx prog w l.heap Z (gY f i):=g.of_get λo q=>u.heap Z o r q;show aK _ B.in1 (fw [Value.int (f i) t] (setAdd Z (.int (f i) t))>>=_) _ _ l;refine ab (eX ?_);unfold setAdd;refine eX (ab ((intKind prog w).pyHash (k:=f i) (RF _ _ _ _) ?_));refine add_int (s:={l with toks:=l.toks+1}) g' (by have:=vo f i;lia) λb h' O T=>?_;rw[<-firstMet_succ] at T;refine aq ⟨jw ib _,Y (i+1) _ (by grind) X (W.frame _ l _ _ I (m8 _) λb hb o e=>?_) T λz2 mv2 g3=>?_⟩;{rw[O.2 b (λh:b=Z=>U (by rw[<-h];exact hb))];exact e};.refine L z2 (Moved.trans W.gtrans ((u.mono x).then_heap (m8 _) λb o hb e=>?_) mv2) g3;rw[O.2 b (λh:b=Z=>hb (by rw[h];exact ag))];exact e
end
section
variable {prog:Program}{w:World}{A:Around}{E:Value->Shared->Prop}{s:Shared}
abbrev lD(w:World):Obj:={cls:=.type "set",dict:=none,data:=.set #[] 0 (.fresh 0 0 (!FA w))}
def Pl(x:Value){Q1:Value->Shared->Prop}(h:Q1 (.ref s.heap.objs.size) {s with heap:=s.heap.push (lD w)}):iI (aT prog w) A (.call (.builtin "set.__new__") ⟨[.type "set",x],[]⟩) (wants Q1 E) s:=by refine YL ?_;show aK _ A.in1 (do checkBuiltinCall "set.__new__" ⟨[.type "set",x],[]⟩;An (.builtin "set.__new__" ⟨[.type "set",x],[]⟩)) _ _ s;refine ab (sS (PySem.F.newCall_set_1 x) (aq ⟨jw As _,dR PySem.F.entry_set_new ?_⟩));rw[dF As _];delta jG.«set.__new__»Nq;have hsub:=sub_set_self;obtain⟨hp,g,d,tk,os⟩:=s;dsimp only;wp_walk;refine je (aq ?_);dsimp only;simp only[newObj];refine ab (wpAny_alloc (aq ?_));exact aq h
def ET:lx prog w (s.heap.push (lD w)) s.heap.objs.size []:=by refine⟨_,#[],0,_,[],ay _ rfl,⟨rfl,rfl,rfl⟩,rfl,λe f=>by simp at f,by decide,by rfl,⟨.nil,?_,rfl⟩,.nil,.refl _⟩;show FA w=true\/(!FA w)=true;cases FA w;{exact .inr rfl};.exact .inl rfl
def set_list{l:aE}{items:Array Value}{ns:List Int}{Q:Value->Shared->Prop}(hh:A.handled=none)(hl:s.heap.IsList l items)(hi:IntsAre items.toList ns)(hb:items.size+1<nh) (h:∀(h':Heap) (tk:Nat),lx prog w h' s.heap.objs.size (gY (λi=>ns.getD i 0) items.size)->(∀b o,b<s.heap.objs.size->s.heap.get? b=some o->h'.get? b=some o)->Q (.ref s.heap.objs.size) {s with heap:=h',toks:=tk}):aK (aT prog w) A (call (.type "set") [.ref l]) Q E s:=by
 obtain⟨c,tl,hmro⟩:=eJ.mro;have hmade:=eJ.made;have hsub:=eJ.sub;refine CZ (YL ?_);show aK _ _ (callAny (.type "set") _) _ _ _;refine aq ⟨sD _ zv,dR PySem.F.entry_type_call ?_⟩;rw[Around.under_plain (weight_type_call_type "set" [.ref l] []) rfl];have h1:=eJ.notType;have h2:=eJ.canCreate;have hct:=PySem.F.typeCall_set_1 (.ref l);repeat (any_goals (first|assumption|wp_step))
 refine mH (Pl (.ref l) (E:=E) (Q1:=λobj z=>obj=.ref s.heap.objs.size/\z={s with heap:=s.heap.push (lD w)}) ⟨rfl,rfl⟩) λr z hr=>?_;cases r with
  |error e=>exact hr
  |ok fl=>
   cases fl with
    |ret obj=>obtain⟨rfl,rfl⟩:=hr;have hS:(s.heap.push (lD w)).get? s.heap.objs.size=some (lD w):=ay _ rfl;have hT:Shared.TypeIs {s with heap:=s.heap.push (lD w)} (.ref s.heap.objs.size) "set" :=⟨_,hS,rfl⟩;have hli:=eJ.init.lookup;have hbi:=eJ.init.bind (.ref s.heap.objs.size);(repeat (any_goals (first|assumption|wp_step)));refine mH (codeAny_call_builtin (R:=wants (λr z=>r=.none/\∃h' tk,z={s with heap:=h',toks:=tk}/\lx prog w h' s.heap.objs.size (gY (λi=>ns.getD i 0) items.size)/\(∀b o,b<s.heap.objs.size->s.heap.get? b=some o->h'.get? b=some o)) E) eJ.init.plain PySem.F.entry_set_init (check_set_init_1 hT ?_)) λr2 z2 hr2=>?_;{obtain⟨ol,hol,hcl,nl,hdl⟩:=hl;obtain⟨ocls,odict,odata,oslots⟩:=ol;simp only at hcl hdl;subst hcl;subst hdl;have hol':(s.heap.push (lD w)).get? l=some {cls:=.type "list",dict:=odict,data:=.seq items nl,slots:=oslots}:=ae _ hol;have hsls:=PySem.F.sub_list_set;have hslf:=PySem.F.sub_list_frozenset;have hne:(Value.type "list" ==Value.type "dict")=false:=JN;have hl1:(s.heap.push (lD w)).IsList l items:=⟨_,hol',rfl,nl,rfl⟩;unfold jG.«set.__init__»noKeywords Nr;generalize hPI:yT=PI;wp_walk;subst hPI;refine oq hl1 (ab (C8 ?_));have hlS:l<s.heap.objs.size:=aF hol;have hh3:A.in1.in1.in1.handled=none:=by{simp[hh]};have hneI:l≠(s.heap.push (lD w)).objs.size:=by{rw[bR];exact a7 (fc hlS)};have hZ:s.heap.objs.size∉[(s.heap.push (lD w)).objs.size,l]:=by{rw[bR];simp only[aD,bB,kj,Jq,sM];exact⟨a7 (gC _),gS hlS⟩};have hval:∀(i:Nat) (v:Value),items[i]?=some v->∃t,v=.int ((λi=>ns.getD i 0) i) t:=λi v hv=>IntsAre.int_at hi i v (by rw[fM];exact hv);refine OJ ((xw hh3 _ l hneI items).toS) s.heap.objs.size hZ (λi=>ns.getD i 0) hval hb (items.size -0) 0 _ (by omega) (fJ _) ⟨⟨_,ay _ rfl,rfl,rfl⟩,(hl1.push _)⟩ ?hS0 ?hR;(case hS0=>rw[G6];exact(ET (s:=s)).of_get λo q=>ae _ q);case hR=>intro z' mv g;obtain⟨h',g',d',tk',os'⟩:=z';have eg:g'=s.gens:=mv.gens;have ed:d'=s.drawn:=mv.drawn;have eo:os'=s.os:=mv.os;subst eg;subst ed;subst eo;show aK _ _ _ _ _ _;refine aq ?_;show aK _ _ (ret Value.none) _ _ _;refine aq ⟨rfl,h',tk',rfl,g,λb o hb e=>?_⟩;have hb1:b≠s.heap.objs.size:=a7 hb;have hb2:b≠(s.heap.push (lD w)).objs.size:=by{rw[bR];exact a7 (fc hb)};exact mv.heap b o (by simp only[aD,bB,kj,Jq,sM];exact⟨hb1,hb2⟩) (ae _ (ae _ e))};.cases r2 with|error e=>exact hr2|ok fl2=>cases fl2 with|ret r=>obtain⟨rfl,h',tk,rfl,g,kp⟩:=hr2;(repeat (any_goals (first|assumption|wp_step)));exact h _ _ g kp|next=>exact hr2|brk=>exact hr2|cont=>exact hr2
    |next=>exact hr
    |brk=>exact hr
    |cont=>exact hr
end
def iw:Slot "set_iterator" "__next__" "set_iterator.__next__" :=.of (owner:="set_iterator") (n:="__next__") (by rw[YM,MZ];kernel_rfl) zv zv zv (by first|exact .inl zv|exact .inr zv) (by rw[C9];kernel_rfl)
def pX:ZC table "set_iterator.__next__" =some jG.«set_iterator.__next__»:=entryFor_of_tree (by kernel_rfl)
def yO:Manifest.owners.lookup (Nt ['r','o','t','a','r','e','t','i','_','t','e','s'].reverse)=some Manifest.sig_set_iterator:=by kernel_rfl
def rZ(a):Jz "set_iterator.__next__" ⟨[a],[]⟩:=by unfold Jz;rw[signature?_of (id:="set_iterator.__next__") (n:=['_','_','t','x','e','n','_','_']) (o:=['r','o','t','a','r','e','t','i','_','t','e','s']) (by kernel_rfl) yO];kernel_rfl
def HP:ZC table "set.__iter__" =some jG.«frozenset.__iter__»:=ZD (id':="frozenset.__iter__") (by kernel_rfl) rfl zv (by kernel_rfl)
def BO:Slot "set_iterator" "__iter__" "set_iterator.__iter__" :=.of (owner:="set_iterator") (n:="__iter__") (by rw[YM,MZ];kernel_rfl) zv zv zv (by first|exact .inl zv|exact .inr zv) (by rw[C9];kernel_rfl)
def Ei:ZC table "set_iterator.__iter__" =some jG.«dict_keyiterator.__iter__»:=ZD (id':="dict_keyiterator.__iter__") (by kernel_rfl) rfl zv (by kernel_rfl)
def Hx(a):Jz "set_iterator.__iter__" ⟨[a],[]⟩:=by unfold Jz;rw[signature?_of (id:="set_iterator.__iter__") (n:=['_','_','r','e','t','i','_','_']) (o:=['r','o','t','a','r','e','t','i','_','t','e','s']) (by kernel_rfl) yO];kernel_rfl
section
variable {prog:Program}{w:World}{A:Around}{E:Value->Shared->Prop}{s:Shared}
structure SN(prog:Program)(w:World)(Z:aE)(o:Obj)(ep:Nat)(first:Nat->Nat)(W:Array (Int×Value)):Prop where
 item:∀(i:Nat) (x:Int×Value),W[i]?=some x->∀(A:Around) (E:Value->Shared->Prop) (s:Shared) (Q:Option (Value×Nat)->Shared->Prop),s.heap.get? Z=some o->Q (some (x.2,first (i+1))) s->aK (aT prog w) A (tW Z (first i) i ep) Q E s
 done:∀(A:Around) (E:Value->Shared->Prop) (s:Shared) (Q:Option (Value×Nat)->Shared->Prop),s.heap.get? Z=some o->Q none s->aK (aT prog w) A (tW Z (first W.size) W.size ep) Q E s
abbrev itO(f:Value)(i:Nat)(Z:aE)(n c:Nat):Obj:={cls:=.type "set_iterator",data:=.fields #[f,cg i,.ref Z,cg n,cg c]}
def Bm(e:s.heap.get? J=some o)(d:o.cls=.type "set_iterator")(h:Q (.ref J) s):aK (aT prog w) A (yT (.ref J)) Q E s:=by have c:s.TypeIs (.ref J) "set_iterator" :=⟨o,e,d⟩;refine U2 c BO (dE BO c Ei ?_ (Hx _));show aK _ _ (ret (.ref J)) _ _ s;exact aq ⟨_,rfl,"set_iterator",_,c,iw.lookup,h⟩
def zG{h:Heap}{J}{vs}{i}{x}(e:h.get? J=some {cls:=.type "set_iterator",data:=.fields vs}):(h.update J (U3 (·.setIfInBounds i x))).get? J=some {cls:=.type "set_iterator",data:=.fields (vs.setIfInBounds i x)}:=d6 (U3 (·.setIfInBounds i x)) e rfl
def Dm{es W}{y}{t}{first}(hh:A.handled=none)(G:Z≠J)(L:o.data=.set es y t)(R:t.fits es.size=true)(hn:W.size=es.size)(N:SN prog w Z o y first W):
  Walks prog w A J [J,Z] [J] W.size (λi v=>∃x,W[i]?=some x/\v=x.2) (λi h=>h.get? J=some (itO (cg (first i)) i Z es.size y)/\h.get? Z=some o) where
 sub:=λb q=>by simp at q;simp[q]
 frame:=λ_ _ _ st U=>⟨U J (by simp) _ st.1,U Z (by simp) _ st.2⟩
 self:=λi s Q E st B=>Bm st.1 rfl B
 item:=λi z Q E hi st B=>by
  obtain⟨f,j⟩:=st
  have C:z.TypeIs (.ref J) "set_iterator" :=⟨_,f,rfl⟩
  have I:W[i]?=some W[i]:=by simp
  unfold jk
  refine ab (jv (c6 (name:=aR "__next__") C iw (dE iw C pX ?_ (rZ _))))
  refine ab (aq (ab (sW f rfl ?_)))
  show aK _ _ (Dc Z>>=_) _ _ z
  refine ab (jm j L R ?_)
  rw[ax (by simp)]
  show aK _ _ (tW Z (first i) i y>>=_) _ _ z
  refine ab (N.item i _ I _ _ _ _ j ?_)
  show aK _ _ (ZE (.ref J) 0 (cg (first (i+1)))>>=_) _ _ z
  refine ab (gU f rfl (by simp) ?_)
  have P:=zG (i:=0) (x:=cg (first (i+1))) f
  refine ab (gU P rfl (by simp) ?_)
  have X:=zG (i:=1) (x:=cg ((i:Int)+1)) P
  refine aq ⟨_,rfl,aq (B _ _ _ ⟨_,I,rfl⟩ ⟨?_,?_⟩ λb u q e=>?_)⟩
  ·rw[X]
   rfl
  ·rw[a9 _ _ (dQ G),a9 _ _ (dQ G)]
   exact j
  ·have n:J≠b:=λz=>q (by simp[z])
   rw[a9 _ _ n,a9 _ _ n]
   exact e
 done:=λz Q E st B=>by
  obtain⟨f,j⟩:=st
  have C:z.TypeIs (.ref J) "set_iterator" :=⟨_,f,rfl⟩
  unfold jk
  refine ab (jv (c6 (name:=aR "__next__") C iw (dE iw C pX ?_ (rZ _))))
  refine ab (aq (ab (sW f rfl ?_)))
  show aK _ _ (Dc Z>>=_) _ _ z
  refine ab (jm j L R ?_)
  rw[ax (by simp)]
  show aK _ _ (tW Z (first W.size) W.size y>>=_) _ _ z
  refine ab (N.done _ _ _ _ j ?_)
  show aK _ _ (ZE (.ref J) 2 .none>>=_) _ _ z
  refine ab (gU f rfl (by simp) (ab ?_))
  simp only[Zv,Zw]
  refine ab (eh ?_ (by size_fits))
  refine ab (m:=ny _ _) (sS (a:=Value.none) (by first|rfl|(simp only[ny];rfl)) (eh ?_ (by size_fits)))
  dsimp only[Zx]
  refine ab (G5 ?_)
  rw[show A.in1.handled=none from hh]
  refine ab (aq (Nk ?_))
  refine ab (lh (T:="StopIteration") (b:=true) ⟨_,ay _ rfl,rfl⟩ sU (aq (B _ _ λb u q e=>?_)))
  have n:J≠b:=λz=>q (by simp[z])
  refine ae _ (ae _ ?_)
  rw[a9 _ _ n]
  exact e
end
section
variable {prog:Program}{w:World}{A:Around}{E:Value->Shared->Prop}{s:Shared}
def xM{a}{n}{Q}(e:n≠0)(h:∀i,i<n->Q i {s with drawn:=s.drawn.bump a}):aK M A (choose a n) Q E s:=λj p f=>by unfold choose;rw[Sem.wp_choose];exact⟨e,h _ (oF _ (mm e))⟩
theorem Br{u}:∀(n) (xs) (s) (Q:List u->Shared->Prop),xs.length=n->(∀ys d,ys.Perm xs->Q ys {s with drawn:=d})->aK M A (drawOrder n xs) Q E s|0,xs,s,Q,m,h=>by have:xs=[]:=c8 m;subst this;delta drawOrder;have e:s={s with drawn:=s.drawn}:=by{cases s;rfl};refine aq ?_;rw[e];exact h [] s.drawn (.refl _)|n+1,xs,s,Q,m,h=>by cases xs with|nil=>cases m|cons k j=>dsimp only[drawOrder];refine ab (xM (by simp) λi hi=>?_);rw[ai hi];refine ab (Br n _ _ _ (by rw[xZ hi];simpa using m) λys d v=>aq ?_);refine h _ d ((v.cons _).trans ?_);rw[uG];have e:(k::j)=(k::j).take i++(k::j)[i]::(k::j).drop (i+1):=by{rw[jH,Dd]};exact M0.symm.trans (.of_eq e.symm)
def DG{es:Array (Int×Value)}{M:Nat}{t}{pl:List Nat}(hh:A.handled=none)(Y:Z≠J)(hT:Tt≠J)(I:o.data=.set es M t)(O:t.fits es.size=true)(X:∀p∈pl,p<es.size):
  Walks prog w A J [J,Z,Tt] [J] pl.length (λi v=>∃p x,pl[i]?=some p/\es[p]?=some x/\v=x.2)
   (λi h=>h.get? J=some (itO (.ref Tt) i Z es.size M)/\h.get? Z=some o/\h.get? Tt=some (kv "tuple" (pl.map λ(p:Nat)=>cg p).toArray 0)) where
 sub:=λb F=>by simp at F;simp[F]
 frame:=λ_ _ _ st L=>⟨L J (by simp) _ st.1,L Z (by simp) _ st.2.1,L Tt (by simp) _ st.2.2⟩
 self:=λi s Q E st G=>Bm st.1 rfl G
 item:=λi z Q E hi st G=>by
  obtain⟨f,n,B⟩:=st
  have l:z.TypeIs (.ref J) "set_iterator" :=⟨_,f,rfl⟩
  have H:pl[i]<es.size:=X _ (nV hi)
  unfold jk
  refine ab (jv (c6 (name:=aR "__next__") l iw (dE iw l pX ?_ (rZ _))))
  refine ab (aq (ab (sW f rfl ?_)))
  show aK _ _ (Dc Z>>=_) _ _ z
  refine ab (jm n I O ?_)
  rw[ax (by simp)]
  show aK _ _ (tV (.ref Tt)>>=_) _ _ z
  refine ab (dB B rfl ?_)
  have N:((pl.map λ(p:Nat)=>cg p).toArray)[i]?=some (cg (pl[i]:Nat)):=by simp[hi]
  dsimp only
  rw[show((i:Int)).toNat=i from rfl,N]
  show aK _ _ (setNextDrawn Z pl[i] M>>=_) _ _ z
  unfold setNextDrawn
  refine ab (ab (iK n I O ?_))
  simp only[bne_self_eq_false,jh,AG,eG H]
  refine aq ?_
  refine ab (gU f rfl (by simp) ?_)
  have s2:=zG (i:=1) (x:=cg ((i:Int)+1)) f
  refine aq ⟨_,rfl,aq (G _ _ _ ⟨pl[i],es[pl[i]],ai hi,eG H,rfl⟩ ⟨?_,?_,?_⟩ λb u F e=>?_)⟩
  ·rw[s2]
   rfl
  ·rw[a9 _ _ (dQ Y)]
   exact n
  ·rw[a9 _ _ (dQ hT)]
   exact B
  ·have y:J≠b:=λz=>F (by simp[z])
   rw[a9 _ _ y]
   exact e
 done:=λz Q E st G=>by
  obtain⟨f,n,B⟩:=st
  have l:z.TypeIs (.ref J) "set_iterator" :=⟨_,f,rfl⟩
  unfold jk
  refine ab (jv (c6 (name:=aR "__next__") l iw (dE iw l pX ?_ (rZ _))))
  refine ab (aq (ab (sW f rfl ?_)))
  show aK _ _ (Dc Z>>=_) _ _ z
  refine ab (jm n I O ?_)
  rw[ax (by simp)]
  show aK _ _ (tV (.ref Tt)>>=_) _ _ z
  refine ab (dB B rfl ?_)
  have N:((pl.map λ(p:Nat)=>cg p).toArray)[pl.length]?=none:=by simp
  dsimp only
  rw[show((pl.length:Nat):Int).toNat=pl.length from rfl,N]
  show aK _ _ (ZE (.ref J) 0 (cg 0)>>=_) _ _ z
  refine ab (gU f rfl (by simp) ?_)
  have s1:=zG (i:=0) (x:=cg 0) f
  refine ab (gU s1 rfl (by simp) (ab ?_))
  simp only[Zv,Zw]
  refine ab (eh ?_ (by size_fits))
  refine ab (m:=ny _ _) (sS (a:=Value.none) (by first|rfl|(simp only[ny];rfl)) (eh ?_ (by size_fits)))
  dsimp only[Zx]
  refine ab (G5 ?_)
  rw[show A.in1.handled=none from hh]
  refine ab (aq (Nk ?_))
  refine ab (lh (T:="StopIteration") (b:=true) ⟨_,ay _ rfl,rfl⟩ sU (aq (G _ _ λb u F e=>?_)))
  have y:J≠b:=λz=>F (by simp[z])
  refine ae _ (ae _ ?_)
  rw[a9 _ _ y,a9 _ _ y]
  exact e
theorem GP(c):∀(d k) (b) (out:Array o),b.length=d->(xA c d k b out).toList.Perm (out.toList++b)|0,k,b,out,h=>by have:b=[]:=c8 h;subst this;unfold xA;rw[bM]|d+1,k,b,out,h=>by dsimp only[xA];have n:c k % b.length<b.length:=oF _ Eg;rw[ai n];refine(GP c d (k+1) _ _ (by rw[xZ n];simp_all)).trans ?_;rw[Jh,bu,uG];refine List.Perm.append_left _ ?_;have e:b=b.take (c k % b.length)++b[c k % b.length]::b.drop (c k % b.length+1):=by{rw[jH,Dd]};show(b[c k % b.length]::(b.take (c k % b.length)++b.drop (c k % b.length+1))).Perm b;exact(M0 (a:=b[c k % b.length]) (l₁:=b.take (c k % b.length)) (l₂:=b.drop (c k % b.length+1))).symm.trans (.of_eq e.symm)
def IG(a)(xs:Array d):(pickOrder a xs).toList.Perm xs.toList:=by have:=GP a xs.size 0 xs.toList #[] (by simp);simpa[pickOrder] using this
def NK{h}{t}(n:o.data=.set es h t)(p:t.fits es.size=true)(l:FA w=true):SN prog w Z o h (λ_=>0) (pickOrder (w.params.setOrder Z h) es):=by have j:∀(i:Nat) (A:Around) (E:Value->Shared->Prop) (s:Shared) (Q:Option (Value×Nat)->Shared->Prop),s.heap.get? Z=some o->Q (((pickOrder (w.params.setOrder Z h) es)[i]?).map λe=>(e.2,0)) s->aK (aT prog w) A (tW Z 0 i h) Q E s:=λi A E s Q f g=>by{unfold tW;refine ab (iK f n p ?_);dsimp only;unfold De;refine ab (ab (je (aq ?_)));rw[au (show(aT prog w).w.params.followText "set-order" =true from l),ax (by simp)];refine ab ?_;delta setWalk De;refine ab (iK f n p ?_);dsimp only;refine ab (ab (je (aq ?_)));rw[au (show(aT prog w).w.params.followText "set-order" =true from l)];refine ab (je (aq (aq ?_)));exact g};refine⟨λi x q A E s Q f g=>j i A E s Q f ?_,λA E s Q f g=>j _ A E s Q f ?_⟩;{rw[q];exact g};.rw[gM (aB _)];exact g
abbrev slotAt(t:SetTable)(i:Nat):Nat:=if i=0 then 0 else t.place.getD (i -1) 0+1
def EX(o:Ht t.place){i}(hi:i<=t.place.size):bY t.place (slotAt t i)=i:=by
 obtain⟨p,e,n⟩:=mQ o (slotAt t i);cases i with
  |zero=>rcases gX (bY t.place (slotAt t 0)) with z|z;{exact z};.have:=e 0 (by lia) z;exact absurd this (Nat.not_lt_zero _)
  |succ k=>have g:k<t.place.size:=by{lia};have es:slotAt t (k+1)=t.place[k]+1:=by{simp[slotAt,g]};rw[es] at p e n⊢;have r:k<bY t.place (t.place[k]+1):=by{rcases lN k (bY t.place (t.place[k]+1)) with z|z;{exact z};.have:=n k g z;lia};have s:bY t.place (t.place[k]+1)<=k+1:=by{rcases lN (k+1) (bY t.place (t.place[k]+1)) with z|z;{have m:k+1<t.place.size:=by{lia};have:=e (k+1) m z;have:=o.lt g m Eg;grind};.exact z};lia
def K4{v}{t}(B:o.data=.set es v t)(q:t.fits es.size=true)(g:kc (FA w) t)(y:FA w=false)(C:(!t.plain&&decide (es.size>1))=false):SN prog w Z o v (slotAt t) es:=by have hsz:t.place.size=es.size:=by{unfold SetTable.fits at q;simp only[aa,fQ] at q;exact q.1};have n:t.led=true:=by{rcases g.led with z|z;{rw[y] at z;cases z};.exact z};have m:∀(i:Nat),i<=es.size->∀(A:Around) (E:Value->Shared->Prop) (s:Shared) (Q:Option (Value×Nat)->Shared->Prop),s.heap.get? Z=some o->Q (match es[i]?,t.place[i]? with|some (_,x),some j=>some (x,j+1)|_,_=>none) s->aK (aT prog w) A (tW Z (slotAt t i) i v) Q E s:=λi hi A E s Q p k=>by{unfold tW;refine ab (iK p B q ?_);dsimp only;unfold De;refine ab (ab (je (aq ?_)));rw[ax (show ¬(aT prog w).w.params.followText "set-order" =true from by rw[show(aT prog w).w.params.followText "set-order" =false from y];exact c9)];show aK _ _ (if(!t.plain&&decide (es.size>1))=true then oz "set_iterator.__next__:the-table-is-plain-no-more" else _) _ _ _;rw[C,ax c9];show aK _ _ ((if(!t.led&&!es.isEmpty)=true then oz "set:maker-not-led" else pure ())>>=_) _ _ _;rw[n,ax (by simp)];refine ab (aq ?_);rw[EX g.ris (by rw[hsz];exact hi)];exact aq k};refine⟨λi x r A E s Q p k=>?_,λA E s Q p k=>m _ (aB _) A E s Q p ?_⟩;{have hi:i<es.size:=by{rcases lN i es.size with z|z;{exact z};.rw[gM z] at r;cases r};have l:i<t.place.size:=by{rw[hsz];exact hi};refine m i (eU hi) A E s Q p ?_;rw[r,eG l];have:slotAt t (i+1)=t.place[i]+1:=by{simp[slotAt,l]};rw[this] at k;exact k};.rw[gM (aB _)];exact k
end
section
variable {prog:Program}{w:World}{A:Around}{E:Value->Shared->Prop}{s:Shared}{ks:List Int}
def J6(n:s.TypeIs (.ref r) "set")(h:Q false s):aK (aT prog w) A (gE (.ref r)) Q E s:=by unfold gE;refine ab (YC n PySem.F.slot_set_len.lookup ?_);generalize j:("set.__len__" :String)=m;wp_delta;rw[show splitId m=some ("set","__len__") from by subst j;decide+kernel];subst j;refine ab (lh (T:="set") (b:=true) n (by rw[C9];kernel_rfl) (YN (λg=>absurd g JN) (λ_=>?_)));refine YN (λ_=>ab (wpAny_typeOf n (aq h))) (λg=>absurd zv g)
def AN{Z J S}{q}{n}{Pq}{Q}{c0}{res}{O}(B:O=true)(W:Walks prog w A.in1 J q [J] n Pq Q)(j:S∉q)(U:J∈q)(hZf:Z∈q)(Y:n<=aG)(hT:s.TypeIs (.ref Z) "set")(st:Q 0 s.heap)
  (M:s.heap.get? S=some {cls:=.type "list",data:=.seq #[] c0})
  (X:∀h' tk acc c,(∀b o,b≠S->b≠J->s.heap.get? b=some o->h'.get? b=some o)->h'.get? S=some {cls:=.type "list",dict:=none,data:=.seq acc c,slots:=#[]}->UY Pq acc n->R (.ok (.ret res)) {s with heap:=h',toks:=tk}):
  aK (aT prog w) A.in1 (do
    let m<-fw [.ref J] (gE (.ref Z))
    if(m||O)=true then do
     GZ "list.extend.makes-room"
     u5 (.ref S)
     An (.builtin "list.extend.loop" ⟨[.ref S,.ref J,res],[]⟩)
    else An (.builtin "list.extend.loop" ⟨[.ref S,.ref J,res],[]⟩))
   (λG t=>match G with|.done f=>R (.ok f) t|.again P=>P.quiet=true/\iI (aT prog w) A P R t) (λe t=>R (.error e) t) s:=by
 refine ab (eX (J6 hT ?_))
 rw[B,Bool.or_true,au rfl]
 refine ab (nv (ab ?_))
 show aK _ _ (Jf S (·.push .none)>>=λ_=>Jf S (·.pop)) _ _ _
 refine ab (jI M rfl ?_)
 have T:=d6 (jl (·.push Value.none)) M rfl
 refine jI (hz:=by seq_fits) T rfl ?_
 have s3:=d6 (jl (·.pop)) T rfl
 have p:∀b o,b≠S->s.heap.get? b=some o->((s.heap.update S (jl (·.push Value.none))).update S (jl (·.pop))).get? b=some o:=λb o g e=>
  (a9 _ _ (dQ g)).trans ((a9 _ _ (dQ g)).trans e)
 refine aq ⟨jw PySem.F.plain_extend_loop _,?_⟩
 refine codeAny_extend_loopS W.toS Y S j res n 0 _ #[] _ rfl (fJ _) (W.frame 0 _ _ st λb g o e=>p b o (λh=>j (h▸g)) e) s3 (ItemsOf.nil _) λz acc c N hz k=>?_
 rw[Moved.eq_with N]
 refine X z.heap z.toks acc c (λb o g x e=>N.heap b o (λC=>?_) (p b o g e)) hz k
 rcases aD.mp C with e'|C
 ·exact g e'
 ·exact x (bB.mp C)
def GK{es:List (Int×Value)}{b}{acc}(hi:IntsAre (es.map (·.2)) b)(c:acc.Perm (es.map (·.2))):∃a,IntsAre acc a/\a.Perm b:=tu c hi
def wX(h:UY Pq acc l.length)(k:∀i v,Pq i v->l[i]?=some v):acc.toList=l:=by apply eW;intro i;rw[fM];by_cases hi:i<acc.size;{rw[eG hi,k i _ (h.2 i _ (eG hi))]};.rw[gM (by omega),bF (by rw[<-h.1];omega)]
def Pk{Z S}{c0:Nat}{res}(hh:A.handled=none)(g:lx prog w s.heap Z ks)(Y:S≠Z)(hS:s.heap.get? S=some {cls:=.type "list",data:=.seq #[] c0})
  (hR:∀h' tk d acc c,(∀b o,b≠S->s.heap.get? b=some o->h'.get? b=some o)->h'.get? S=some {cls:=.type "list",dict:=none,data:=.seq acc c,slots:=#[]}->(∃is,IntsAre acc.toList is/\is.Perm ks)->R (.ok (.ret res)) {s with heap:=h',toks:=tk,drawn:=d}):
  aK (aT prog w) A.in1 (gD (.ref S) (.ref Z) res)
   (λL C=>match L with|.done f=>R (.ok f) C|.again c'=>c'.quiet=true/\iI (aT prog w) A c' R C) (λe C=>R (.error e) C) s:=by
 obtain⟨o,es,ep,t,is,O,hx,U,hel,hb,X,gt,hi,hp⟩:=g
 have hT:s.TypeIs (.ref Z) "set" :=⟨o,O,hx.1⟩
 have hZ:=aF O
 have hSl:=aF hS
 have hnl:es.size<=aG:=xy hb
 dsimp only[gD]
 refine ab (wpAny_typeOf (T:="set") hT ?_)
 have h1:j0 (.ref S) (.ref Z)=false:=by simp[j0,Y]
 simp only[h1,show(Value.type "set" ==Value.type "list")=false from by decide,show(Value.type "set" ==Value.type "tuple")=false from by decide,Bool.or_false,jh,AG]
 refine ab (U2 hT Au (dE Au hT HP ?_ (PySem.F.args_set_iter_1 _)))
 unfold jG.«frozenset.__iter__»
 refine ab (aq ?_)
 unfold Nu
 refine ab (ab (jm O U X (aq ?_)))
 delta setDrawn De
 refine ab (ab (iK O U X ?_))
 dsimp only
 refine ab (ab (je (aq (aq ?_))))
 have M:∀{J:aE} {h h':Heap},(∀b u,s.heap.get? b=some u->h.get? b=some u)->s.heap.objs.size<=J->(∀b u,b≠S->b≠J->h.get? b=some u->h'.get? b=some u)->∀b u,b≠S->s.heap.get? b=some u->h'.get? b=some u:=λ{J h h'} k hJ kp b u hb e=>kp b u hb (a7 (aJ (aF e) hJ)) (k b u e)
 have slots:∀{first:Nat->Nat} {W:Array (Int×Value)},first 0=0->W.toList.Perm es.toList->SN prog w Z o ep first W->aK (aT prog w) A.in1.in1 (do
   let first<-pure (cg 0)
   let q<-setEpoch Z
   let r<-newFields "set_iterator" [first,cg 0,Value.ref Z,cg es.size,cg q]
   ret r) (λL C=>∃v,L=Fin.done (.ret v)/\∃T' r,C.TypeIs v T'/\RA (.type T') "__next__" =pure (some r)/\aK (aT prog w) A.in1 (do
    let room<-fw [v] (gE (.ref Z))
    if(room||true)=true then do
     GZ "list.extend.makes-room"
     u5 (.ref S)
     An (.builtin "list.extend.loop" ⟨[.ref S,v,res],[]⟩)
    else An (.builtin "list.extend.loop" ⟨[.ref S,v,res],[]⟩))
   (λL C=>match L with|.done f=>R (.ok f) C|.again c'=>c'.quiet=true/\iI (aT prog w) A c' R C) (λe C=>R (.error e) C) C) (λe C=>R (.error e) C) s:=by
  intro first W h0 hW N
  have hWs:W.size=es.size:=by rw[<-br,hW.length_eq,br]
  refine ab (aq (ab (U4 O U X (ab (eh (aq ⟨_,rfl,"set_iterator",_,⟨_,ay _ rfl,rfl⟩,iw.lookup,?_⟩))))))
  have hJ:Z≠s.heap.objs.size:=a7 hZ
  have W0:=Dm (A:=A.in1) (J:=s.heap.objs.size) hh hJ U X hWs N
  refine AN (Z:=Z) rfl W0 (by simp only[aD,kj,Jq,sM];exact⟨a7 hSl,Y⟩) (by simp) (by simp) (by rw[hWs];exact hnl) ⟨o,ae _ O,hx.1⟩ ⟨?_,ae _ O⟩ (ae _ hS) λh' tk acc c kp hz I=>?_
  ·rw[ay _ rfl,h0]
   rfl
  ·have hal:acc.toList=W.toList.map (·.2):=wX (Pq:=λi v=>∃x,W[i]?=some x/\v=x.2) (l:=W.toList.map (·.2)) (by rw[ak,br];exact I) λi v ⟨x,e1,e2⟩=>by
    rw[aP,fM,e1,e2]
    rfl
   obtain⟨js,j1,j2⟩:=GK hi (acc:=acc.toList) (by rw[hal];exact hW.map _)
   exact hR h' tk s.drawn acc c (M (λb u e=>ae _ e) (aB _) kp) hz ⟨js,j1,j2.trans hp⟩
 have eres:(j0 (.ref S) (.ref Z))=false:=h1
 cases P:FA w with
 |true=>
  rw[ax (by
   show ¬((!FA w&&_)=true)
   rw[P]
   simp)]
  exact slots rfl (IG _ _) (NK U X P)
 |false=>
  cases hdr:(!t.plain&&decide (es.size>1)) with
  |false=>
   rw[ax (by
    show ¬((!FA w&&(!t.plain&&decide (es.size>1)))=true)
    rw[hdr]
    simp)]
   exact slots rfl (.refl _) (K4 U X gt P hdr)
  |true=>
   rw[au (by
    show((!FA w&&(!t.plain&&decide (es.size>1)))=true)
    rw[P,hdr]
    rfl)]
   refine ab (Br es.size (aj es.size) s _ (by simp) λpl d Q=>?_)
   refine ab (Zy ?_ (by rw[ak,Q.length_eq,dD];exact hnl))
   refine ab (U4 (ae _ O) U X (ab (eh (aq ⟨_,rfl,"set_iterator",_,⟨_,ay _ rfl,rfl⟩,iw.lookup,?_⟩))))
   have hpm:∀p∈pl,p<es.size:=λp hp=>by simpa using Q.mem_iff.mp hp
   have hln:pl.length=es.size:=by rw[Q.length_eq,dD]
   have hsz1:(s.heap.push (kv "tuple" (pl.map λ(p:Nat)=>cg p).toArray 0)).objs.size=s.heap.objs.size+1:=size_push' ..
   have W0:=DG (prog:=prog) (w:=w) (A:=A.in1) (Z:=Z) (J:=(s.heap.push (kv "tuple" (pl.map λ(p:Nat)=>cg p).toArray 0)).objs.size) (Tt:=s.heap.objs.size) hh (by rw[hsz1];exact a7 (fc hZ)) (by rw[hsz1];exact a7 (gC _)) U X hpm
   refine AN (Z:=Z) rfl W0 (by
     simp only[aD,kj,Jq,sM]
     exact⟨by rw[hsz1];exact a7 (fc hSl),Y,a7 hSl⟩) (by simp) (by simp) (by rw[hln];exact hnl) ⟨o,ae _ (ae _ O),hx.1⟩
    ⟨ay _ rfl,ae _ (ae _ O),ae _ (ay _ rfl)⟩ (ae _ (ae _ hS)) λh' tk acc c kp hz I=>?_
   have hal:acc.toList=pl.map λp=>(es.getD p (0,.none)).2:=wX (Pq:=λi v=>∃p x,pl[i]?=some p/\es[p]?=some x/\v=x.2) (l:=pl.map λp=>(es.getD p (0,.none)).2) (by rw[ak];exact I) λi v ⟨p,x,e1,e2,e3⟩=>by
    rw[aP,e1]
    show some (es.getD p (0,.none)).2=_
    rw[Array.getD_eq_getD_getElem?,e2,e3]
    rfl
   have hmap:(aj es.size).map (λp=>(es.getD p (0,.none)).2)=es.toList.map (·.2):=by
    apply nR
    ·simp
    ·intro i g1 g2
     simp at g1
     simp[g1]
   obtain⟨js,j1,j2⟩:=GK hi (acc:=acc.toList) (by rw[hal,<-hmap];exact Q.map _)
   exact hR h' tk d acc c (M (λb u e=>ae _ (ae _ e)) (by rw[hsz1];exact m8 _) kp) hz ⟨js,j1,j2.trans hp⟩
end
section
variable {prog:Program}{w:World}{A:Around}{E:Value->Shared->Prop}{s:Shared}{ks:List Int}
def Pb{Z}(B:A.handled=none)(g:lx prog w s.heap Z ks) (h:∀h' tk d acc,s.heap.objs.size<h'.objs.size->(∀b o,s.heap.get? b=some o->h'.get? b=some o)->(∃q,IntsAre acc q/\q.Perm ks)->Q acc {s with heap:=h',toks:=tk,drawn:=d}):aK (aT prog w) A (UZ (.ref Z)) Q E s:=by
 have z:Z<s.heap.objs.size:=by obtain⟨o,_,_,_,_,C,_⟩:=g;exact aF C
 unfold UZ;refine ab (C8 (dR Np ?_));show aK _ _ (do An (.builtin "list.__iadd__" ⟨[<-UP [],.ref Z],[]⟩)) _ _ s;refine ab (u1 (aq ⟨sD _ zv,dR VL ?_⟩));rw[dF (id:="list.__iadd__") zv _];show aK _ A.in1 (gD (.ref s.heap.objs.size) (.ref Z) (.ref s.heap.objs.size)) _ _ {s with heap:=s.heap.push (kv "list" #[] 0)};refine Pk (R:=λr u=>match r with|.ok (.ret v)=>aK (aT prog w) A (match v with|.ref a=>(do let o<-load a;match o.data with|.seq xs _=>pure xs.toList|_=>oz "internal:collect")|_=>oz "internal:collect") Q E u|.ok _=>False|.error e=>E e u)
  (s:={s with heap:=s.heap.push (kv "list" #[] 0)}) B (g.of_get λo e=>ae _ e) (gS z) (ay _ rfl) λh' tk d acc c y t l=>?_
 refine ab (Rx t (aq ?_));exact h h' tk d acc.toList (aF t) (λb o e=>y b o (a7 (aF e)) (ae _ e)) l
def Om{Z}(L:A.handled=none)(g:lx prog w s.heap Z ks)(F:ks.length<64) (h:∀D h' tk d u vs ns,s.heap.objs.size<=D->(∀b o,s.heap.get? b=some o->h'.get? b=some o)->h'.get? D=some (kv "list" vs u)->IntsAre vs.toList ns->ns.Perm ks->ns.Pairwise (·<=·)->Q (.ref D) {s with heap:=h',toks:=tk,drawn:=d}):aK (aT prog w) A (call (.builtin "sorted") [.ref Z]) Q E s:=by refine Calls.call_function_entry kind_sorted plain_sorted entry_sorted (args_sorted1 _) ?_;dsimp only[jG.«sorted»];refine ab (m:=checkCount "sorted" 1 1 _) (aq (ab (Pb L g λt v d2 acc hsz G n=>?_)));obtain⟨N,C,B⟩:=n;have p:acc.length=ks.length:=by{rw[C.length,B.length_eq]};refine ab (u1 ?_ (by rw[p];exact aM (eU F) JN));have i:(t.push (kv "list" acc.toArray 0)).get? t.objs.size=some (kv "list" acc.toArray 0):=ay _ rfl;refine ab (eX (dE ZA ⟨_,i,rfl⟩ YJ (list_sort_tree (s:={s with heap:=t.push (kv "list" acc.toArray 0),toks:=v,drawn:=d2}) i C (by rw[p];exact F) λout y J I M=>⟨_,rfl,?_⟩) (args_list_sort _)));obtain⟨u,H⟩:=sortedHeap_at (vs:=acc) (out:=out) i;refine aq ⟨_,rfl,h _ _ _ _ u out y (eU hsz) (λb o e=>?_) H J (I.trans B) M⟩;have z:=aF e;rw[sortedHeap_old (a7 (gi z hsz)) (by rw[size_push'];exact fc (gi z hsz))];exact ae _ (G b o e)
end
def Hk{a b:List Int}(p:a.Perm b)(c:a.Pairwise (·<=·))(d:b.Pairwise (·<=·)):a=b:=p.eq_of_pairwise (λx y _ _ h k=>xm h k) c d
def EW{ns g}(p:g.Perm (gY (λi=>ns.getD i 0) ns.length))(h:g.Pairwise (·<=·)):g=kg ns:=by obtain⟨q,o⟩:=Lw (λi=>ns.getD i 0) ns.length;have p2:(gY (λi=>ns.getD i 0) ns.length).Perm (kg ns):=tG q λz=>by{rw[o];constructor;{rintro⟨j,m,rfl⟩;exact ju m};.intro h;obtain⟨j,m,e⟩:=C5 h;exact⟨j,m,e⟩};exact Hk (p.trans p2) h ((ke ns).imp λ{a b} h=>Int.le_of_lt h)
section
variable {X:Cx}{π:List (aE×Obj)}{σ:L2.St}{H:Hp}{s:Shared}{a:Ad}{ρ:Ev}{x:Expr}{p p2 pos pos2:Pos}{ns:List Int}
def IL{D:aE}{o}{h'}{t'}{d'}(I:IM X π σ H s)(k:∀b u,s.heap.get? b=some u->h'.get? b=some u)(f:s.heap.objs.size<=D)(c:gB X.prog X.w (IZ H D o) h' D o):IM X π σ (IZ H D o) {s with heap:=h',toks:=t',drawn:=d'}:=by have d:=I.fR.fresh f;have p:∀b u,s.heap.get? b=some u->b≠D:=λb u e=>a7 (aJ (aF e) f);exact I.step (g':=s.gens) (d':=d') (ch:=[]) (λ_ z=>nomatch z) (λb u _ _ _ e _=>k b u e) (λb u _ _ _ e _=>⟨u.slots,k b u e⟩) (λb u _ e n=>by rw[aS (p b u e)];exact n) (λb u _ e=>⟨u,k b u e⟩) (λb xs e=>by rw[aS (aY e d)];exact e) (λb u v e=>by rw[aS (aY e d)];exact e) (λb ps e=>⟨#[],by rw[aS (aY e d),e];rfl⟩) (λm ⟨o,es,q,e,r⟩=>⟨o,es,q,k _ _ e,r⟩) (I.fR.laid k f c) I.bare
abbrev Ql(prog:Program)(w:World)(p:aE)(ks:List Int):HO:=.ext λh=>lx prog w h p ks
def NW{H}{h}{p}{ks}(g:lx prog w h p ks):gB prog w H h p (Ql prog w p ks):=⟨g,(by obtain⟨o,_,_,_,_,c,_⟩:=g;exact⟨o,c⟩),λe d z k=>z.of_get k⟩
def OF(t:X.calm=true):jc X (.type "set") (λvs H Q=>∃(l:aE) (ns:List Int),vs=[.ref l]/\nj X.K H l (ns.map V.int)/\ns.length<=4000/\∀p,H p=none->Q (.ref p) (IZ H p (Ql X.prog X.w p (gY (λi=>ns.getD i 0) ns.length)))):=by intro π s σ H vs us Q I r h;obtain⟨l,ns,rfl,o,hz,q⟩:=h;obtain⟨its,n,v,_⟩:=I.list o;rw[cu.qW r];have c:its.length=ns.length:=by{rw[<-n.length,ak]};have hsz:its.toArray.size=ns.length:=by{rw[bx,c]};refine set_list (I.ok.hd t) v.isList n.ints (by rw[hsz];show _<4096;omega) λh' tk g x=>?_;rw[hsz] at g;exact⟨.ref _,_,I.laid (λb u e=>x b u (aF e) e) (aB _) (NW g),rfl,q _ (I.fR.fresh (aB _))⟩
def MG(t:X.calm=true):jc X (.builtin "sorted") (λvs H Q=>∃(l:aE) (ns:List Int),vs=[.ref l]/\H l=some (Ql X.prog X.w l (gY (λi=>ns.getD i 0) ns.length))/\ns.length<64/\∀p,H p=none->Q (.ref p) (IZ H p (.lst ((kg ns).map V.int)))):=by intro π s σ H vs us Q I r h;obtain⟨l,ns,rfl,z,hz,q⟩:=h;rw[cu.qW r];obtain⟨g,_,_⟩:=(show lx X.prog X.w s.heap l (gY (λi=>ns.getD i 0) ns.length)/\_ from I.fR l _ z);refine Om (I.ok.hd t) g (bO (vo _ _) hz) λD h' tk d u vs B n x v hi m A=>?_;have e:=EW m A;subst e;exact⟨.ref D,_,IL (o:=.lst ((kg ns).map V.int)) I x n ⟨by rw[ak,m.length_eq];exact aM (vo _ _) (aM (eU hz) JN),vs.toList,u,sx hi,by exact v⟩,rfl,q D (I.fR.fresh n)⟩
def DP(hc:X.calm=true)(A:Gl X "sorted")(z:X.mg "sorted" =none)(hg2:Gl X "set")(j:X.mg "set" =none)(n:∀es,aH (x::es) X.env=(false,cq x X.env)::aH es X.env)(h:ED a X ρ x (.lst (ns.map .int)))(hz:ns.length<64):ED a X ρ (.Call (.Name "sorted" p) [.Call (.Name "set" p2) [x] [] pos2] [] pos) (.ints (kg ns)):=λS H σ R Q q=>by refine dY (mX (MG hc) A z zv (fK (qc (OF hc) hg2 j zv (fK b9 hF (n _)) zv zv (n _) rfl) hF rfl) zv zv rfl rfl) (h S H σ R _ λv B C e y=>?_);obtain⟨l,rfl,t1⟩:=Rp.ints y;refine⟨l,ns,rfl,Rd.xl (Rd.mono e.h t1),by omega,λr t=>⟨r,ns,rfl,bh,hz,λD u=>?_⟩⟩;have s:=e.trans (EB.vU (o:=Ql X.prog X.w r (gY (λi=>ns.getD i 0) ns.length)) e.h t);exact q _ _ _ (s.trans (EB.new s.h u)) (.lst (.inl bh) (bN.ofInts _))
end
def Sm(a:Ad)(X:Cx)(ρ:Ev)(m:E):Syn->D->Prop|.e x,d=>ED a X ρ x d|.t x,d=>∃b,d=.bl b/\TD a X ρ x b|.w x,d=>∃b,d=.bl b/\WD a X ρ x b|.a xs,d=>∃ds,d=.lst ds/\ds.length=xs.length/\AD a X ρ xs ds|.i x,d=>∃ds,d=.lst ds/\∀c,(jR m=true->∃es g p,c=.Tuple es g p)->ID a X ρ c x ds|.f x,d=>∃ds,d=.lst ds/\FD a X ρ x ds|.o x,d=>∃o,Ca d=some o/\OD a X ρ x o
section
variable {a:Ad}{G:Gm}{T:Ts}{F:List Nat}{N:List Str}{k:Nat}
def lA:∀{m:E} {sc:Scope} {es:List Expr},dO T F N k m sc (.a es)=true->es.all D8=true:=by intro m;induction m with(intro sc es h)|cons x r ihx ihr=>exact SL es h λx l h=>Pv h λh1 h2 h3=>E6.2 ⟨h1,ihr h3⟩|nil=>exact Tk es h rfl|_=>exact(c9 h).elim
theorem tN:∀{es} {env},es.all D8=true->aH es env=es.map λe=>(false,cq e env)|[],_,_=>rfl|e::es,env,h=>by simp only[eS,aa] at h;rw[dm h.1,tN h.2];rfl
def jn{pos}(h:es.all D8=true):(dU pos (aH es env)).any (·.1)=false:=by rw[tN h];unfold dU;simp[ou]
def plain_all{pos}(h:es.all D8=true):(dU pos (aH es env)).all (λx=>!x.1)=true:=by rw[tN h];unfold dU;simp[iJ]
def yL{ypos b pos}{a}{env}(h:a.all D8=true)(n:a.length<29)(e:(b.endLine==pos.line)=true):
  cq (.Call (.Attribute (.Name y ypos) m b) a [] pos) env=(do
   let k<-cq (.Name y ypos) env
   lJ b.atName
   let(f,first)<-fw [k] (m7 k m (do return(<-importBound (.Name y ypos) env).getD true))
   xt pos f first (dU pos (aH a env)) (gT pos (eA [] env))):=by
 have d:ZF (a.length+([]:List Keyword).length) (dU pos (aH a env)) (gT pos (eA [] env))=true:=by
  unfold ZF
  rw[plain_all h]
  show(true&&true&&decide (a.length+0+0<30))=true
  simp
  omega
 have i:methodCallPos true (.Name y ypos) env b pos=pure pos:=by unfold methodCallPos;simp[e]
 rw[arm_eval_Call]
 unfold methodCall
 rw[d,i]
 rfl
theorem Ec(e:∀x o,f x=some o->B x o):∀{xs ys},uR f xs=some ys->yD B xs ys|[],ys,h=>by obtain rfl:=bA h;exact .nil|x::xs,ys,h=>by rw[uR] at h;split at h;{cases h};{exact .no (e _ _ (by assumption)) (Ec e h)};.rename_i y k;cases g:uR f xs with|none=>rw[g] at h;cases h|some l=>rw[g] at h;obtain rfl:=bA h;exact .yes (e _ _ k) (Ec e g)
def OV{d}{c}{j}{pos}(h:WB d c=true):ED a X ρ (.Constant c j pos) d:=by(cases d<;>cases c<;>first|exact(c9 h).elim|skip);{exact Ed};{have e:=eq_of_beq (show(_==_)=true from h);subst e;exact Yd};{have e:=gN h;subst e;exact T2};.have e:=gN h;subst e;exact SQ
def TZ{o}{op}(h:opB o op=true):lQ X (qg op) (IC a X.K (Sd o)):=by cases gN h;exact TV o
def Hy(h:jV e=true):behindInMarks .NotIn e=false:=by cases e<;>first|rfl|cases h
def y9(h:o7 i j c=some d):∃ds,d=.lst ds:=by unfold o7 at h;split at h<;>cases h;exact⟨_,rfl⟩
def LI(h:F0 x=some d):∃ds,d=.lst ds:=by unfold F0 at h;split at h;{exact y9 h};.cases h
def LG(h:Fm x y=some d):∃ds,d=.lst ds:=by unfold Fm at h;split at h;{exact y9 h};.cases h
def Lx(h:F4 x y z=some d):∃ds,d=.lst ds:=by unfold F4 at h;split at h;{exact y9 h};.cases h
def PJ(h:Ds x y=some d):∃ds,d=.lst ds:=by unfold Ds at h;split at h<;>cases h;exact⟨_,rfl⟩
def Pe(h:EU x=some d):∃ds,d=.lst ds:=by unfold EU at h;split at h<;>cases h;exact⟨_,rfl⟩
def OZ(h:nQ e=true):T5 e:=λo i=>by cases e<;>first|rfl|cases h
theorem uL.bn(C:uL a G T F N k c b X){x}(h:x∈(["len","abs","max","min","sum","all","any","ord","list","range","zip","enumerate","sorted","set"]:List Str)):X.mg x=none:=C.tx.bn x h
def Fq{mi}{t}{own}{x f z}{ifs}{d}{xs ys}{B} (C:uL a G T F N k P U X) (n:Jj N d t f=true) (m:(!jR mi||vy t)=true) (p:jV z=true) (r:v8 N P d (mY N own)=true) (u:t.slots.all (λj=>own.contains j)=true) (hi:Sm a X ρ mi (.i z) (.lst xs)) (I:uR B xs=some ys) (Q:∀M o,B M=some o->qm a X ρ d f t ifs x own M o):ID a X ρ f z xs/\mO X.N X.env.scope d (mY N own)/\(∀(s) (H) (L) (cl) (A),GD a (X.lK s H d (cJ d cl L X.env) A) f t)/\(∀i∈t.slots,i∈(mY N own).map (·.2))/\yD (qm a X ρ d f t ifs x ((mY N own).map (·.2))) xs ys/\(∀x,cH z X.env x=pure x):=by have O:(mY N own).map (·.2)=own:=by{unfold mY;rw[aV];exact List.map_id' own};obtain⟨ds,e,h⟩:=hi;cases e;refine⟨h f λq=>?_,?_,λs H L cl A=>JS ?_ ?_ (uL.tg (C.lK s H cl L A) n),λi hi=>?_,?_,λx=>Dt p _ x⟩;{rw[q] at m;cases t with|nm i=>cases m|tp l=>exact qx7 f n λes e p _=>⟨es,e,p,rfl⟩};{rw[C.hN,C.Hs];exact KR r};{show X.N.Nodup;rw[C.hN];exact C.nd};{exact C.calm};{rw[O];have:=aN.1 u i hi;simpa using this};.rw[O];exact Ec Q I
def Yq{x}{d}(b:D8 x=true)(h:ED a X ρ x d):AD a X ρ [x] [d]:=pP (λes=>dm b es _) h JT
section
variable {x y z:Option D}{d:D}{P:Prop}
def qj7{f:D->Option D}(h:(match x with|some a=>f a|none=>none)=some d)(k:∀a,x=some a->f a=some d->P):P:=by cases x with|none=>cases h|some a=>exact k a rfl h
def qj8{f:D->D->Option D}(h:(match x,y with|some a,some b=>f a b|_,_=>none)=some d)(k:∀a b,x=some a->y=some b->f a b=some d->P):P:=by cases x with|none=>cases h|some a=>cases y with|none=>cases h|some b=>exact k a b rfl rfl h
def qj9{f:D->D->D->Option D}(h:(match x,y,z with|some a,some b,some c=>f a b c|_,_,_=>none)=some d)(k:∀a b c,x=some a->y=some b->z=some c->f a b c=some d->P):P:=by cases x with|none=>cases h|some a=>cases y with|none=>cases h|some b=>cases z with|none=>cases h|some c=>exact k a b c rfl rfl rfl h
def qk0{f:Int->Option D}(h:(match x with|some (.int i)=>f i|_=>none)=some d)(k:∀i,x=some (.int i)->f i=some d->P):P:=by cases x with|none=>cases h|some a=>cases a<;>first|exact k _ rfl h|cases h
def qk1{f:Bool->Option D}(h:(match x with|some (.bl i)=>f i|_=>none)=some d)(k:∀i,x=some (.bl i)->f i=some d->P):P:=by cases x with|none=>cases h|some a=>cases a<;>first|exact k _ rfl h|cases h
def qk2{f:List D->Option D}(h:(match x with|some (.lst i)=>f i|_=>none)=some d)(k:∀i,x=some (.lst i)->f i=some d->P):P:=by cases x with|none=>cases h|some a=>cases a<;>first|exact k _ rfl h|cases h
def qk3(h:(match x with|some .ie=>some (D.bl true)|some _=>some (.bl false)|none=>none)=some d)(k:∀a b,x=some a->d=.bl b->(match a with|.ie=>some (D.bl true)|_=>some (.bl false))=some (.bl b)->P):P:=by cases x with|none=>cases h|some a=>cases a<;>cases h<;>exact k _ _ rfl rfl rfl
def qk4(h:(match x with|some .ie=>some (D.bl false)|some _=>some (.bl true)|none=>none)=some d)(k:∀a b,x=some a->d=.bl b->(match a with|.ie=>some (D.bl false)|_=>some (.bl true))=some (.bl b)->P):P:=by cases x with|none=>cases h|some a=>cases a<;>cases h<;>exact k _ _ rfl rfl rfl
def qk5(h:(match x with|some (.bl true)=>(match y with|some (.bl c)=>some (D.bl c)|_=>none)|some (.bl false)=>some (.bl false)|_=>none)=some d)(k:∀b c,x=some (.bl b)->d=.bl (b&&c)->(b=true->y=some (.bl c))->P):P:=by
 cases x with
  |none=>cases h
  |some a=>cases a with
   |bl b=>cases b with|false=>cases h;exact k false false rfl rfl (λz=>by cases z)|true=>exact qk1 h λc hc h=>by cases h;exact k true c rfl rfl λ_=>hc
   |_=>cases h
def qk6(h:(match x with|some (.bl true)=>some (D.bl true)|some (.bl false)=>(match y with|some (.bl c)=>some (.bl c)|_=>none)|_=>none)=some d)(k:∀b c,x=some (.bl b)->d=.bl (b||c)->(b=false->y=some (.bl c))->P):P:=by
 cases x with
  |none=>cases h
  |some a=>cases a with
   |bl b=>cases b with|true=>cases h;exact k true true rfl rfl (λz=>by cases z)|false=>exact qk1 h λc hc h=>by cases h;exact k false c rfl rfl λ_=>hc
   |_=>cases h
def qk7(h:(match x with|some (.bl true)=>y|some (.bl false)=>z|_=>none)=some d)(k:∀b,x=some (.bl b)->(b=true->y=some d)->(b=false->z=some d)->P):P:=by
 cases x with
  |none=>cases h
  |some a=>cases a with
   |bl b=>cases b with|true=>exact k true rfl (λ_=>h) (λz=>by cases z)|false=>exact k false rfl (λz=>by cases z) λ_=>h
   |_=>cases h
def qk8{o p:Cm}(h:(match x,y with|some (.int i),some (.int j)=>if fU o i j=true then(match z with|some (.int l)=>some (D.bl (fU p j l))|_=>none) else some (.bl false)|_,_=>none)=some d)(k:∀i j l,x=some (.int i)->y=some (.int j)->d=.bl (fU o i j&&fU p j l)->(fU o i j=true->z=some (.int l))->P):P:=by
 cases x with
  |none=>cases h
  |some a=>cases a with
   |int i=>cases y with|none=>cases h|some b=>cases b with|int j=>have h:(if fU o i j=true then(match z with|some (.int l)=>some (D.bl (fU p j l))|_=>none) else some (.bl false))=some d:=h;by_cases e:fU o i j=true;{rw[au e] at h;exact qk0 h λl hl h=>by cases h;exact k i j l rfl rfl (by rw[e];rfl) λ_=>hl};.rw[ax e] at h;cases h;exact k i j 0 rfl rfl (by rw[(kl _).mp e];rfl) λz=>absurd z e|_=>cases h
   |_=>cases h
def qk9(h:(match x,y with|some a,some (.lst l)=>some (D.lst (a::l))|_,_=>none)=some d)(k:∀a l,x=some a->y=some (.lst l)->d=.lst (a::l)->P):P:=by cases x with|none=>cases h|some a=>cases y with|none=>cases h|some b=>cases b<;>first|(cases h;exact k _ _ rfl rfl rfl)|cases h
end
section
variable {X:Cx}{ρ:Ev}{x:Expr}
def xq0(h:∃b,D.bl c=.bl b/\TD a X ρ x b):TD a X ρ x c:=by obtain⟨b,e,h⟩:=h;cases e;exact h
def xq1(h:∃b,D.bl c=.bl b/\WD a X ρ x b):WD a X ρ x c:=by obtain⟨b,e,h⟩:=h;cases e;exact h
def xq2{xs:List Expr}(h:∃l,D.lst c=.lst l/\l.length=xs.length/\AD a X ρ xs l):c.length=xs.length/\AD a X ρ xs c:=by obtain⟨b,e,h⟩:=h;cases e;exact h
def uL.vs{P:Prop}(C:uL a G T F N k sc so X){i n}(h:AB N sc i n=true)(j:X.N[i]?=some n->vb X.env.scope n->qq9 n->xj8 n->P):P:=j (C.CK h).1 (C.CK h).2.1 (C.CK h).2.2.1 (C.CK h).2.2.2
def xq3(h:cmD o u v=some d):∃b,d=.bl b:=by unfold cmD at h;split at h<;>cases h;exact⟨_,rfl⟩
def xq4(h:GQ u v=some d):∃b,d=.bl b:=by unfold GQ at h;split at h;{split at h<;>cases h;exact⟨_,rfl⟩};.cases h
def xq5{l:List Nat}(h:l.contains n=true):n∈l:=by simpa using h
def xq6{t:Tg}{m:E}(h:(!jR m||vy t)=true):jR m=false\/vy t=true:=by simpa using h
def xq7(h:decide (n<1000)=true)(e:m=n):m<=aG:=by have:aG=16777216:=rfl;have:=gN h;omega
def xq8{f:D->Option (Option D)}{o:Option D}{d:D}(h:(match o with|some (.lst xs)=>(uR f xs).map D.lst|_=>none)=some d):∃xs ys,o=some (.lst xs)/\d=D.lst ys/\uR f xs=some ys:=qk2 h λxs e h=>by obtain⟨ys,g,rfl⟩:=et.1 h;exact⟨xs,ys,e,rfl,g⟩
def xq9(C:uL a G T F N k sc so X){m2 t own xs ys c s ifs x p B}(e:c.ifs=ifs)(h:qj6 N sc s t m2 own c=true)(i:Sm a X ρ m2 (.i c.iter) (.lst xs))(g:uR B xs=some ys) (q:∀M o,B M=some o->qm a X ρ s c.target t ifs x own M o):FD a X ρ (.ListComp x [c] s p) ys/\∃own',ID a X ρ c.target c.iter xs/\mO X.N X.env.scope s own'/\(∀(r) (H) (L) (cl) (A),GD a (X.lK r H s (cJ s cl L X.env) A) c.target t)/\(∀i∈t.slots,i∈own'.map (·.2))/\yD (qm a X ρ s c.target t ifs x (own'.map (·.2))) xs ys/\(∀x,cH c.iter X.env x=pure x)/\c=⟨c.target,c.iter,ifs,0⟩:=by obtain⟨tg,it,fs,z⟩:=c;cases e;refine P3 h λhz h1 h2 h3 h4 h5=>?_;cases gN hz;obtain⟨r1,r2,r3,r4,r5,r6⟩:=Fq (mi:=m2) (ifs:=fs) (x:=x) C h1 h2 h3 h4 h5 i g q;exact⟨Ro C.calm (by rw[C.hN];exact C.nd) r2 r6 r1 r3 r4 r5,_,r1,r2,r3,r4,r5,r6,rfl⟩
def Ze(a:Ad)(G:Gm)(T:Ts)(F:List Nat)(N:List Str)(k:Nat)(m:E):Prop:=∀{sc so:Scope} {X:Cx} {ρ:Ev} {y:Syn} {d:D},uL a G T F N k sc so X->dO T F N k m sc y=true->ev G m ρ=some d->Sm a X ρ m y d
def xx0{m1:E}(C:uL a G T F N k sc so X){s tg t x own}(ih:Ze a G T F N k m1)(h:dO T F N k m1 (qT s sc) (.e x)=true)(M o) (e:(match fO t M (oK ρ own) with|some g=>(ev G m1 g).map some|none=>none)=some o):qm a X ρ s tg t [] x own M o:=by cases hr:fO t M (oK ρ own) with|none=>rw[hr] at e;cases e|some g=>rw[hr] at e;obtain⟨v,hv,rfl⟩:=et.1 e;exact⟨g,hr,λr H L cl p=>⟨Ku,ih (C.lK r H cl L p) h hv⟩⟩
def xx1{m1 m3:E}(C:uL a G T F N k sc so X){s tg t x u own}(ih:Ze a G T F N k m1)(jh:Ze a G T F N k m3) (h:dO T F N k m1 (qT s sc) (.e x)=true) (i:dO T F N k m3 (qT s sc) (.t u)=true) (M o) (e:(match fO t M (oK ρ own) with|some g=>(match ev G m3 g with|some (.bl true)=>(ev G m1 g).map some|some (.bl false)=>some none|_=>none)|none=>none)=some o):qm a X ρ s tg t [u] x own M o:=by
 cases hr:fO t M (oK ρ own) with
  |none=>rw[hr] at e;cases e
  |some g=>
   rw[hr] at e;dsimp only at e;cases ht:ev G m3 g with
    |none=>rw[ht] at e;cases e
    |some b=>
     rw[ht] at e;cases b with
      |bl b=>cases b with|true=>obtain⟨v,hv,rfl⟩:=et.1 e;exact⟨g,hr,λr H L cl p=>⟨zh (xq0 (jh (C.lK r H cl L p) i ht)),ih (C.lK r H cl L p) h hv⟩⟩|false=>cases e;exact⟨g,hr,λr H L cl p=>zh (xq0 (jh (C.lK r H cl L p) i ht))⟩
      |_=>cases e
end
def xx2{c:Comprehension}{f}(h:wO c.ifs f=true):∃u,c.ifs=[u]/\f u=true:=SC (R:=λl=>∃u,l=[u]/\f u=true) c.ifs h λu h=>⟨u,rfl,h⟩
def d8(m:E):Ze a G T F N k m:=by
 induction m with(intro sc so X ρ y d C hc he)
  |var i=>refine UV y hc λx hc=>TW x hc λn p hc=>C.vs hc λh1 h2 h3 h4=>?_;(conv at he=>lhs;whnf);split at he;{cases he;exact LR h1 h2 h3 h4 (by assumption)};.cases he
  |con d0=>refine UV y hc λx hc=>qx3 x hc λc j p hc=>?_;cases he;exact OV hc
  |jg j=>refine UV y hc λx hc=>TW x hc λn p hc=>Ps hc λh1 h2=>?_;obtain⟨v,u,k1,k2,k3⟩:=C.tx.gl j d he;cases gN h1;exact Oy (C.gl h2).1 k1 k2 k3 (C.gl h2).2.1
  |neg m ih=>refine UV y hc λx hc=>qx4 x hc λu z p hc=>Ps hc λh1 hc=>qk0 he λi hi he=>?_;cases gN h1;exact Xl Td (ih C hc hi) he
  |nt m ih=>refine WF y hc λx hc=>qx4 x hc λu z p hc=>Ps hc λh1 hc=>qk1 he λi hi he=>?_;cases gN h1;cases he;exact⟨_,rfl,SW (xq0 (ih C hc hi))⟩
  |tv m ih=>refine WF y hc λx hc=>Ps hc λh1 hc=>qk1 he λi hi he=>?_;cases he;exact⟨_,rfl,Si (ih C hc hi) λw=>OM h1 _ w⟩
  |bin o m1 m2 ih1 ih2=>exact UV y hc λx hc=>qx5 x hc λl q r p hc=>Pv hc λh0 h1 h2=>qj8 he λu v hu hv he=>W5 (TZ h0) (ih1 C h1 hu) (ih2 C h2 hv) he
  |cmp o m1 m2 ih1 ih2=>refine qj8 he λu v hu hv he=>WP y hc (λx hc=>qz3 x hc λl q r p hc=>Pv hc λh0 h1 h2=>?_) λx hc=>qz3 x hc λl q r p hc=>Pv hc λh0 h1 h2=>?_;{cases Gc h0;exact KA (KY o) (ih1 C h1 hu) (ih2 C h2 hv) he (rE h0)};.cases Gc h0;obtain⟨b,rfl⟩:=xq3 he;exact⟨b,rfl,zU (KY o) (ih1 C h1 hu) (ih2 C h2 hv) he (rE h0)⟩
  |Vx m1 m2 ih1 ih2=>refine qj8 he λu v hu hv he=>UV y hc λx hc=>qz3 x hc λl q r p hc=>Pv hc λh0 h1 h2=>?_;cases gN h0;exact KA (Sj C.room.units) (ih1 C h1 hu) (ih2 C h2 hv) he (rE (o:=.eq) rfl)
  |Ym m ih=>refine WF y hc λx hc=>qz3 x hc λl q r p hc=>Pv hc λh0 h1 h2=>qx3 r h1 λc j s h1=>qk3 he λu b hu e hf=>?_;cases gN h0;cases gN h1;cases e;exact⟨_,rfl,zU Tp (ih C h2 hu) Ed hf rfl⟩
  |Vd m ih=>refine WF y hc λx hc=>qz3 x hc λl q r p hc=>Pv hc λh0 h1 h2=>qx3 r h1 λc j s h1=>qk4 he λu b hu e hf=>?_;cases gN h0;cases gN h1;cases e;exact⟨_,rfl,zU P0 (ih C h2 hu) Ed hf rfl⟩
  |IU m1 m2 ih1 ih2=>refine qj8 he λu v hu hv he=>WF y hc λx hc=>qz3 x hc λl q r p hc=>PD hc λh0 h3 h1 h2=>?_;cases gN h0;obtain⟨b,rfl⟩:=xq4 he;exact⟨b,rfl,zU NG (ih1 C h1 hu) (ih2 C h2 hv) he (Hy h3)⟩
  |Hh o p m1 m2 m3 ih1 ih2 ih3=>refine qk8 he λi j l hi hj e hl=>?_;cases e;refine WP y hc (λx hc=>qz4 x hc λu q r q' s w hc=>PP hc λh0 h4 h1 h2 h3=>?_) λx hc=>qz4 x hc λu q r q' s w hc=>PP hc λh0 h4 h1 h2 h3=>?_;{cases Gc h0;cases Gc h4;exact Cu (sk o) (sk p) (ih1 C h1 hi) (ih2 C h2 hj) (λz=>ih3 C h3 (hl z)) (K3 (o:=o) h4)};.cases Gc h0;cases Gc h4;exact⟨_,rfl,BM (sk o) (sk p) (ih1 C h1 hi) (ih2 C h2 hj) (λz=>ih3 C h3 (hl z)) (K3 (o:=o) h4)⟩
  |an m1 m2 ih1 ih2=>refine qk5 he λb c e1 e e2=>?_;cases e;refine XV y hc (λx hc=>qz6 x hc λo u v r p hc=>Pv hc λh0 h1 h2=>?_) (λx hc=>qz6 x hc λo u v r p hc=>Pv hc λh0 h1 h2=>?_) λx hc=>qz6 x hc λo u v r p hc=>Pv hc λh0 h1 h2=>?_<;>cases gN h0;{exact⟨_,rfl,(Mw (xq0 (ih1 C h1 e1)) λz=>xq1 (ih2 C h2 (e2 z))).td⟩};{exact⟨_,rfl,Mw (xq0 (ih1 C h1 e1)) λz=>xq1 (ih2 C h2 (e2 z))⟩};.exact Ss (ih1 C h1 e1) λz=>ih2 C h2 (e2 z)
  |or m1 m2 ih1 ih2=>refine qk6 he λb c e1 e e2=>?_;cases e;refine XV y hc (λx hc=>qz6 x hc λo u v r p hc=>Pv hc λh0 h1 h2=>?_) (λx hc=>qz6 x hc λo u v r p hc=>Pv hc λh0 h1 h2=>?_) λx hc=>qz6 x hc λo u v r p hc=>Pv hc λh0 h1 h2=>?_<;>cases gN h0;{exact⟨_,rfl,(Rq (xq0 (ih1 C h1 e1)) λz=>xq1 (ih2 C h2 (e2 z))).td⟩};{exact⟨_,rfl,Rq (xq0 (ih1 C h1 e1)) λz=>xq1 (ih2 C h2 (e2 z))⟩};.exact XT (ih1 C h1 e1) λz=>ih2 C h2 (e2 z)
  |one m ih=>exact ZB y hc (λx hc=>qz7 x hc λo u p hc=>Exists.imp (λb h=>⟨h.1,Ta h.2⟩) (ih C hc he)) λx hc=>qz7 x hc λo u p hc=>Uq (ih C hc he)
  |ite m1 m2 m3 ih1 ih2 ih3=>exact qk7 he λb e1 e2 e3=>UV y hc λx hc=>qx6 x hc λz u v p hc=>Pv hc λh1 h2 h3=>LK (xq0 (ih1 C h1 e1)) (λz=>ih2 C h2 (e2 z)) λz=>ih3 C h3 (e3 z)
  |nil=>refine qx0 y hc λl hc=>Tk l hc ?_;cases he;exact⟨[],rfl,rfl,JT⟩
  |cons m1 m2 ih1 ih2=>refine qk9 he λu l hu hl e=>qx0 y hc λw hc=>SL w hc λx xs hc=>Pv hc λh0 h1 h2=>?_;cases e;obtain⟨hn,q⟩:=xq2 (ih2 C h2 hl);exact⟨_,rfl,ip Nat.succ hn,pP (λes=>dm h0 es _) (ih1 C h1 hu) q⟩
  |cM f m ih=>
   refine xk4 y hc λn p es s hc=>Re hc λh1 h2 h3 h4 h5 h6 h7=>qk2 he λds hds he=>?_;cases gN h1;replace h6:=gN h6;obtain⟨hl,q⟩:=xq2 (ih C h7 hds);obtain⟨fd,ps,Fn,hb,hm,hk⟩:=C.tx.fu f (xq5 h3) (gN h4);have R:=C.room.mono (gN h5);have st:=lA h7;cases es with
    |nil=>cases ds with|nil=>exact LH Fn R (C.gl h2).1 hm hk hb (C.gl h2).2.1 (by simpa using h6) he|cons _ _=>cases hl
    |cons e es=>exact Ps st λs1 s2=>NI Fn R (C.gl h2).1 hm hk hb (C.gl h2).2.1 (λes=>dm s1 es _) (jn s2) q (hl.trans h6) he
  |HL i m ih=>refine xk4 y hc λn p es s hc=>SL es hc λe es hc=>Pv hc λh1 h2 h3=>?_;(conv at he=>lhs;whnf);split at he;{rename_i f l hf hl;split at he;{rename_i hcv;rw[C.tx.cv] at hcv;refine PD (aN.1 h2 f hcv) λk1 k2 k3 k4=>?_;obtain⟨hlen,q⟩:=xq2 (ih C h3 hl);obtain⟨fd,ps,Fn,hb,hm,hk⟩:=C.tx.fu f (xq5 k1) (gN k2);exact C.vs h1 λqj7 qj8 qj9 v4=>Ps (lA h3) λs1 s2=>KE Fn (C.room.mono (gN k3)) hk hb qj7 qj8 qj9 v4 hf (λes=>dm s1 es _) (jn s2) q (hlen.trans (gN k4).symm) he};.cases he};.cases he
  |bi b m ih=>refine xk4 y hc λn p es s hc=>SL es hc λe es hc=>Pv hc λh1 h2 h3=>qk2 he λds hds he=>?_;cases gN h1;have e0:iq (biN b)=some (.builtin (VT b)):=by{cases b<;>rfl};exact Ps (lA h3) λs1 s2=>MP (Yt b C.calm) (C.gl h2).1 (C.bn (by cases b<;>decide)) e0 (C.gl h2).2.2 (C.gl h2).2.1 (λes=>dm s1 es _) (jn s2) (xq2 (ih C h3 hds)).2 he
  |Tz m ih=>(conv at he=>lhs;whnf);(split at he<;>try cases he);rename_i dx hx;obtain⟨ds,hq,rfl⟩:=et.1 he;have key:∀{x},(KF x λn es=>wO es λe=>decide (n="list")&&rQ sc n&&D8 e&&dO T F N k m sc (.e e))=true->FD a X ρ x ds:=λ{x} h=>qz9 x h λn p es s h=>SC es h λe h=>PD h λh1 h2 h3 h4=>by{cases gN h1;exact Lv (C.gl h2).1 (C.bn JN) (λes=>dm h3 es _) (ih C h4 hx) hq};exact XL y hc (λx hc=>(key hc).ed) λx hc=>⟨ds,rfl,key hc⟩
  |tup m ih=>refine UV y hc λx hc=>qx7 x hc λl j p hc=>Ps hc λh1 h2=>qk2 he λds hds he=>?_;cases he;exact RZ (xq2 (ih C h2 hds)).2 (xq7 h1 (xq2 (ih C h2 hds)).1)
  |lst m ih=>have key:∀{x},(LE x λes=>decide (es.length<1000)&&dO T F N k m sc (.a es))=true->∃ds,d=.lst ds/\FD a X ρ x ds:=λ{x} h=>qx8 x h λl p h=>Ps h λh1 h2=>by{obtain⟨ds,e,hl,q⟩:=ih C h2 he;exact⟨ds,e,Lm q (xq7 h1 hl)⟩};refine XL y hc (λx hc=>?_) λx hc=>key hc;obtain⟨ds,rfl,q⟩:=key hc;exact q.ed
  |ix m1 m2 ih1 ih2=>exact UV y hc λx hc=>qx9 x hc λu v p hc=>Pv hc λh0 h1 h2=>qj8 he λs t hs ht he=>XE XA (ih1 C h1 hs) (ih2 C h2 ht) (QP h0) he
  |sl m1 m2 m3 ih1 ih2 ih3=>
   refine qj9 he λdx dy dz hx hy hz he=>?_;cases dx with
    |lst l=>have he:(match Ca dy,Ca dz with|some lo,some hi=>some (D.lst (cutD l lo hi))|_,_=>none)=some d:=he;cases hlo:Ca dy with|none=>rw[hlo] at he;cases he|some lo=>cases hhi:Ca dz with|none=>rw[hlo,hhi] at he;cases he|some hi=>rw[hlo,hhi] at he;cases he;have key:∀{x},(LT x λu v=>No v λi j=>dO T F N k m1 sc (.e u)&&dO T F N k m2 sc (.o i)&&dO T F N k m3 sc (.o j))=true->FD a X ρ x (cutD l lo hi):=λ{x} h=>qx9 x h λu v p h=>qj3 v h λi j s h=>Pv h λh1 h2 h3=>by{obtain⟨o1,e1,q2⟩:=ih2 C h2 hy;obtain⟨o2,e2,q3⟩:=ih3 C h3 hz;rw[hlo] at e1;rw[hhi] at e2;cases e1;cases e2;exact Rl (ih1 C h1 hx) q2 q3};exact XL y hc (λx hc=>(key hc).ed) λx hc=>⟨_,rfl,key hc⟩
    |_=>cases he
  |np=>refine qx2 y hc λo hc=>Ty o hc ?_;cases he;exact⟨none,rfl,OG⟩
  |pt m ih=>refine qx2 y hc λo hc=>Tm o hc λx hc=>qk0 he λi hi he=>?_;cases he;exact⟨_,rfl,Qj (ih C hc hi)⟩
  |wq m ih=>refine xk5 y hc λn p es s hc=>SC es hc λe hc=>PD hc λh1 h2 h3 h4=>qj7 he λu hu he=>?_;cases gN h1;obtain⟨ds,rfl⟩:=LI he;exact⟨ds,rfl,λtg _=>NF (C.gl h2).1 (C.bn JN) (dm h3 _ _) (Yq h3 (ih C h4 hu)) he⟩
  |zV m1 m2 ih1 ih2=>refine xk5 y hc λn p es s hc=>ST es hc λe q hc=>P3 hc λh1 h2 h3 h6 h4 h5=>qj8 he λu v hu hv he=>?_;cases gN h1;obtain⟨ds,rfl⟩:=LG he;exact⟨ds,rfl,λtg _=>Qo (C.gl h2).1 (C.bn JN) ((dm h3 _ _).trans (by rw[dm h6];rfl)) (dm h6 _ _) (pP (λes=>dm h3 es _) (ih1 C h4 hu) (Yq h6 (ih2 C h5 hv))) he⟩
  |AL m1 m2 m3 ih1 ih2 ih3=>refine xk5 y hc λn p es s hc=>SZ es hc λe q r hc=>SB hc λh1 h2 h3 h7 h8 h4 h5 h6=>qj9 he λu v w hu hv hw he=>?_;cases gN h1;obtain⟨ds,rfl⟩:=Lx he;exact⟨ds,rfl,λtg _=>Oa (C.gl h2).1 (C.bn JN) (dm h3 _ _) (jn (by simp[h7,h8])) (pP (λes=>dm h3 es _) (ih1 C h4 hu) (pP (λes=>dm h7 es _) (ih2 C h5 hv) (Yq h8 (ih3 C h6 hw)))) he⟩
  |zip m1 m2 ih1 ih2=>refine xk5 y hc λn p es s hc=>ST es hc λe q hc=>P3 hc λh1 h2 h3 h6 h4 h5=>qj8 he λu v hu hv he=>?_;cases gN h1;obtain⟨ds,rfl⟩:=PJ he;refine⟨ds,rfl,λtg ht=>?_⟩;obtain⟨es,kk,tp,rfl⟩:=ht rfl;exact RK (C.gl h2).1 (C.bn JN) (λes=>dm h3 es _) (jn (by simp[h6])) (pP (λes=>dm h3 es _) (ih1 C h4 hu) (Yq h6 (ih2 C h5 hv))) he
  |DW m ih=>refine xk5 y hc λn p es s hc=>SC es hc λe hc=>PD hc λh1 h2 h3 h4=>qj7 he λu hu he=>?_;cases gN h1;obtain⟨ds,rfl⟩:=Pe he;refine⟨ds,rfl,λtg ht=>?_⟩;obtain⟨es,kk,tp,rfl⟩:=ht rfl;exact Oz (C.gl h2).1 (C.bn JN) (dm h3 _ _) (Yq h3 (ih C h4 hu)) he
  |uf m ih=>refine qx1 y hc λx hc=>qj7 he λdx hx he=>?_;have q1:ED a X ρ _ _:=ih C hc hx;cases dx with|lst l=>cases he;exact⟨l,rfl,λtg _=>KS q1 rfl⟩|tup l=>cases he;exact⟨l,rfl,λtg _=>KS q1 rfl⟩|str x=>have he':=he;unfold itD at he;simp only at he;split at he<;>cases he;exact⟨_,rfl,λtg _=>R8 q1 he'⟩|_=>cases he
  |bl m ih=>refine UV y hc λx hc=>qj1 x hc λu w b es v hc=>PP hc λh0 h1 h2 h3 h4=>Tk es h0 (qj7 he λdx hx he=>?_);cases gN h1;have q1:ED a X ρ _ _:=ih C h4 hx;cases dx<;>cases he;exact TR h2 (pY h3) q1
  |idx m1 m2 ih1 ih2=>refine UV y hc λx hc=>qj1 x hc λu w b es v hc=>SC es hc λe hc=>P3 hc λh1 h2 h3 h4 h5 h6=>qj8 he λs t hs ht he=>?_;cases gN h1;exact SX h2 (pY h3) (λes=>dm h4 es _) (ih1 C h5 hs) (ih2 C h6 ht) he
  |join x m ih=>refine UV y hc λx hc=>qj1 x hc λu w b es v hc=>SC es hc λe hc=>PP hc λh1 h2 h3 h4 h5=>qx3 u h1 λc j p h1=>qj7 he λdx hx he=>?_;cases gN h1;cases gN h2;have q1:ED a X ρ _ _:=ih C h5 hx;unfold QS at he;(split at he<;>try cases he);(split at he<;>try cases he);rename_i r hr;split at he<;>cases he;rw[yo hr] at q1;exact OP h3 (dm h4 _ _) q1 (by assumption)
  |Xo m ih=>refine UV y hc λx hc=>qz1 x hc λl p hc=>SC l hc λw hc=>qj5 w hc λz c s hc=>Ps hc λh1 h2=>qj7 he λdx hx he=>?_;cases gN h1;have q1:ED a X ρ _ _:=ih C h2 hx;unfold Ye at he;(split at he<;>try cases he);split at he<;>cases he;exact Uj q1 (by assumption)
  |Yr m1 m2 ih1 ih2=>refine UV y hc λx hc=>qz1 x hc λl p hc=>SZ l hc λu s w hc=>Pv hc λh1 h2 h3=>qj5 u h1 λz c r h1=>qx3 s h2 λc' j t h2=>qj5 w h3 λz' c'' r' h3=>Ps h1 λh4 h1=>Ps h3 λh5 h3=>qj8 he λdx dy hx hy he=>?_;cases gN h4;cases gN h2;cases gN h5;have q1:ED a X ρ _ _:=ih1 C h1 hx;have q2:ED a X ρ _ _:=ih2 C h3 hy;unfold Xr at he;(split at he<;>try cases he);split at he<;>cases he;rename_i hh;exact Sh q1 q2 hh.1 hh.2
  |xH j m ih=>refine UV y hc λx hc=>qx9 x hc λu v p hc=>TW u hc λn s hc=>PD hc λh1 h2 h3 h4=>qk0 he λi hi he=>?_;cases gN h1;obtain⟨q,hm,KD⟩:=C.tx.di j (λz=>by rw[z] at he;cases he);exact O2 KD (C.gl h2).1 hm (C.gl h2).2.1 (OZ h3) (ih C h4 hi) he
  |Vb j m ih=>refine qk0 he λi hi he=>?_;cases he;obtain⟨q,hm,KD⟩:=C.tx.YZ j;refine WP y hc (λx hc=>qz3 x hc λl p r s hc=>Pv hc λh0 h1 h4=>TW r h1 λn t h1=>Ps h1 λh1 h2=>?_) λx hc=>qz3 x hc λl p r s hc=>Pv hc λh0 h1 h4=>TW r h1 λn t h1=>Ps h1 λh1 h2=>?_<;>cases gN h0<;>cases gN h1;{exact Sv KD (C.gl h2).1 hm (C.gl h2).2.1 (ih C h4 hi)};.exact⟨_,rfl,RI KD (C.gl h2).1 hm (C.gl h2).2.1 (ih C h4 hi)⟩
  |Vc i m ih=>refine UV y hc λx hc=>qx9 x hc λu v p hc=>TW u hc λn s hc=>Pv hc λh1 h2 h3=>?_;(conv at he=>lhs;whnf);split at he;{exact C.vs h1 λqj7 qj8 qj9 v4=>SH qj7 qj8 qj9 v4 (by assumption) (ih C h3 (by assumption)) (QP h2) he};.cases he
  |xG i=>refine xk4 y hc λn p es s hc=>SC es hc λe hc=>TW e hc λv t hc=>Pv hc λh1 h2 h3=>?_;cases gN h1;(conv at he=>lhs;whnf);split at he;{cases he;exact C.vs h3 λqj7 qj8 qj9 v4=>Og (C.gl h2).1 (C.bn JN) qj7 qj8 qj9 v4 (by assumption)};.cases he
  |fld i b=>refine UV y hc λx hc=>UF x hc λu m p hc=>TW u hc λn s hc=>Ps hc λh1 h2=>?_;cases gN h2;(conv at he=>lhs;whnf);split at he;{cases he;exact C.vs h1 λqj7 qj8 qj9 v4=>Ud qj7 qj8 qj9 v4 C.tx.cl.1 C.tx.cl.2.1 C.tx.cl.2.2 (by assumption) rfl};.cases he
  |Ci f i m ih=>refine UV y hc λx hc=>qj1 x hc λu w b es v hc=>TW u hc λn s hc=>Ps hc λh0 hc=>Tk es h0 (SB hc λh1 h2 h3 h4 h5 h6 h7 h9=>?_);(conv at he=>lhs;whnf);split at he;{rename_i ds hob hds;obtain⟨hlen,q⟩:=xq2 (ih C h9 hds);cases ds with|cons _ _=>cases hlen|nil=>obtain⟨fd,ps,Fn,hb,hm⟩:=C.tx.fq f (xq5 h4) (gN h5);cases gN h2;exact C.vs h1 λqj7 qj8 qj9 v4=>Ps h7 λh7 h8=>Kr C.tx.cl.1 hm Fn (C.room.mono (gN h6)) hb (by simpa using h7) (by simpa using h8) qj7 qj8 qj9 v4 (yL rfl JN h3) (by assumption) rfl he};.cases he
  |lc m1 t m2 own ih1 ih2=>obtain⟨xs,ys,hxs,rfl,hg⟩:=xq8 he;have key:∀{x},(NE x λz l h=>wO l λc=>c.ifs.isEmpty&&qj6 N sc h t m2 own c&&dO T F N k m2 sc (.i c.iter)&&dO T F N k m1 (qT h sc) (.e z))=true->FD a X ρ x ys:=λ{x} h=>qz0 x h λz l s p h=>SC l h λc h=>PD h λh0 h1 h2 h3=>(xq9 C (km.1 h0) h1 (ih2 C h2 hxs) hg (xx0 C ih1 h3)).1;exact XL y hc (λx hc=>(key hc).ed) λx hc=>⟨ys,rfl,key hc⟩
  |LV m1 t m2 m3 own ih1 ih2 ih3=>obtain⟨xs,ys,hxs,rfl,hg⟩:=xq8 he;have key:∀{x},(NE x λz l h=>wO l λq=>qj6 N sc h t m2 own q&&dO T F N k m2 sc (.i q.iter)&&(wO q.ifs λu=>dO T F N k m3 (qT h sc) (.t u))&&dO T F N k m1 (qT h sc) (.e z))=true->FD a X ρ x ys:=λ{x} h=>qz0 x h λz l s p h=>SC l h λc h=>PD h λh1 h2 h4 h3=>(xx2 h4).elim λu e=>(xq9 C e.1 h1 (ih2 C h2 hxs) hg (xx1 C ih1 ih3 h3 e.2)).1;exact XL y hc (λx hc=>(key hc).ed) λx hc=>⟨ys,rfl,key hc⟩
  |La m n ih=>refine UV y hc λx hc=>qj0 x hc λq p es o l r s hc=>SC es hc λe hc=>P3 hc λh1 h2 h3 h4 h5 h6=>qx3 l h1 λc j t h1=>qj7 he λdx hx he=>?_;cases gN h1;cases gN h2;cases gN h3;have q1:ED a X ρ _ _:=ih C h6 hx;have he':=he;unfold BD at he;(split at he<;>try cases he);rename_i l;cases hl:Se l with|none=>rw[hl] at he;cases he|some ns=>have el:=fW hl;subst el;exact Pw (C.gl h4).1 (C.bn JN) C.calm (λes=>dm h5 es _) q1 he'
  |oT m ih=>refine xk4 y hc λn p es s hc=>SC es hc λw hc=>qz9 w hc λz q fs t hc=>SC fs hc λe hc=>P3 hc λh1 h2 h3 h4 h5 h6=>qj7 he λdx hx he=>?_;cases gN h1;cases gN h2;have q1:ED a X ρ _ _:=ih C h6 hx;unfold FQ at he;(split at he<;>try cases he);rename_i l;(split at he<;>try cases he);rename_i ns hl;split at he<;>cases he;have el:=fW hl;subst el;exact Iv C.calm (C.gl h3).1 (C.bn JN) (C.gl h4).1 (C.bn JN) (λes=>dm h5 es _) q1 (by assumption)
  |qf m ih=>refine xk4 y hc λn p es s hc=>SC es hc λw hc=>qz9 w hc λz q fs t hc=>SC fs hc λe hc=>P3 hc λh1 h2 h3 h4 h5 h6=>qj7 he λdx hx he=>?_;cases gN h1;cases gN h2;have q1:ED a X ρ _ _:=ih C h6 hx;unfold Cj at he;(split at he<;>try cases he);rename_i l;(split at he<;>try cases he);rename_i ns hl;split at he<;>cases he;have el:=fW hl;subst el;exact DP C.calm (C.gl h3).1 (C.bn JN) (C.gl h4).1 (C.bn JN) (λes=>dm h5 es _) q1 (by assumption)
  |vG m ih=>refine xk4 y hc λn p es s hc=>SC es hc λe hc=>PD hc λh1 h2 h3 h4=>qj7 he λdx hx he=>?_;cases gN h1;exact Kz (C.gl h2).1 (C.bn JN) (λes=>dm h3 es _) (ih C h4 hx) he
  |_=>exact(c9 hc).elim
end
def zm(x:Expr):Bool:=x.ctorIdx !=8&&x.ctorIdx !=9&&x.ctorIdx !=10
def Vo(a:Scope)(x:Str)(v:Expr):Bool:=zm v||(match a.names.lookup x with|some .cell=>true|_=>false)
def Vi(b:Scope)(x:Str)(p:Pos)(e:Expr):Bool:=jq0 e λc=>Expr.ListComp.elim e c λ_ _ s a=>(match b.names.lookup x with|some .local=>true|_=>false)&&(p.line==a.line)&&!(s.names.any λ(n,k)=>n==x&&(k==.local||k==.cell))
def Xe(b:Bool):Str:=if b=true then "notes" else "commas"
def xx3(x:Expr)(f:Arguments->Expr->Scope->Pos->Bool):Bool:=jq0 x λc=>Expr.Lambda.elim x c f
def xx4(s:Stmt)(f:List Expr->Expr->Bool):Bool:=jq1 s λc=>Stmt.Assign.elim s c λt v _=>f t v
def xx5(s:Stmt)(f:Expr->Bool):Bool:=jq1 s λc=>Stmt.Expr.elim s c λe _=>f e
def xx6(s:Stmt)(f:Option Expr->Bool):Bool:=jq1 s λc=>Stmt.Return.elim s c λe _=>f e
def xx7(s:Stmt)(f:Expr->List Stmt->List Stmt->Bool):Bool:=jq1 s λc=>Stmt.If.elim s c λv x y _=>f v x y
def xx8(s:Stmt)(f:Expr->List Stmt->List Stmt->Bool):Bool:=jq1 s λc=>Stmt.While.elim s c λv x y _=>f v x y
def xx9(s:Stmt)(f:Expr->Expr->List Stmt->List Stmt->Bool):Bool:=jq1 s λc=>Stmt.For.elim s c λj c x y _=>f j c x y
def xz0(s:Stmt):Bool:=jq1 s λc=>Stmt.Break.elim s c λ_=>true
def xz1(s:Stmt):Bool:=jq1 s λc=>Stmt.Continue.elim s c λ_=>true
@[elab_as_elim] theorem xz2 (x:Expr) {Q:Expr->Prop} {f} (h:xx3 x f=true) (k:∀a b s p,f a b s p=true->Q (.Lambda a b s p)):Q x:=Expr.Lambda.elim x (jq2 h) k h
section
variable {Q:Stmt->Prop}
@[elab_as_elim] theorem xz3 (s:Stmt) {f} (h:xx4 s f=true) (k:∀t v p,f t v=true->Q (.Assign t v p)):Q s:=Stmt.Assign.elim s (jq3 h) k h
@[elab_as_elim] theorem xz4 (s:Stmt) {f} (h:xx5 s f=true) (k:∀t p,f t=true->Q (.Expr t p)):Q s:=Stmt.Expr.elim s (jq3 h) k h
@[elab_as_elim] theorem xz5 (s:Stmt) {f} (h:xx6 s f=true) (k:∀t p,f t=true->Q (.Return t p)):Q s:=Stmt.Return.elim s (jq3 h) k h
@[elab_as_elim] theorem xz6 (s:Stmt) {f} (h:xx7 s f=true) (k:∀v x y p,f v x y=true->Q (.If v x y p)):Q s:=Stmt.If.elim s (jq3 h) k h
@[elab_as_elim] theorem xz7 (s:Stmt) {f} (h:xx8 s f=true) (k:∀v x y p,f v x y=true->Q (.While v x y p)):Q s:=Stmt.While.elim s (jq3 h) k h
@[elab_as_elim] theorem xz8 (s:Stmt) {f} (h:xx9 s f=true) (k:∀j c x y p,f j c x y=true->Q (.For j c x y p)):Q s:=Stmt.For.elim s (jq3 h) k h
@[elab_as_elim] theorem xz9 (s:Stmt) (h:xz0 s=true) (k:∀p,Q (.Break p)):Q s:=Stmt.Break.elim s (jq3 h) (λp _=>k p) h
@[elab_as_elim] theorem xj0 (s:Stmt) (h:xz1 s=true) (k:∀p,Q (.Continue p)):Q s:=Stmt.Continue.elim s (jq3 h) (λp _=>k p) h
end
def xk6(st:List Stmt)(f:Expr->Expr->List Stmt->Bool):Bool:=uU st λs l=>xx4 s λt v=>wO t λt=>f t v l
def xk7(st:List Stmt)(f:Expr->Bool):Bool:=uU st λs _=>xx6 s λo=>AC o f
def xk8(st:List Stmt)(f:Str->Str->Pos->List Expr->Pos->List Stmt->Bool):Bool:=uU st λs l=>xx5 s λz=>KT z λu m h es q=>Fa u λx _=>f x m h es q l
section
variable {R:List Stmt->Prop}
@[elab_as_elim] theorem xk9 (st:List Stmt) {f} (h:xk6 st f=true) (k:∀t v p l,f t v l=true->R (.Assign [t] v p::l)):R st:=SL st h λs l h=>xz3 s h λt v p h=>SC t h λt h=>k t v p l h
@[elab_as_elim] theorem zq0 (st:List Stmt) {f} (h:xk7 st f=true) (k:∀v p l,f v=true->R (.Return (some v) p::l)):R st:=SL st h λs l h=>xz5 s h λo p h=>Tm o h λv h=>k v p l h
@[elab_as_elim] theorem zq1 (st:List Stmt) {f} (h:xk8 st f=true) (k:∀x p m b es q r l,f x m b es q l=true->R (.Expr (.Call (.Attribute (.Name x p) m b) es [] q) r::l)):R st:=SL st h λs l h=>xz4 s h λz r h=>qj1 z h λu m b es q h=>TW u h λx p h=>k x p m b es q r l h
end
def xj1(a:Arguments)(n:Str):Bool:=a.posonlyargs.isEmpty&&(wO a.args λq=>decide (q.arg=n)&&q.annotation.isNone)&&a.vararg.isNone&&a.kwonlyargs.isEmpty&&a.kw_defaults.isEmpty&&a.kwarg.isNone&&a.defaults.isEmpty
def xj2{A:Arguments}(h:xj1 A n=true):∃p,A=⟨[],[⟨n,none,p⟩],none,[],[],none,[]⟩:=by obtain⟨a,b,c,d,e,f,g⟩:=A;exact Re h λh1 h2 h3 h4 h5 h6 h7=>Tk a h1<|SC b h2 λ⟨q,r,p⟩ h2=>Ps h2 λh8 h9=>Ty c h3<|Tk d h4<|Tk e h5<|Ty f h6<|Tk g h7<|Ty r h9 (by cases gN h8;exact⟨p,rfl⟩)
def xj3(T:Ts)(F:List Nat)(k:Nat)(d:Scope)(f:Nat)(g:Str)(es:List Expr):Bool:=decide (g=T.xJ f)&&rQ d g&&F.contains f&&decide (T.kd f=1)&&decide (T.lv f<=k)&&decide (es.length+1=T.ar f)
section
variable (T:Ts)(F:List Nat)(N:List Str)(k:Nat)(d:Scope)
def j7:S->List Stmt->Bool|.nil=>List.isEmpty|.JE i e r=>λst=>xk6 st λt v l=>Fa t λx p=>HK N d i x&&(Vo d x v||Vi d x p v)&&dO T F N k e d (.e v)&&j7 r l|.own i e r=>λst=>xk6 st λt v l=>Fa t λx p=>HK N d i x&&(Vo d x v||Vi d x p v)&&dO T F N k e d (.f v)&&j7 r l|.xF i m e r=>λst=>xk6 st λt v l=>LT t λu y=>Fa u λx _=>AB N d i x&&nQ y&&zm v&&dO T F N k m d (.e y)&&dO T F N k e d (.e v)&&j7 r l|.app i e r=>λst=>xk8 st λx m h es q l=>wO es λv=>AB N d i x&&decide (m="append")&&(h.endLine==q.line)&&D8 v&&dO T F N k e d (.e v)&&j7 r l|.ext i e r=>λst=>xk8 st λx m h es q l=>wO es λv=>AB N d i x&&decide (m="extend")&&(h.endLine==q.line)&&D8 v&&dO T F N k e d (.e v)&&j7 r l|.ret e=>λst=>xk7 st λv=>dO T F N k e d (.e v)|.ifs c G H r=>λst=>uU st λs l=>xx7 s λv x y=>dO T F N k c d (.t v)&&j7 G x&&j7 H y&&j7 r l|.kF c b r=>λst=>uU st λs l=>xx8 s λv x y=>y.isEmpty&&dO T F N k c d (.t v)&&j7 b x&&j7 r l|.fr t i b r=>λst=>uU st λs l=>xx9 s λj c x y=>y.isEmpty&&Jj N d t j&&(!jR i||vy t)&&jV c&&dO T F N k i d (.i c)&&j7 b x&&j7 r l|.brk=>λst=>uU st λs _=>xz0 s|.cnt=>λst=>uU st λs _=>xz1 s|.Ef i r=>λst=>xk6 st λt v l=>Fa t λx _=>KF v λy es=>es.isEmpty&&HK N d i x&&decide (y=T.xJ T.ci)&&rQ d y&&F.contains T.ci&&decide (T.kd T.ci=4)&&decide (T.lv T.ci+1<=k)&&j7 r l|.D2 j f i m r=>λst=>xk6 st λt v l=>Fa t λx _=>KF v λg es=>uU es λe es=>Fa e λy _=>HK N d j x&&AB N d i y&&xj3 T F k d f g es&&dO T F N k m d (.a es)&&j7 r l|.rJ f i m=>λst=>xk7 st λv=>KF v λg es=>uU es λe es=>Fa e λy _=>AB N d i y&&xj3 T F k d f g es&&dO T F N k m d (.a es)|.uQ v i m=>λst=>xk7 st λw=>KF w λg es=>uU es λe es=>Fa e λy _=>AB N d i y&&AB N d v g&&T.Hn.all (λf=>F.contains f&&decide (T.kd f=1)&&decide (T.lv f<=k)&&decide (es.length+1=T.ar f))&&dO T F N k m d (.a es)|.CS f i m r=>λst=>xk8 st λy n h es q l=>AB N d i y&&decide (n=T.xJ f)&&(!(n==("commas" :Str))&&!(n==("notes" :Str)))&&(h.endLine==q.line)&&(F.contains f&&decide (T.kd f=2)&&decide (T.lv f<=k))&&(decide (es.length+1=T.ar f)&&decide (es.length<29))&&dO T F N k m d (.a es)&&j7 r l|.sr i b e r=>λst=>xk6 st λt v l=>IR t λu n=>Fa u λy _=>AB N d i y&&decide (n=Xe b)&&dO T F N k e d (.e v)&&j7 r l|.EL i j=>λst=>xk7 st λv=>KM v λx es o h=>wO es λe=>KF e λy es=>wO es λe=>KF e λz es=>wO es λe=>Fa e λu _=>xx3 h λA b B s=>LT b λl r=>Fa l λv _=>Fa r λI _=>(decide (x="sorted")&&decide (y="range")&&decide (z="len")&&decide (u="rows")&&decide (o="key")&&decide (v="measures")&&decide (I="place"))&&(rQ d x&&rQ d y&&rQ d z&&AB N d i u&&decide (N[j]?=some v)&&decide (d.names.lookup v=some .cell))&&xj1 A "place" &&decide (B=Ir)&&AC T.lm λq=>decide (s=q.1)|.EM j e r=>λst=>xk6 st λt v l=>Fa t λb _=>KM v λx es o h=>wO es λy=>xx3 h λA g B s=>LT g λu w=>Fa u λv _=>FB w λc=>HK N d j b&&(decide (x="min")&&decide (o="key")&&decide (v="leading")&&decide (c=.int 1))&&(rQ d x&&D8 y)&&xj1 A "leading" &&decide (B=HB)&&(AC T.lm λq=>decide (s=q.1))&&dO T F N k e d (.e y)&&j7 r l
end
section
variable {a:Ad}{G:Gm}{T:Ts}{F:List Nat}{N:List Str}{k:Nat}{sc:Scope}{X:Cx}
def L8(i:X.env.scope=sc){x}{p pos:Pos}{v}(h:Vo sc x v=true):fz v (some (.Name x p)) pos.line X.env=pure false:=by
 unfold Vo at h;rw[dM] at h;rcases h with h|h;.cases v<;>first|rfl|cases h
 .have e:X.env.kindOf x=some .cell:=by{show X.env.scope.names.lookup x=_;rw[i];split at h;{assumption};.cases h};cases v<;>first|rfl|skip
  all_goals
   show(pure (X.env.blockKind==.function&&X.env.kindOf x==some .local&&_&&_):Sem Bool)=pure false
   rw[e]
   have:((some NameKind.cell==some NameKind.local):Bool)=false:=by decide
   rw[this]
   simp
def MI(g:X.env.scope=sc)(w:sc.kind=.function){x}{p pos:Pos}{v}(h:Vi sc x p v=true):fz v (some (.Name x p)) pos.line X.env=pure true/\X.env.scope.names.lookup x=some .local/\∃e o s m,v=.ListComp e o s m:=by refine Expr.ListComp.elim v (jq2 h) (λe o s m h=>?_) h;have h:(_&&_&&_)=true:=h;simp only[aa] at h;obtain⟨⟨q,z⟩,y⟩:=h;have e:X.env.kindOf x=some .local:=by{show X.env.scope.names.lookup x=_;rw[g];split at q;{assumption};.cases q};refine⟨?_,e,_,_,_,_,rfl⟩;show(pure (X.env.blockKind==.function&&X.env.kindOf x==some .local&&p.line==m.line&&!(s.names.any λ(n,k)=>n==x&&(k==.local||k==.cell))):Sem Bool)=pure true;have b:X.env.blockKind=.function:=by{unfold Env.blockKind;rw[g,w];rfl};rw[b,e,z,y];rfl
inductive jx2(a:Ad)(X:Cx)(ρ:Ev)(x:Expr)(gs:List Comprehension)(l:Scope)(d:D):Prop
 |mk (B J ifs own t xs ys)(_:gs=[⟨B,J,ifs,0⟩])(_:d=.lst ys)(_:ID a X ρ B J xs)(_:mO X.N X.env.scope l own)(_:∀(s) (H) (L) (cl) (P),GD a (X.lK s H l (cJ l cl L X.env) P) B t)(_:∀i∈t.slots,i∈own.map (·.2))(_:yD (qm a X ρ l B t ifs x (own.map (·.2))) xs ys)(_:∀x,cH J X.env x=pure x)
def AX{y}{x}{gs}{l}{pos}{d}(C:uL a G T F N k sc sc X)(hy:y=.e (.ListComp x gs l pos)\/y=.f (.ListComp x gs l pos))(w:dO T F N k m sc y=true)(U:ev G m ρ=some d):jx2 a X ρ x gs l d:=by cases m with|lc m1 t m2 own=>have w:(wO gs λc=>c.ifs.isEmpty&&qj6 N sc l t m2 own c&&dO T F N k m2 sc (.i c.iter)&&dO T F N k m1 (qT l sc) (.e x))=true:=by{rcases hy with rfl|rfl<;>exact w};obtain⟨xs,ys,hxs,rfl,hg⟩:=xq8 U;clear hy;refine SC gs w λc w=>PD w λh0 h1 h2 h3=>?_;obtain⟨_,own',r1,r2,r3,r4,r5,r6,e⟩:=xq9 (p:=pos) C (km.1 h0) h1 (d8 m2 C h2 hxs) hg (xx0 C (d8 m1) h3);exact⟨_,_,[],own',t,xs,ys,ip (λz=>[z]) e,rfl,r1,r2,r3,r4,r5,r6⟩|LV m1 t m2 m3 own=>have w:(wO gs λq=>qj6 N sc l t m2 own q&&dO T F N k m2 sc (.i q.iter)&&(wO q.ifs λu=>dO T F N k m3 (qT l sc) (.t u))&&dO T F N k m1 (qT l sc) (.e x))=true:=by{rcases hy with rfl|rfl<;>exact w};obtain⟨xs,ys,hxs,rfl,hg⟩:=xq8 U;clear hy;refine SC gs w λc w=>PD w λh1 h2 h4 h3=>?_;obtain⟨u,e1,e2⟩:=xx2 h4;obtain⟨_,own',r1,r2,r3,r4,r5,r6,e⟩:=xq9 (p:=pos) C e1 h1 (d8 m2 C h2 hxs) hg (xx1 C (d8 m1) (d8 m3) h3 e2);exact⟨_,_,[u],own',t,xs,ys,ip (λz=>[z]) e,rfl,r1,r2,r3,r4,r5,r6⟩|_=>rcases hy with rfl|rfl<;>exact(c9 w).elim
def DT{b sp pos:Pos}{y v}(h:zm v=true):GY [.Subscript (.Name x b) y sp] v pos.line X.env=pure false:=by
 show fz v (some (.Subscript (.Name x b) y sp)) pos.line X.env=pure false
 cases v<;>first|rfl|cases h
def HH{b pos:Pos}{v}:fz v (some (.Attribute e n b)) pos.line X.env=pure false:=by cases v<;>rfl
def IH{y}{v}(h:nQ y=true):qD (.Subscript (.Name x d) y sp) X.env v=(do
   let b<-fw [v] (cq (.Name x d) X.env)
   let c<-fw [v,b] (cq y X.env)
   lJ sp
   fw [v,b,c] (UG b c v)
   release [v,b,c] []):=by
 cases y<;>first|rfl|cases h
def Ks{m}{c}(h:jR m=false\/vy t=true)(f:Jj N sc t c=true):jR m=true->∃es e p,c=.Tuple es e p:=λq=>by rcases h with h|h;{rw[h] at q;cases q};.cases t with|nm i=>cases h|tp l=>exact qx7 c f λes e p _=>⟨es,e,p,rfl⟩
def SmC(a:Ad)(X:Cx)(T:Ts)(F:List Nat)(N:List Str)(k:Nat)(sc:Scope):Cf->Ev->Out->Prop|.st s,ρ,o=>∀st,j7 T F N k sc s st=true->SD a X ρ st o|.lp t b xs,ρ,o=>∀d,j7 T F N k sc b d=true->Lp (λx ρ o=>∃i7,fO t x ρ=some i7/\SD a X i7 d o) xs ρ o|.wl c b,ρ,o=>∀e d,dO T F N k c sc (.t e)=true->j7 T F N k sc b d=true->∃m,Wh (λρ b=>TD a X ρ e b) (λρ o=>SD a X ρ d o) m ρ o
def T4(C:uL a G T F N k sc sc X)(y:sc.kind=.function){i}{e}{x}{p pos}{v}{ρ}{d}(s:HK N sc i x=true)(f:(Vo sc x v||Vi sc x p v)=true)(m:dO T F N k e sc (.e v)=true)(l:ev G e ρ=some d)(hi:sF ρ i=true):xj a X ρ (.Assign [.Name x p] v pos) (.nx (ρ.set i (some (.pl d)))):=by have j:X.N.Nodup:=by{rw[C.hN];exact C.nd};obtain⟨h,J,w⟩:=C.st (pos:=pos) s;rw[dM] at f;rcases f with f|f;{exact Ml j h J w (L8 C.Hs f) hi (d8 e C m l)};.obtain⟨n,z,L,Q,H,O,rfl⟩:=MI (pos:=pos) C.Hs y f;obtain⟨M,P,ifs,own,t,xs,ys,rfl,rfl,q,u,I,B,A,o⟩:=AX C (.inl rfl) m l;exact Kt C.calm j h z n u o q I B A hi
def SR(C:uL a G T F N k sc sc X)(y:sc.kind=.function){i}{e}{x}{p pos}{v}{ρ}{ds}(s:HK N sc i x=true)(g:(Vo sc x v||Vi sc x p v)=true)(m:dO T F N k e sc (.f v)=true)(n:ev G e ρ=some (.lst ds))(hi:sF ρ i=true):xj a X ρ (.Assign [.Name x p] v pos) (.nx (ρ.set i (some (.ow ds)))):=by have j:X.N.Nodup:=by{rw[C.hN];exact C.nd};obtain⟨l,o,M⟩:=C.st (pos:=pos) s;rw[dM] at g;rcases g with g|g;{obtain⟨B,e',q⟩:=d8 e C m n;cases e';exact RW j l o M (L8 C.Hs g) hi q};.obtain⟨w,z,P,W,H,R,rfl⟩:=MI (pos:=pos) C.Hs y g;obtain⟨Q,U,ifs,own,t,xs,ys,rfl,e',A,u,O,J,L,I⟩:=AX C (.inr rfl) m n;cases e';exact L5 C.calm j l z w u I A O J L hi
def NC{es}{U n i}{g}{T}{ps}{s}{ρ}{c G d H O}{ds}(u:AA X.K a.C)(F:uN X.K a.C m g)(J:gm X.prog X.w X.K X.mg X.base nM U g T ps (Jl X.K a n s))(R:gH U X.A)(B:AR X.K T ps [])(v:(m==("commas" :Str))=false)(M:(m==("notes" :Str))=false) (r:X.N[i]?=some y) (L:vb X.env.scope y) (x:qq9 y) (l:xj8 y) (st:es.all D8=true) (W:es.length<29) (j:(apos.endLine==pos.line)=true) (t:ρ[i]?=some (some (.ob c G))) (h:AD a X ρ es ds) (I:ds.length+1=n) (Q:s c G ds=some (d,H,O)) (p:ds.length=es.length):OE a X ρ (.Call (.Attribute (.Name y ypos) m apos) es [] pos) i d H O:=by
 have P:=yL (y:=y) (m:=m) (ypos:=ypos) (env:=X.env) st W j;cases es with
  |nil=>cases ds with|nil=>exact Kh u F J R B v M r L x l P t I Q|cons _ _=>cases p
  |cons e es=>simp only[eS,aa] at st;exact PV u F J R B v M r L x l (λes=>dm st.1 es _) (jn st.2) P t h I Q
theorem FU{rest}{o}:∀(pre ρ),SD a X (pre++B8 ρ) rest o->SD a X (pre++ρ) rest o|pre,[],h=>h|pre,x::r,h=>by have f:=FU (pre++[Yi x]) r (by simpa[B8] using h);rw[bu,ik] at f;match x with|some (.ow ds)=>refine RN (i:=pre.length) (ds:=ds) (by simp) ?_;rwa[show(pre++some (Ent.ow ds)::r).set pre.length (some (.pl (.lst ds)))=pre++some (.pl (.lst ds))::r by simp]|none=>exact f|some (.pl d)=>exact f|some (.ob c n)=>exact f
def xj4{o:Option α}{f}(h:AC o f=true):∃x,o=some x/\f x=true:=Tm (R:=λo=>∃x,o=some x/\f x=true) o h λx h=>⟨x,rfl,h⟩
def xj5(C:uL a G T F N k sc sc X){f g}{es:List Expr}{i y ρ c n l d c' n' p q r}(h:xj3 T F k sc f g es=true)(i1:AB N sc i y=true)(h0:ρ[i]?=some (some (.ob c n))){m}(hm:dO T F N k m sc (.a es)=true)(he:ev G m ρ=some (.lst l))(hf:G.j4 f c n l=some (d,c',n')):OE a X ρ (.Call (.Name g p) (.Name y q::es) [] r) i d c' n':=by refine P3 h λh3 h4 h5 h6 h7 h8=>?_;obtain⟨fd,ps,Fn,hb,hm',hkp⟩:=C.tx.fo _ (xq5 h5) (gN h6);cases gN h3;exact C.vs i1 λqj7 qj8 qj9 v4=>F7 Fn (C.room.mono (gN h7)) (C.gl h4).1 hm' hkp hb (C.gl h4).2.1 qj7 qj8 qj9 v4 (jn (lA hm)) h0 (xq2 (d8 _ C hm he)).2 (by rw[(xq2 (d8 _ C hm he)).1];exact gN h8) hf
def xj6{d ρ}:∀ρ',Out.rt d ρ≠.nx ρ':=λ_ z=>by cases z
def GU(C:uL a G T F N k sc sc X)(hk:sc.kind=.function)(hlm:∀q,T.lm=some q->∃P,JY a X (P,q.1,q.2)){c:Cf}{ρ:Ev}{o:Out}(h:Ex G c ρ o):SmC a X T F N k sc c ρ o:=by
 have hN:X.N.Nodup:=by rw[C.hN];exact C.nd
 induction h with
  |nil=>exact λst hc=>Tk st hc Tf
  |JE he hi hr ih=>exact λst hc=>xk9 st hc λt v p l hc=>TW t hc λx q hc=>PD hc λh1 h2 h3 h4=>ic (T4 C hk h1 h2 h3 he hi) (ih _ h4)
  |own he hi hr ih=>exact λst hc=>xk9 st hc λt v p l hc=>TW t hc λx q hc=>PD hc λh1 h2 h3 h4=>ic (SR C hk h1 h2 h3 he hi) (ih _ h4)
  |xF he hj hi hn hr ih=>exact λst hc=>xk9 st hc λt v p l hc=>qx9 t hc λu y w hc=>TW u hc λx q hc=>P3 hc λh1 h2 h3 h4 h5 h6=>C.vs h1 λqj7 qj8 qj9 v4=>ic (Qq qj7 qj8 qj9 v4 (DT h3) rfl (λv=>IH h2) hi hn (d8 _ C h5 he) (d8 _ C h4 hj)) (ih _ h6)
  |app he hi hz hr ih=>refine λst hc=>zq1 st hc λx t m w es q p l hc=>SC es hc λv hc=>P3 hc λh1 h2 h3 h4 h5 h6=>?_;cases gN h2;exact C.vs h1 λqj7 qj8 qj9 v4=>ic (Ux qj7 qj8 qj9 v4 h3 (λes=>dm h4 es _) hi hz (d8 _ C h5 he)) (ih _ h6)
  |ext he hl hi hz hr ih=>refine λst hc=>zq1 st hc λx t m w es q p l hc=>SC es hc λv hc=>P3 hc λh1 h2 h3 h4 h5 h6=>?_;cases gN h2;exact C.vs h1 λqj7 qj8 qj9 v4=>ic (Tn qj7 qj8 qj9 v4 h3 (λes=>dm h4 es _) hi hl hz (d8 _ C h5 he)) (ih _ h6)
  |ret he=>exact λst hc=>zq0 st hc λv p l hc=>FU [] _ (j6 (Mj (d8 _ C hc he)) xj6)
  |EL h1 h2 hs=>refine λst hc=>zq0 st hc λv p l hc=>qj0 v hc λx p es o h r q hc=>SC es hc λe hc=>qz9 e hc λy p es q hc=>SC es hc λe hc=>qz9 e hc λz p es q hc=>SC es hc λe hc=>TW e hc λu p hc=>xz2 h hc λA b B s hc=>qx9 b hc λl r q hc=>TW l hc λv p hc=>TW r hc λI p hc=>PP hc λga gb gc gd ge=>Re ga λg1 g2 g3 g4 g5 g6 g7=>P3 gb λg8 g9 g10 g11 g12 g13=>?_;obtain⟨q,hq,g16⟩:=xj4 ge;obtain⟨P,L⟩:=hlm q hq;obtain⟨w,rfl⟩:=xj2 gc;cases gN g1;cases gN g2;cases gN g3;cases gN g4;cases gN g5;cases gN g6;cases gN g7;cases gN gd;cases gN g16;unfold Dy at hs;(split at hs<;>try cases hs);rename_i rs ms;cases hm:Se ms with|none=>rw[hm] at hs;cases hs|some ns=>rw[hm] at hs;have em:=fW hm;subst em;dsimp only at hs;split at hs<;>cases hs;rename_i hh;exact C.vs g11 λqj7 qj8 _ _=>j6 (Mj (L9 (q:=(P,q.1,q.2)) L C.calm C.room (C.gl g8).1 (C.bn JN) (C.gl g9).1 (C.bn JN) (C.gl g10).1 (C.bn JN) qj7 qj8 h1 (by rw[C.hN];exact gN g12) (by rw[C.Hs];exact gN g13) h2 hh.1 hh.2)) xj6
  |EM he hm hj hr ih=>refine λst hc=>xk9 st hc λt v p l hc=>TW t hc λb p hc=>qj0 v hc λx p es o h r q hc=>SC es hc λy hc=>xz2 h hc λA g B s hc=>qx9 g hc λu w q hc=>TW u hc λv p hc=>qx3 w hc λc j p hc=>SB hc λg1 ga gb g8 g9 g10 g11 g12=>PD ga λg2 g3 g4 g5=>Ps gb λg6 g7=>?_;obtain⟨q,hq,g10⟩:=xj4 g10;obtain⟨P,L⟩:=hlm q hq;obtain⟨w,rfl⟩:=xj2 g8;cases gN g2;cases gN g3;cases gN g4;cases gN g5;cases gN g9;cases gN g10;obtain⟨n1,Ps,Pv⟩:=C.st (pos:=⟨0,0,0,0⟩) g1;exact ic (Ml hN n1 Ps Pv rfl hj (P5 (p2:=⟨0,0,0,0⟩) (q:=(P,q.1,q.2)) L C.calm C.room (C.gl g6).1 (C.bn JN) (λes=>dm g7 es _) (d8 _ C g11 he) hm)) (ih _ g12)
  |Jn he hs hr ih1 ih2=>exact λst hc=>SL st hc λs l hc=>xz6 s hc λv x y p hc=>PD hc λh1 h2 h3 h4=>ic (FJ (xq0 (d8 _ C h1 he)) (λ_=>ih1 _ h2) (λz=>by cases z)) (ih2 _ h4)
  |iff he hs hr ih1 ih2=>exact λst hc=>SL st hc λs l hc=>xz6 s hc λv x y p hc=>PD hc λh1 h2 h3 h4=>ic (FJ (xq0 (d8 _ C h1 he)) (λz=>by cases z) (λ_=>ih1 _ h3)) (ih2 _ h4)
  |fH he hs hn ih1=>exact λst hc=>SL st hc λs l hc=>xz6 s hc λv x y p hc=>PD hc λh1 h2 h3 h4=>j6 (FJ (xq0 (d8 _ C h1 he)) (λ_=>ih1 _ h2) (λz=>by cases z)) hn
  |VW he hs hn ih1=>exact λst hc=>SL st hc λs l hc=>xz6 s hc λv x y p hc=>PD hc λh1 h2 h3 h4=>j6 (FJ (xq0 (d8 _ C h1 he)) (λz=>by cases z) (λ_=>ih1 _ h3)) hn
  |brk=>exact λst hc=>SL st hc λs l hc=>xz9 s hc λp=>j6 Uv (λρ' z=>by cases z)
  |cnt=>exact λst hc=>SL st hc λs l hc=>xj0 s hc λp=>j6 Tj (λρ' z=>by cases z)
  |kF hw hr ih1 ih2=>exact λst hc=>SL st hc λs l hc=>xz7 s hc λv x y p hc=>PD hc λh0 h1 h2 h3=>Tk y h0 ((ih1 _ _ h1 h2).elim λm q=>ic (BF C.po q) (ih2 _ h3))
  |Wy hw hn ih1=>exact λst hc=>SL st hc λs l hc=>xz7 s hc λv x y p hc=>PD hc λh0 h1 h2 h3=>Tk y h0 ((ih1 _ _ h1 h2).elim λm q=>j6 (BF C.po q) hn)
  |wz he=>exact λe d h1 h2=>⟨0,.z (xq0 (d8 _ C h1 he))⟩
  |wn he hs hr ih1 ih2=>exact λe d h1 h2=>(ih2 _ _ h1 h2).elim λm r=>⟨m+1,.n (xq0 (d8 _ C h1 he)) (ih1 _ h2) r⟩
  |wc he hs hr ih1 ih2=>exact λe d h1 h2=>(ih2 _ _ h1 h2).elim λm r=>⟨m+1,.c (xq0 (d8 _ C h1 he)) (ih1 _ h2) r⟩
  |wb he hs ih1=>exact λe d h1 h2=>⟨0,.b (xq0 (d8 _ C h1 he)) (ih1 _ h2)⟩
  |wr he hs ih1=>exact λe d h1 h2=>⟨0,.r (xq0 (d8 _ C h1 he)) (ih1 _ h2)⟩
  |fr he hl hr ih1 ih2=>refine λst hc=>SL st hc λs l hc=>xz8 s hc λj c x y p hc=>Re hc λh0 h1 h2 h3 h4 h5 h6=>Tk y h0 ?_;obtain⟨ds,e,q⟩:=d8 _ C h4 he;cases e;exact ic (LM C.po C.calm (λx=>Dt h3 _ x) (q _ (Ks (xq6 h2) h1)) (JS hN C.calm (C.tg h1)) (ih1 _ h5)) (ih2 _ h6)
  |QR he hl hn ih1=>refine λst hc=>SL st hc λs l hc=>xz8 s hc λj c x y p hc=>Re hc λh0 h1 h2 h3 h4 h5 h6=>Tk y h0 ?_;obtain⟨ds,e,q⟩:=d8 _ C h4 he;cases e;exact j6 (LM C.po C.calm (λx=>Dt h3 _ x) (q _ (Ks (xq6 h2) h1)) (JS hN C.calm (C.tg h1)) (ih1 _ h5)) hn
  |lz=>exact λd hc=>.z
  |ln hb hs hr ih1 ih2=>exact λd hc=>.n ⟨_,hb,ih1 _ hc⟩ (ih2 _ hc)
  |lc hb hs hr ih1 ih2=>exact λd hc=>.c ⟨_,hb,ih1 _ hc⟩ (ih2 _ hc)
  |lb hb hs ih1=>exact λd hc=>.b ⟨_,hb,ih1 _ hc⟩
  |lr hb hs ih1=>exact λd hc=>.r ⟨_,hb,ih1 _ hc⟩
  |Ef hi hr ih=>refine λst hc=>xk9 st hc λt v p l hc=>TW t hc λx q hc=>qz9 v hc λy w es r hc=>SB hc λh0 h1 h2 h3 h4 h5 h6 h7=>Tk es h0 ?_;obtain⟨g,fd,M,Fn,hb,hm⟩:=C.tx.fi T.ci (xq5 h4) (gN h5);cases gN h2;obtain⟨n1,Ps,Pv⟩:=C.st (pos:=⟨0,0,0,0⟩) h1;exact ic (Qn M Fn (C.room.mono (gN h6)) (C.gl h3).1 hm hb (C.gl h3).2.1 hN n1 Ps Pv hi) (ih _ h7)
  |D2 h0 he hf hj hne hr ih=>refine λst hc=>xk9 st hc λt v p l hc=>TW t hc λx q hc=>qz9 v hc λg w es r hc=>SL es hc λe es hc=>TW e hc λy z hc=>PP hc λh1 h2 h3 h9 h10=>?_;obtain⟨n1,Ps,Pv⟩:=C.st (pos:=⟨0,0,0,0⟩) h1;exact ic (Ov hN n1 Ps Pv rfl hj hne h0 (xj5 C h3 h2 h0 h9 he hf)) (ih _ h10)
  |rJ h0 he hf=>exact λst hc=>zq0 st hc λv p l hc=>qz9 v hc λg w es r hc=>SL es hc λe es hc=>TW e hc λy z hc=>Pv hc λh2 h3 h9=>j6 (Fc h0 (xj5 C h3 h2 h0 h9 he hf)) xj6
  |uQ hv hcv h0 he hf=>refine λst hc=>zq0 st hc λv p l hc=>qz9 v hc λg w es r hc=>SL es hc λe es hc=>TW e hc λy z hc=>PD hc λh1 h2 h3 h4=>?_;rw[C.tx.Hn] at hcv;refine PD (aN.1 h3 _ hcv) λk1 k2 k3 k4=>?_;obtain⟨fd,ps,Fn,hb,hm,hkp⟩:=C.tx.fo _ (xq5 k1) (gN k2);obtain⟨hlen,q⟩:=xq2 (d8 _ C h4 he);exact C.vs h1 λqj7 qj8 qj9 v4=>C.vs h2 λw1 w2 w3 w4=>j6 (Fc h0 (Ma Fn (C.room.mono (gN k3)) hkp hb w1 w2 w3 w4 hv qj7 qj8 qj9 v4 (jn (lA h4)) h0 q (by rw[hlen];exact gN k4) hf)) xj6
  |CS h0 he hf hr ih=>refine λst hc=>zq1 st hc λy t m w es q p l hc=>SB hc λh1 h2 ha h5 hb' hd h11 h12=>Ps ha λh3 h4=>Pv hb' λh6 h7 h8=>Ps hd λh9 h10=>?_;obtain⟨fd,ps,Fn,hb,hm⟩:=C.tx.fm _ (xq5 h6) (gN h7);cases gN h2;obtain⟨hlen,q⟩:=xq2 (d8 _ C h11 he);exact C.vs h1 λqj7 qj8 qj9 v4=>ic (Ut rfl h0 (NC C.tx.cl.1 hm Fn (C.room.mono (gN h8)) hb (by simpa using h3) (by simpa using h4) qj7 qj8 qj9 v4 (lA h11) (gN h10) h5 h0 q (by rw[hlen];exact gN h9) hf hlen)) (ih _ h12)
  |sr h0 he hr ih=>refine λst hc=>xk9 st hc λt v p l hc=>UF t hc λu n q hc=>TW u hc λy w hc=>PD hc λh1 h2 h3 h4=>?_;cases gN h2;exact C.vs h1 λqj7 qj8 qj9 v4=>ic (Pc qj7 qj8 qj9 v4 C.tx.cl.1 C.tx.cl.2.1 C.tx.cl.2.2 HH h0 (d8 _ C h3 he)) (ih _ h4)
end
abbrev i7(N:List Str)(ds:List D):Ev:=ds.map (λd=>some (.pl d))++iF (N.length -ds.length) none
abbrev gf(N:List Str)(c m:D)(ds:List D):Ev:=some (.ob c m)::(ds.map (λd=>some (.pl d))++iF (N.length -(ds.length+1)) none)
section
variable {a:Ad}{G:Gm}{T:Ts}{F:List Nat}{N ps:List Str}{k n:Nat}{P:Program}{w:World}{K:ah}{mg:Str->Option Value}{base:Heap}
def Aa{st}{f}{b}{A}{outer}{s}{H}{E}(e:Tx P w K mg base a G T F)(g:N.Nodup)(d:gH k (A.deeper (sQ c (cB st) s.heap.objs.size f b))):uL a G T F N k (cB st) (cB st) (zt nM P w K mg base N c (cB st) f b A outer s H E).QW:=⟨e,rfl,g,rfl,rfl,d,λx h=>h,λx h=>⟨h,rfl⟩,E7⟩
def lZ{ds:List D}{m i:Nat}{x}(h:((ds.map (λd=>some (Ent.pl d))++iF m none:Ev))[i]?=some (some x)):∃d,ds[i]?=some d/\x=.pl d:=by by_cases hi:i<ds.length;{rw[f7 (by simpa using hi),aP,ai hi] at h;exact⟨_,ai hi,by cases h;rfl⟩};.rw[x3 (by simpa using hi)] at h;have:=aQ.mp h;obtain⟨_,e⟩:=this;rw[List.getElem_replicate] at e;cases e
def str0{S H}{vs}{ds}(e:eY S H)(w:jz a S H)(r:bN K a.fa S vs ds):jt K a (i7 N ds) S H (L2.start N vs):=by have y:=r.length;refine⟨e,?_,λi d h=>?_,λi l h=>?_,λi c m h=>?_,λi j p o=>?_,w⟩;{simp[L2.start,y]};{obtain⟨d',x,k⟩:=lZ h;cases k;obtain⟨v,s,z⟩:=r.get x;refine⟨v,?_,z⟩;unfold L2.start;have hi:i<vs.length:=(aQ.mp s).1;rw[f7 (by simpa using hi),aP,s];rfl};{obtain⟨d',_,k⟩:=lZ h;cases k};{obtain⟨d',_,k⟩:=lZ h;cases k};.obtain⟨⟨l,h⟩|⟨c,m,h⟩,_⟩:=o;{obtain⟨d',_,k⟩:=lZ h;cases k};.obtain⟨d',_,k⟩:=lZ h;cases k
def Q8(o:iu (i7 N ds) σ i p):False:=by obtain⟨⟨l,h⟩|⟨c,m,h⟩,_⟩:=o;{obtain⟨d',_,d⟩:=lZ h;cases d};.obtain⟨d',_,d⟩:=lZ h;cases d
def B7{st}{f}{B}{s}{d3}(L:M8 K x I st f B)(u:j5 N ps (cB st))(M:Tx P w K mg base a G T F)(hc:j7 T F N k (cB st) s (gu st)=true)(R:ps.length=n)(l:T.lm=none) (J:∀ds d,ds.length=n->d3 ds=some d->∃g,Ex G (.st s) (i7 N ds) (.rt d g)):gm P w K mg base nM (k+1) f B ps (Mr K a n d3):=by refine L.ok u (λvs H Q E h=>?_) (λO A outer s H vs Q E hr h=>?_);{obtain⟨S,ds,d,_,_,r,y,_⟩:=h;rw[r.length,y,R]};.obtain⟨S,ds,d,e,Z,r,y,hf,q⟩:=h;obtain⟨g,X⟩:=J ds d y hf;have C:=Aa (outer:=outer) (H:=H) (E:=E) M u.nd hr;refine⟨_,rH,?_⟩;refine GU C u.kind (λq z=>by rw[l] at z;cases z) X _ hc S H _ (str0 e Z r) _ λv S' H' Y R' m r'=>q v S' H' ⟨m.s,m.h,λp o n1 W z=>m.k p o n1 W z λ⟨i,o⟩=>Q8 o,m.t⟩ r'
def OY{st}{f c I}{oc kV B pm ct}{od an}{Y}{s}{d3}{lq} (lk:K.lookup f=some ⟨oc,od,.func (fg x b (kT st) (gu st) (cB st) .none kV B pm an (.ref c) ct),Y⟩) (M:lg K (.ref c) b=true) (hhd:jO K c I=true) (bb:base.BuiltinsAt mg I) (J:(I,lq.1,lq.2)∈a.tabs) (nd:(a.tabs.map (·.1)).Nodup) (gp:cD≠I) (hq:(b++".<locals>.")++"<lambda>" =lq.2) (Z:T.lm=some lq) (U:j5 N ps (cB st)) (tx:Tx P w K mg base a G T F) (hc:j7 T F N k (cB st) s (gu st)=true) (hn:ps.length=n) (hE:∀ds d,ds.length=n->d3 ds=some d->∃y,Ex G (.st s) (i7 N ds) (.rt d y)):gm P w K mg base nM (k+1) f (fg x b (kT st) (gu st) (cB st) .none kV B pm an (.ref c) ct) ps (Mr K a n d3):=by refine QL lk M U (λvs H Q E h=>?_) (λA outer s H vs Q E hr h=>?_);{obtain⟨S,ds,d,_,_,r,R,_⟩:=h;rw[r.length,R,hn]};.obtain⟨S,ds,d,e,tb,r,R,hf,q⟩:=h;obtain⟨y,hx⟩:=hE ds d R hf;have C:=Aa (outer:=outer) (H:=H) (E:=E) tx U.nd hr;have L:∀q,T.lm=some q->∃P',JY a (zt nM P w K mg base N b (cB st) f (.ref c) A outer s H E).QW (P',q.1,q.2):=λq z=>by{rw[Z] at z;obtain rfl:=bA z;exact⟨I,J,⟨c,rfl,hhd⟩,bb,hq,gp,nd⟩};refine⟨_,CQ.QW (rH (X:=(zt nM P w K mg base N b (cB st) f (.ref c) A outer s H E).QW)),?_⟩;exact GU C U.kind L hx _ hc S H _ (str0 e tb r) _ λv S' H' σ' R' m r'=>q v S' H' ⟨m.s,m.h,λp o n1 h1 z=>m.k p o n1 h1 z λ⟨i,o⟩=>Q8 o,m.t⟩ r'
def rS{ds:List D}{k i}{x:Ent}(h:((some (Ent.ob c m)::(ds.map (λd=>some (Ent.pl d))++iF k none):Ev))[i]?=some (some x)):(i=0/\x=.ob c m)\/∃j d,i=j+1/\ds[j]?=some d/\x=.pl d:=by cases i with|zero=>exact .inl ⟨rfl,by cases h;rfl⟩|succ j=>obtain⟨d,l,n⟩:=lZ (show((ds.map (λd=>some (Ent.pl d))++iF k none:Ev))[j]?=some (some x) from h);exact .inr ⟨j,d,rfl,l,n⟩
def KH{ds:List D}{k}{σ}{i}{p:aE}(o:iu (some (Ent.ob c m)::(ds.map (λd=>some (Ent.pl d))++iF k none):Ev) σ i p):i=0/\σ[0]?=some (some (.ref p)):=by obtain⟨⟨l,h⟩|⟨c,m,h⟩,e⟩:=o;{rcases rS h with⟨_,z⟩|⟨_,_,_,_,z⟩<;>cases z};.rcases rS h with⟨z,_⟩|⟨_,_,_,_,z⟩;{subst z;exact⟨rfl,e⟩};.cases z
def str1{S H}{vs}{ds}{p}{c m}(e:eY S H)(B:jz a S H)(x:S p=none)(F:tD K a S H p c m)(r:bN K a.fa S vs ds):jt K a (gf N c m ds) S H (L2.start N (.ref p::vs)):=by have J:=r.length;refine⟨e,?_,λi d h=>?_,λi l h=>?_,λi c m h=>?_,λi j p o I=>?_,B⟩;{simp[L2.start,J]};{rcases rS h with⟨_,z⟩|⟨j,d',rfl,G,L⟩;{cases z};.cases L;obtain⟨v,w,A⟩:=r.get G;refine⟨v,?_,A⟩;have hi:j<vs.length:=(aQ.mp w).1;show((vs.map some++_:L2.St))[j]?=_;rw[f7 (by simpa using hi),aP,w];rfl};{rcases rS h with⟨_,z⟩|⟨_,_,_,_,z⟩<;>cases z};{rcases rS h with⟨y,z⟩|⟨_,_,_,_,z⟩;{cases z;subst y;exact⟨p,rfl,x,F⟩};.cases z};.rw[(KH o).1,(KH I).1]
def SY{st}{f}{fd}{s}{j4:D->D->List D->Option (D×D×D)}(Fu:M8 K x qual st f fd)(W:j5 N ps (cB st))(tx:Tx P w K mg base a G T F)(hc:j7 T F N k (cB st) s (gu st)=true)(hn:ps.length=n)(R:T.lm=none) (hE:∀c m ds d J L,ds.length+1=n->j4 c m ds=some (d,J,L)->∃u,u[0]?=some (some (.ob J L))/\(Ex G (.st s) (gf N c m ds) (.rt d u)\/(d=.ie/\Ex G (.st s) (gf N c m ds) (.nx u)))):gm P w K mg base nM (k+1) f fd ps (Jl K a n j4):=by refine Fu.ok W (λvs H Q E h=>?_) (λcdv A outer s H vs Q E hr h=>?_);{obtain⟨S,p,ws,ds,c,m,d,J,L,rfl,_,_,_,_,r,Y,_⟩:=h;rw[aI,r.length,Y,hn]};.obtain⟨S,p,ws,ds,c,m,d,J,L,rfl,e,tb,nS,ob,r,Y,hf,q⟩:=h;obtain⟨u,h0,M⟩:=hE c m ds d J L Y hf;have C:=Aa (outer:=outer) (H:=H) (E:=E) tx W.nd hr;refine⟨_,rH,?_⟩;have U:∀{v:V} {I H':Hp} {B:L2.St},jt K a u I H' B->cj a (gf N c m ds) (L2.start N (.ref p::ws)) u B S H I H'->Rp K a.fa I v d->Q v H':=λ{v I H' B} O st r'=>by{obtain⟨p',e1,n1,o1⟩:=O.ob 0 J L h0;have e2:=(st.o 0 ⟨c,m,rfl⟩).2;rw[e1] at e2;have e3:(some (some (V.ref p')):Option (Option V))=some (some (.ref p)):=e2;cases e3;refine q v I H' ⟨st.s,st.h,λb o n2 h2 z hb=>st.k b o n2 h2 z λzz=>?_,st.t⟩ n1 o1 r';obtain⟨i,ow⟩:=zz;have e4:(some (some (V.ref p)):Option (Option V))=some (some (.ref b)):=(KH ow).2;cases e4;exact hb rfl};rcases M with M|⟨rfl,M⟩;{exact GU C W.kind (λq z=>by rw[R] at z;cases z) M _ hc S H _ (str1 e tb nS ob r) _ λv I H' B O st r'=>U O st r'};.exact GU C W.kind (λq z=>by rw[R] at z;cases z) M _ hc S H _ (str1 e tb nS ob r) _ λI H' B O st=>U O st .ie
def QK{st}{f}{t}{s}{v}{pos}{j}(U:M8 K x u st f t)(o:j5 N ps (cB st))(L:Tx P w K mg base a G T F)(J:gu st=[.Return (some v) pos])(B:dO T F N k s (cB st) (.e v)=true)(O:ps.length=n) (y:∀c m ds d,ds.length+1=n->j c m ds=some d->ev G s (gf N c m ds)=some d):gm P w K mg base nM (k+1) f t ps (Wz K a n j):=by refine U.ok o (λvs H Q E h=>?_) (λW A outer s H vs Q E hr h=>?_);{obtain⟨S,p,M,ds,c,m,d,rfl,_,_,_,_,r,l,_⟩:=h;rw[aI,r.length,l,O]};.obtain⟨S,p,M,ds,c,m,d,rfl,e,X,nS,z,r,l,hf,q⟩:=h;have C:=Aa (outer:=outer) (H:=H) (E:=E) L o.nd hr;have I:ED a _ _ v d:=d8 _ C B (y c m ds d l hf);refine⟨_,by rw[J];exact Fy (DC b9),?_⟩;exact I S H _ (str1 e X nS z r) _ λv S' H' Z Y=>q v S' H' Z Y
end
def ac(A:Out->Prop)(B:Ev->Out->Prop)(o:Out):Prop:=(∃ρ,A (.nx ρ)/\B ρ o)\/A o/\∀ρ,o≠.nx ρ
def ad(B:Ev->Out->Prop)(o:Out):Out->Prop|.nx ρ|.ct ρ=>B ρ o|.bk ρ=>o=.nx ρ|.rt d ρ=>o=.rt d ρ
def al(G:Gm)(ρ:Ev)(o:Out):S->Prop|.nil=>o=.nx ρ|.JE i e r=>∃d,ev G e ρ=some d/\Ex G (.st r) (ρ.set i (some (.pl d))) o|.own i e r=>∃d,ev G e ρ=some (.lst d)/\Ex G (.st r) (ρ.set i (some (.ow d))) o|.xF i a e r=>∃d j l n,ev G e ρ=some d/\ev G a ρ=some (.int j)/\ρ[i]?=some (some (.ow l))/\Fi l.length j=some n/\Ex G (.st r) (ρ.set i (some (.ow (l.set n d)))) o|.app i e r=>∃d l,ev G e ρ=some d/\ρ[i]?=some (some (.ow l))/\Ex G (.st r) (ρ.set i (some (.ow (l++[d])))) o|.ext i e r=>∃d l k,ev G e ρ=some d/\oj d=some k/\ρ[i]?=some (some (.ow l))/\Ex G (.st r) (ρ.set i (some (.ow (l++k)))) o|.ret e=>∃d,ev G e (B8 ρ)=some d/\o=.rt d (B8 ρ)|.ifs c a b r=>∃z,ev G c ρ=some (.bl z)/\ac (Ex G (.st (if z=true then a else b)) ρ) (Ex G (.st r)) o|.EL i j=>∃x y d,ρ[i]?=some (some (.pl x))/\ρ[j]?=some (some (.pl y))/\Dy x y=some d/\o=.rt d ρ|.EM j e r=>∃x d,ev G e ρ=some x/\GB x=some d/\Ex G (.st r) (ρ.set j (some (.pl d))) o|.brk=>o=.bk ρ|.cnt=>o=.ct ρ|.kF c b r=>ac (Ex G (.wl c b) ρ) (Ex G (.st r)) o|.fr t i b r=>∃l,ev G i ρ=some (.lst l)/\ac (Ex G (.lp t b l) ρ) (Ex G (.st r)) o|.Ef i r=>Ex G (.st r) (ρ.set i (some (.ob (.lst []) (.lst [])))) o|.D2 j f i a r=>∃c n l x,ρ[i]?=some (some (.ob c n))/\ev G a ρ=some (.lst l)/\G.j4 f c n l=some x/\Ex G (.st r) ((ρ.set i (some (.ob x.2.1 x.2.2))).set j (some (.pl x.1))) o|.rJ f i a=>∃c n l x,ρ[i]?=some (some (.ob c n))/\ev G a ρ=some (.lst l)/\G.j4 f c n l=some x/\o=.rt x.1 (ρ.set i (some (.ob x.2.1 x.2.2)))|.uQ v i a=>∃f c n l x,ρ[v]?=some (some (.pl (.fn f)))/\ρ[i]?=some (some (.ob c n))/\ev G a ρ=some (.lst l)/\G.j4 f c n l=some x/\o=.rt x.1 (ρ.set i (some (.ob x.2.1 x.2.2)))|.CS f i a r=>∃c n l x,ρ[i]?=some (some (.ob c n))/\ev G a ρ=some (.lst l)/\G.j4 f c n l=some x/\Ex G (.st r) (ρ.set i (some (.ob x.2.1 x.2.2))) o|.sr i b e r=>∃c n d,ρ[i]?=some (some (.ob c n))/\ev G e ρ=some d/\Ex G (.st r) (ρ.set i (some (if b=true then .ob c d else .ob d n))) o
def am(G:Gm)(ρ:Ev)(o:Out):Cf->Prop|.st s=>al G ρ o s|.wl c b=>∃z,ev G c ρ=some (.bl z)/\if z=true then ∃p,Ex G (.st b) ρ p/\ad (Ex G (.wl c b)) o p else o=.nx ρ|.lp _ _ []=>o=.nx ρ|.lp t b (x::l)=>∃f,fO t x ρ=some f/\∃p,Ex G (.st b) f p/\ad (Ex G (.lp t b l)) o p
def Ex.inv(h:Ex G c ρ o):am G ρ o c:=by cases h with|nil|brk|cnt|lz=>exact rfl|JE a _ h|own a _ h=>exact⟨_,a,h⟩|xF a b c d h=>exact⟨_,_,_,_,a,b,c,d,h⟩|app a b _ h=>exact⟨_,_,a,b,h⟩|ext a b c _ h=>exact⟨_,_,_,a,b,c,h⟩|ret a=>exact⟨_,a,rfl⟩|Jn a b c=>exact⟨true,a,.inl ⟨_,b,c⟩⟩|iff a b c=>exact⟨false,a,.inl ⟨_,b,c⟩⟩|fH a b c=>exact⟨true,a,.inr ⟨b,c⟩⟩|VW a b c=>exact⟨false,a,.inr ⟨b,c⟩⟩|EL a b c=>exact⟨_,_,_,a,b,c,rfl⟩|EM a b _ c=>exact⟨_,_,a,b,c⟩|kF a b=>exact .inl ⟨_,a,b⟩|Wy a b=>exact .inr ⟨a,b⟩|wz a=>exact⟨false,a,rfl⟩|wn a b c|wc a b c=>exact⟨true,a,_,b,c⟩|wb a b|wr a b=>exact⟨true,a,_,b,rfl⟩|fr a b c=>exact⟨_,a,.inl ⟨_,b,c⟩⟩|QR a b c=>exact⟨_,a,.inr ⟨b,c⟩⟩|ln a b c|lc a b c=>exact⟨_,a,_,b,c⟩|lb a b|lr a b=>exact⟨_,a,_,b,rfl⟩|Ef _ h=>exact h|D2 a b c _ _ h|CS a b c h=>exact⟨_,_,_,_,a,b,c,h⟩|rJ a b c=>exact⟨_,_,_,_,a,b,c,rfl⟩|uQ v _ a b c=>exact⟨_,_,_,_,_,v,a,b,c,rfl⟩|sr a b h=>exact⟨_,_,_,a,b,h⟩
def ca{A:Out->Prop}{B}(h:ac A B d)(a:∀{d},A d->.nx r=d)(b:∀{d},B r d->o=d):o=d:=by obtain⟨e,x,y⟩|⟨x,y⟩:=h;{cases a x;exact b y};.exact(y _ (a x).symm).elim
def cr{A:Out->Prop}{B}(h:ac A B d)(a:∀{d},A d->o=d)(b:∀r,o≠.nx r):o=d:=by obtain⟨e,x,y⟩|⟨x,y⟩:=h;{exact(b _ (a x)).elim};.exact a x
def db{a:Option α}(h:a=some x)(k:a=some y):x=y:=bA (h.symm.trans k)
def Ex.det(h:Ex G c ρ o):∀{d},Ex G c ρ d->o=d:=by induction h with(intro d k;have k:=k.inv)|nil|brk|cnt|lz=>exact k.symm|JE a _ _ ih|own a _ _ ih=>obtain⟨_,b,k⟩:=k;cases db a b;exact ih k|xF a b c e _ ih=>obtain⟨_,_,_,_,f,g,h,i,k⟩:=k;obtain rfl:=db a f;cases db b g;cases db c h;obtain rfl:=db e i;exact ih k|app a b _ _ ih=>obtain⟨_,_,f,g,k⟩:=k;cases db a f;cases db b g;exact ih k|ext a b c _ _ ih=>obtain⟨_,_,_,f,g,h,k⟩:=k;obtain rfl:=db a f;obtain rfl:=db b g;cases db c h;exact ih k|ret a=>obtain⟨_,b,k⟩:=k;obtain rfl:=db a b;exact k.symm|Jn a _ _ i j|iff a _ _ i j=>obtain⟨_,b,k⟩:=k;cases db a b;exact ca k i j|fH a _ b i|VW a _ b i=>obtain⟨_,c,k⟩:=k;cases db a c;exact cr k i b|EL a b c=>obtain⟨_,_,_,f,g,h,k⟩:=k;cases db a f;cases db b g;obtain rfl:=db c h;exact k.symm|EM a b _ _ ih=>obtain⟨_,_,f,g,k⟩:=k;cases db a f;obtain rfl:=db b g;exact ih k|kF _ _ i j=>exact ca k i j|Wy _ b i=>exact cr k i b|wz a=>obtain⟨_,b,k⟩:=k;cases db a b;exact k.symm|wn a _ _ i j|wc a _ _ i j=>obtain⟨_,b,k⟩:=k;cases db a b;obtain⟨_,x,k⟩:=k;obtain rfl:=i x;exact j k|wb a _ i|wr a _ i=>obtain⟨_,b,k⟩:=k;cases db a b;obtain⟨_,x,k⟩:=k;obtain rfl:=i x;exact k.symm|fr a _ _ i j=>obtain⟨_,b,k⟩:=k;cases db a b;exact ca k i j|QR a _ b i=>obtain⟨_,c,k⟩:=k;cases db a c;exact cr k i b|ln a _ _ i j|lc a _ _ i j=>obtain⟨_,b,_,x,k⟩:=k;obtain rfl:=db a b;obtain rfl:=i x;exact j k|lb a _ i|lr a _ i=>obtain⟨_,b,_,x,k⟩:=k;obtain rfl:=db a b;cases i x;exact k.symm|Ef _ _ ih=>exact ih k|D2 a b c _ _ _ ih|CS a b c _ ih=>obtain⟨_,_,_,_,f,g,h,k⟩:=k;cases db a f;cases db b g;obtain rfl:=db c h;exact ih k|rJ a b c=>obtain⟨_,_,_,_,f,g,h,k⟩:=k;cases db a f;cases db b g;obtain rfl:=db c h;exact k.symm|uQ v _ a b c=>obtain⟨_,_,_,_,_,w,f,g,h,k⟩:=k;cases db v w;cases db a f;cases db b g;obtain rfl:=db c h;exact k.symm|sr a b _ ih=>obtain⟨_,_,_,f,g,k⟩:=k;cases db a f;obtain rfl:=db b g;exact ih k
def lo(p:Nat->Bool)(v:List Nat):E->Bool|.var _|.con _|.jg _|.nil|.np|.Lr _ _|.xG _|.fld _ _=>true|.neg a|.nt a|.tv a|.Ym a|.Vd a|.one a|.bi _ a|.Tz a|.tup a|.lst a|.pt a|.wq a|.DW a|.uf a|.bl a|.join _ a|.Xo a|.La a _|.oT a|.qf a|.vG a|.T6 a|.xH _ a|.Vb _ a|.Vc _ a|.Ci _ _ a=>lo p v a|.bin _ a b|.cmp _ a b|.Vx a b|.IU a b|.an a b|.or a b|.cons a b|.ix a b|.zV a b|.zip a b|.idx a b|.Yr a b|.lc a _ b _=>lo p v a&&lo p v b|.Hh _ _ a b c|.ite a b c|.sl a b c|.AL a b c|.LV a _ b c _=>lo p v a&&lo p v b&&lo p v c|.cM f a=>p f&&lo p v a|.HL _ a=>v.all p&&lo p v a
def dL(h:(a&&b)=true):a=true:=(E6.1 h).1
def f8(h:(a&&b)=true):b=true:=(E6.1 h).2
def V3{p:Nat->Bool}{G G':Gm}(h:∀f,p f=true->G.d3 f=G'.d3 f)(h1:G'.Vm=G.Vm)(h2:G'.del=G.del)(h3:G'.M4=G.M4)(h4:G'.cv=G.cv):∀(e:E) (ρ:Ev),lo p G.cv e=true->ev G' e ρ=ev G e ρ:=by intro e;induction e with(intro ρ q)|var|con|nil|np|Lr|xG|fld=>rfl|jg j=>exact congrFun h1 j|neg a i|nt a i|tv a i|Ym a i|Vd a i|one a i|bi _ a i|Tz a i|tup a i|lst a i|pt a i|wq a i|DW a i|uf a i|bl a i|join _ a i|Xo a i|La a _ i|oT a i|qf a i|vG a i|T6 a i|Vc _ a i=>(conv=>lhs;whnf);rw[i ρ q];rfl|xH _ a i|Vb _ a i=>(conv=>lhs;whnf);rw[i ρ q,h2];rfl|Ci _ _ a i=>(conv=>lhs;whnf);rw[i ρ q,h3];rfl|bin _ a b i j|cmp _ a b i j|Vx a b i j|IU a b i j|an a b i j|or a b i j|cons a b i j|ix a b i j|zV a b i j|zip a b i j|idx a b i j|Yr a b i j=>(conv=>lhs;whnf);rw[i ρ (dL q),j ρ (f8 q)];rfl|Hh _ _ a b c i j k|ite a b c i j k|sl a b c i j k|AL a b c i j k=>(conv=>lhs;whnf);rw[i ρ (dL (dL q)),j ρ (f8 (dL q)),k ρ (f8 q)];rfl|lc a t b o i j=>(conv=>lhs;whnf);simp only[i _ (dL q),j ρ (f8 q)];rfl|LV a t b c o i j k=>(conv=>lhs;whnf);simp only[i _ (dL (dL q)),j ρ (f8 (dL q)),k _ (f8 q)];rfl|cM f a i=>(conv=>lhs;whnf);rw[i ρ (f8 q),<-h f (dL q)];rfl|HL f a i=>(conv=>lhs;whnf);rw[i ρ (f8 q),h4];(conv=>rhs;whnf);split;{split;{rw[h _ (aN.1 (dL q) _ ‹_›)]};.rfl};.rfl
def FW(p:Nat->Bool)(v w:List Nat):S->Bool|.nil|.brk|.cnt|.EL _ _=>true|.JE _ e r|.own _ e r|.app _ e r|.ext _ e r|.sr _ _ e r|.EM _ e r=>lo p v e&&FW p v w r|.xF _ a e r=>lo p v a&&lo p v e&&FW p v w r|.ret e=>lo p v e|.ifs c a b r=>lo p v c&&FW p v w a&&FW p v w b&&FW p v w r|.kF c b r|.fr _ c b r=>lo p v c&&FW p v w b&&FW p v w r|.Ef _ r=>FW p v w r|.D2 _ f _ a r|.CS f _ a r=>p f&&lo p v a&&FW p v w r|.rJ f _ a=>p f&&lo p v a|.uQ _ _ a=>w.all p&&lo p v a
def loC(p:Nat->Bool)(v w:List Nat):Cf->Bool|.st s|.lp _ s _=>FW p v w s|.wl c b=>lo p v c&&FW p v w b
def QJ{p:Nat->Bool}{G G':Gm}(h:∀f,p f=true->G.d3 f=G'.d3 f/\G.j4 f=G'.j4 f)(h1:G'.Vm=G.Vm)(h2:G'.del=G.del)(h3:G'.M4=G.M4)(h4:G'.cv=G.cv)(h5:G'.Hn=G.Hn){c ρ o}(x:Ex G c ρ o):loC p G.cv G.Hn c=true->Ex G' c ρ o:=by have z:∀{e ρ d},lo p G.cv e=true->ev G e ρ=some d->ev G' e ρ=some d:=λq k=>(V3 (λf q=>(h f q).1) h1 h2 h3 h4 _ _ q).trans k;have w:∀{f c m l d},p f=true->G.j4 f c m l=some d->G'.j4 f c m l=some d:=λq k=>(h _ q).2▸k;induction x with(intro q)|nil=>exact .nil|brk=>exact .brk|cnt=>exact .cnt|lz=>exact .lz|EL a b c=>exact .EL a b c|JE a b _ i=>exact .JE (z (dL q) a) b (i (f8 q))|own a b _ i=>exact .own (z (dL q) a) b (i (f8 q))|xF a b c d _ i=>exact .xF (z (f8 (dL q)) a) (z (dL (dL q)) b) c d (i (f8 q))|app a b c _ i=>exact .app (z (dL q) a) b c (i (f8 q))|ext a b c d _ i=>exact .ext (z (dL q) a) b c d (i (f8 q))|ret a=>exact .ret (z q a)|Jn a _ _ i j=>exact .Jn (z (dL (dL (dL q))) a) (i (f8 (dL (dL q)))) (j (f8 q))|iff a _ _ i j=>exact .iff (z (dL (dL (dL q))) a) (i (f8 (dL q))) (j (f8 q))|fH a _ b i=>exact .fH (z (dL (dL (dL q))) a) (i (f8 (dL (dL q)))) b|VW a _ b i=>exact .VW (z (dL (dL (dL q))) a) (i (f8 (dL q))) b|EM a b c _ i=>exact .EM (z (dL q) a) b c (i (f8 q))|kF _ _ i j=>exact .kF (i (dL q)) (j (f8 q))|Wy _ b i=>exact .Wy (i (dL q)) b|wz a=>exact .wz (z (dL q) a)|wn a _ _ i j=>exact .wn (z (dL q) a) (i (f8 q)) (j q)|wc a _ _ i j=>exact .wc (z (dL q) a) (i (f8 q)) (j q)|wb a _ i=>exact .wb (z (dL q) a) (i (f8 q))|wr a _ i=>exact .wr (z (dL q) a) (i (f8 q))|fr a _ _ i j=>exact .fr (z (dL (dL q)) a) (i (f8 (dL q))) (j (f8 q))|QR a _ b i=>exact .QR (z (dL (dL q)) a) (i (f8 (dL q))) b|ln a _ _ i j=>exact .ln a (i q) (j q)|lc a _ _ i j=>exact .lc a (i q) (j q)|lb a _ i=>exact .lb a (i q)|lr a _ i=>exact .lr a (i q)|Ef a _ i=>exact .Ef a (i q)|D2 a b c d e _ i=>exact .D2 a (z (f8 (dL q)) b) (w (dL (dL q)) c) d e (i (f8 q))|CS a b c _ i=>exact .CS a (z (f8 (dL q)) b) (w (dL (dL q)) c) (i (f8 q))|rJ a b c=>exact .rJ a (z (f8 q) b) (w (dL q) c)|uQ v f a b c=>exact .uQ v (h5▸f) a (z (f8 q) b) (w (aN.1 (dL q) _ f) c)|sr a b _ i=>exact .sr a (z (dL q) b) (i (f8 q))
abbrev Ce(l:List Str):List Str:=l
def top(i:Nat):Stmt:=RG.main.body.getD i (.Pass ⟨0,0,0,0⟩)
def tpL:List Nat:=[4,5,6,7,8,9,10,11,12,13,14,15,16,17,18,19,20,21,27,28,29,30,32,33,34,35,36,37,38,46,48,49,50,51,52,53,55,58,59,60,62,63,64,65,72,73,74,75,76,77,78,89,90,91,92,93,94,95,96,97,98,99,100,101,103,104,106,107,108,109,110,111,112,113,114,115,116,117,118,119,129,130,131,132,133,134,135,136,137,138,144,145,146,147,148,149,150,152,153,0,0,0,0,0,0,158,159]
def stI(f:Nat):Stmt:=if 99<=f/\f<=104 then inClass (top 156) (f -99) else top (tpL.getD f 0)
def ZX(f:Nat):Str:=if h:_ then Stmt.FunctionDef.elim (stI f) h λx _ _ _ _ _ _ _ _ _=>x else ""
def lvL:List Nat:=[1,1,1,1,1,1,2,3,3,1,2,3,2,4,1,1,5,6,4,2,4,5,2,3,4,1,4,5,6,1,2,2,5,6,5,7,9,1,1,2,5,6,1,7,1,2,1,4,2,1,3,4,4,2,5,5,6,2,6,2,7,4,8,5,1,9,2,5,6,7,3,1,4,5,1,1,1,1,1,5,1,1,1,2,2,3,5,6,4,5,7,6,3,8,4,6,6,1,9,1,1,1,1,1,1,10,11]
def arL:List Nat:=[2,1,1,0,4,2,1,1,1,2,1,2,2,1,1,1,2,2,2,2,2,1,3,1,1,2,2,3,2,3,3,3,3,3,3,3,4,3,1,1,2,2,2,2,3,2,2,4,2,2,2,2,2,2,2,2,2,2,2,3,2,2,2,2,1,3,2,3,2,2,2,3,1,1,1,1,1,1,1,1,1,2,1,2,4,1,3,1,1,1,3,3,3,3,3,3,3,1,4,1,1,2,1,1,2,4,1]
def kdL:List Nat:=[0,0,0,0,0,0,0,0,0,0,0,0,0,0,0,0,0,0,0,0,0,0,0,0,0,0,0,0,0,0,1,1,1,1,1,1,1,0,0,0,0,0,0,0,0,0,0,0,0,0,0,0,0,0,0,0,0,0,0,0,0,0,0,0,0,0,0,0,0,0,0,0,0,0,0,0,0,0,0,0,0,0,0,0,0,0,0,0,0,0,1,1,1,1,1,1,1,0,1,4,3,2,2,3,2,1,0]
def gnL:List Str:=(["PRIMES","LARGEST_EXPONENT","MEASURES","LOWER","SAME","HIGHER","MOST_STEPS","WRONG","HIGH_PRIME","UNSOUND","NO_SCALE","TOO_MANY","FAULT","NONE_LEFT","ENDED","END","ONLY_LOWER","ONLY_HIGHER","LARGEST_NUMBER","MOST_TIMES","LARGEST_MAPPED","MOST_ARRANGED","MOST_IN_CHORD","MOST_LED","LARGEST_PRODUCT","ALL_PRIMES","MOST_ANSWERS","LINE_FEED","SPACE","SLASH","ZERO","NINE","MOST_DIGITS","MOST_NOTES","LEAST_PERIOD","READ","LONGEST_TEXT","LARGEST_BYTE","LARGEST_DEGREE","MOST_COMMAS"]:List String).map aR
def dnL:List Str:=(["COMMA_CALLS","FORMS","ROW_CALLS","SCALE_CALLS"]:List String).map aR
def Y7:Nat->Option (Pos×Str)|17=>some (⟨76,40,76,69⟩,"arranged.<locals>.<lambda>")|43=>some (⟨236,29,236,55⟩,"least_leading.<locals>.<lambda>")|_=>none
def T0:Ts:=⟨λf=>if f=99 then "Book" else ZX f,λf=>lvL.getD f 0,λf=>arL.getD f 0,λf=>kdL.getD f 9,[51,52,53,54,55,56,57,58,60,61,62,63],[30,31,32,33,34,35,91,92,93,94,95,96],99,none,λj=>gnL.getD j "",λj=>dnL.getD j "FORMS"⟩
def Fk(k:Nat):List Nat:=(aj 107).filter λf=>decide (T0.lv f<=k)
instance (n:Nat):OfNat E n:=⟨.var n⟩
abbrev cI(z:Int):E:=.con (.int z)
abbrev A1(a:E):E:=.cons a .nil
abbrev A2(a b:E):E:=.cons a (.cons b .nil)
abbrev A3(a b c:E):E:=.cons a (.cons b (.cons c .nil))
abbrev A4(a b c d:E):E:=.cons a (.cons b (.cons c (.cons d .nil)))
abbrev wD:S:=.ret (.lst (A1 (.jg 7)))
abbrev uT:E:=.bi .len (A1 0)
abbrev Cr:E:=.uf 1
abbrev XM:E:=.tv (.bi .all (A1 (.lc (.cmp .eq (.cM 5 (A2 3 4)) (cI 0)) (.nm 4) Cr [4])))
abbrev xV:S:=.ret 2
abbrev Y2:S:=.JE 3 (.cM 21 (A1 2)) (.ifs XM xV .nil .nil)
abbrev El:E:=.ix 0 2
abbrev Jm:E:=.bin .add 2 (cI 1)
abbrev Qb:E:=.ix 3 (cI 0)
abbrev W9:E:=.nt (.tv (.cM 84 (A4 0 2 4 5)))
abbrev HD:E:=.bin .add 4 (cI 1)
abbrev Yb:E:=.ite (.cmp .gt 5 4) (.cM 82 (A1 (.sl 0 (.pt HD) (.pt 5)))) (cI 1)
abbrev qq3:S:=.ifs (.tv (.cM 80 (A1 El))) (.JE 2 Jm .cnt) .nil (.JE 3 (.cM 83 (A2 0 2)) (.JE 4 Qb (.JE 5 (.ix 3 (cI 1)) (.ifs W9 (.ret (.tup (A2 1 5))) .nil (.JE 6 Yb (.app 1 (.tup (A3 2 (.cM 82 (A1 (.sl 0 (.pt 2) (.pt 4)))) 6)) (.JE 2 5 .nil)))))))
abbrev Ot:E:=.cmp .gt 4 (cI 0)
abbrev WO:S:=.JE 4 (.bin .fdiv 4 (cI 2)) (.ifs Ot (.JE 3 (.bin .mul 3 3) .nil) .nil .nil)
abbrev Z1:S:=.ifs (.cmp .eq (.bin .mod 4 (cI 2)) (cI 1)) (.JE 2 (.bin .mul 2 3) .nil) .nil WO
abbrev Xj:E:=.bin .fdiv (.bi .abs (A1 (.ix 5 4))) (.cM 25 (A2 (.ix 3 4) (.ix 5 4)))
abbrev qq6:S:=.ifs (.cmp .ne (.ix 3 4) (cI 0)) (.ifs (.cmp .eq (.ix 5 4) (cI 0)) (.ret (cI 0)) .nil (.JE 6 Xj (.JE 2 (.bin .mul 2 6) (.JE 3 (.cM 4 (A4 6 3 (.neg (.bin .fdiv (.bin .mul 6 (.ix 3 4)) (.ix 5 4))) 5)) .nil)))) .nil .nil
abbrev Lh:E:=.nt (.tv (.cM 1 (A1 3)))
abbrev BI:E:=.jg 0
abbrev Jk:E:=.bi .len (A1 BI)
abbrev zf:E:=.ix 1 (cI 0)
abbrev V0:E:=.cM 37 (A3 0 4 (.ix 3 (cI 1)))
abbrev Ys:S:=.JE 3 (.xH 1 El) (.JE 4 (.bin .add Jm Qb) (.JE 5 V0 (.app 1 (.tup (A3 El (.sl 0 (.pt Jm) (.pt 4)) 5)) (.JE 2 (.bin .add 4 (.cM 38 (A1 5))) .nil))))
abbrev VV:S:=.JE 6 (.cM 22 (A3 (.Vc 1 4) 3 4)) (.xF 1 4 (.ix 6 (cI 0)) (.JE 3 (.ix 6 (cI 1)) .nil))
abbrev Bb:E:=.bi .len (A1 3)
abbrev Wr:S:=.ifs (.cmp .eq Bb (cI 0)) .brk .nil (.app 2 Qb (.ifs (.cmp .eq 4 (.jg 15)) (.ret (.cM 49 (A2 (.jg 14) 2))) .nil (.JE 3 (.cM 48 (A2 3 4)) .nil)))
abbrev Ab:E:=.sl 0 (.pt (cI 1)) .np
abbrev WY:E:=.or (.Ym 7) (.one (.cmp .eq (.xG 2) (.jg 33)))
abbrev qN:E:=.lst .nil
abbrev V8:S:=.JE 7 (.cM 86 (A3 3 5 6)) (.ifs WY (.ret (.tup (A2 qN 4))) .nil (.app 2 7 (.JE 3 7 .nil)))
abbrev L1:E:=.bin .mul 4 6
abbrev vW:E:=.neg (cI 1)
abbrev za:E:=.lst (A1 (cI 0))
abbrev HN:E:=.nt (.tv (.cM 1 (A1 2)))
abbrev rM:E:=.uf 0
abbrev Pd:E:=.lc (.cM 88 (A1 2)) (.nm 2) rM [2]
abbrev D9:E:=.cmp .lt 2 uT
abbrev Ya:E:=.an D9 (.an (.cmp .lt 2 (.bin .add 1 (.jg 32))) (.one (.Hh .le .le (.jg 30) El (.jg 31))))
abbrev XY:S:=.JE 5 (.bin .fdiv (.ix 3 2) (.ix 4 2)) (.JE 6 (.cM 4 (A4 (cI 1) 3 (.neg 5) 4)) (.JE 3 4 (.JE 4 6 .nil)))
abbrev Wv:E:=.lc (.cM 40 (A2 (.ix 0 (.bin .fdiv 4 2)) (.ix 1 (.bin .mod 4 2)))) (.nm 4) (.wq (.bin .mul uT 2)) [4]
abbrev Te:E:=.or Lh (.one (.cmp .ne (.cM 18 (A2 3 0)) (.jg 5)))
abbrev Yj:E:=.cmp .eq (.bin .mod (.bin .shr 1 3) (cI 2)) (cI 1)
abbrev Xg:S:=.ifs Yj (.JE 2 (.cM 44 (A3 2 4 0)) .nil) .nil .nil
abbrev Cw:E:=.fld 0 true
abbrev xT:E:=.ix 0 (cI 0)
abbrev K2:E:=.nt (.tv (.cM 1 (A1 4)))
abbrev Rn:E:=.tup (A2 L1 (.bin .mul 5 6))
abbrev Xd:S:=.app 3 Rn (.app 3 (.tup (A2 L1 5)) (.JE 6 (.bin .mul 6 1) .nil))
abbrev XX:S:=.JE 5 (.bin .add HD (.ix 0 4)) (.app 3 (.sl 0 (.pt HD) (.pt 5)) (.JE 4 5 .nil))
abbrev V2:E:=.tup (A2 (.bin .cat 3 (.lst (A1 5))) L1)
abbrev V9:S:=.ifs (.IU 5 3) (.app 2 V2 .nil) .nil .nil
abbrev Wx:E:=.or (.cmp .gt Bb (.jg 36)) (.one (.nt (.tv (.cM 29 (A3 3 (cI 0) (.jg 37))))))
abbrev Wb:E:=.lc (.bi .DI (A1 (.lc (.ix 3 2) (.nm 3) rM [3]))) (.nm 2) (.wq Jk) [2]
abbrev qK:E:=A2 2 3
abbrev X7:S:=.ifs (.cmp .gt 3 (cI 0)) (.JE 1 (.bin .mul 1 (.cM 0 qK)) .nil) .nil .nil
abbrev Xp:S:=.ifs (.tv (.cM 78 (A1 zf))) (.JE 2 (.bin .add 2 (cI 16)) .nil) .nil xV
abbrev DQ:E:=.fld 0 false
abbrev BA:E:=.ix 1 (cI 1)
abbrev VU:E:=.La (.LV 1 (.tp [1,2]) (.zip BI 0) (.cmp .ne 2 (cI 0)) [1,2]) 1
abbrev XJ:E:=.lc (.cM 4 (A4 vW 6 (cI 0) 6)) (.nm 6) (.uf (.sl 1 .np (.pt uT))) [6]
abbrev Tq:E:=.bi .len (A1 Cw)
abbrev XS:E:=.nt (.tv (.cM 29 (A3 1 (cI 0) (.bin .sub Tq (cI 1)))))
abbrev XW:S:=.JE 1 (.bin .sub (.bin .add (.bin .mul (cI 10) 1) 2) (.jg 30)) .nil
abbrev VX:E:=.nt (.tv (.bi .all (A1 (.lc (.cM 1 (A1 4)) (.nm 4) (.uf 3) [4]))))
abbrev We:E:=.ite (.cmp .ge 0 (cI 1)) (.lst (A1 (.tup (A2 (cI 1) (cI 1))))) qN
abbrev Kg:E:=.cM 3 .nil
abbrev WZ:E:=.ite (.cmp .eq 2 (cI 0)) Kg (.ix 0 (.bin .sub 2 (cI 1)))
abbrev V6:S:=.D2 6 105 1 (A3 3 4 5) (.app 2 (.bi .len (A1 6)) (.ext 2 6 .nil))
abbrev TJ:E:=.bin .fdiv (.bin .add 3 2) (cI 2)
abbrev Xh:E:=.lc (.cM 66 (A2 0 4)) (.nm 4) (.wq (.bin .mul (cI 2) uT)) [4]
abbrev Wa:E:=.an (.Hh .lt .lt 1 2 uT) (.one (.cmp .eq El (.jg 29)))
abbrev HV:E:=.uf BI
abbrev WX:E:=.nt (.tv (.cM 29 (A3 0 (cI 0) (.bin .sub (.jg 2) (cI 1)))))
abbrev Uz:E:=.cmp .gt (.bin .sub 2 3) (cI 1)
abbrev XI:S:=.JE 1 (.bin .fdiv 1 (.cM 0 (A2 2 (.cM 9 (A2 2 1))))) .nil
abbrev W2:E:=.zV (.bi .max2 (A2 0 (cI 1))) (.bin .add (.jg 6) (cI 1))
abbrev Yp:E:=.an (.cmp .lt 1 uT) (.one (.cmp .eq (.ix 0 1) (.jg 30)))
abbrev JU:S:=.JE 2 Jm .nil
abbrev Kf:E:=.bi .len (A1 2)
abbrev WK:S:=.ret (.bi .max2 (A2 (.cM 6 (A1 1)) (.cM 7 (A1 1))))
abbrev S8:E:=.cM 4 (A4 (cI 1) 0 vW 1)
abbrev W8:S:=.JE 4 (.bin .mod 2 3) (.JE 2 3 (.JE 3 4 .nil))
abbrev Us:S:=.ret (.lst (A1 (.jg 9)))
abbrev Mn:E:=.ix 2 (cI 0)
abbrev Lz:E:=.ix 0 (cI 1)
abbrev VY:S:=.JE 3 2 (.fr (.nm 4) (.wq Jk) VV .nil)
abbrev Xa:E:=.cmp .eq (.cM 18 (A2 3 (.jg 34))) (.jg 3)
abbrev Qe:E:=.cmp .le L1 2
abbrev WQ:E:=.nt (.tv (.cM 29 (A3 0 (cI 1) (.jg 6))))
abbrev Xy:E:=.or (.cmp .eq 3 1) (.one (.cmp .eq 3 Jm))
abbrev V5:E:=.zV (cI 1) (.bin .add uT (cI 1))
abbrev X1:E:=.bin .cat DQ (.lst (A1 (.Tz 1)))
abbrev Wo:E:=A2 (.cM 6 (A1 2)) (.cM 7 (A1 2))
abbrev Wm:S:=.JE 2 (.bin .mul (cI 2) 2) .nil
abbrev VR:S:=.JE 3 (.bin .mul (cI 2) 3) .nil
abbrev XH:E:=.cmp .eq (.bin .mod 3 0) (cI 0)
abbrev Ez:E:=A2 0 1
abbrev Wq:E:=.lc (.idx 2 3) (.nm 3) Cr [3]
abbrev TH:E:=.bi .He (A1 1)
abbrev TM:E:=.bi .DI (A1 2)
abbrev JF:E:=.bi .abs (A1 2)
abbrev Mt:E:=.bi .len (A1 1)
abbrev JC:E:=.cM 2 (A1 zf)
def N0:=Ce ["base","exponent","product","square","left"]
def s0:S:=(.JE 2 (cI 1) (.JE 3 0 (.JE 4 1 (.kF Ot Z1 xV))))
def N1:=Ce ["row","exponent"]
def s1:S:=(.ifs (.cmp .ne uT Jk) (.ret (.con (.bl false))) .nil (.ret (.bi .all (A1 (.lc (.Hh .le .le (.neg (.jg 1)) 1 (.jg 1)) (.nm 1) rM [1])))))
def N2:=Ce ["numbers","place"]
def s2:S:=(.ret (.lc (.sl 0 (.pt 1) (.pt (.bin .add 1 Jk))) (.nm 1) (.AL (cI 0) uT Jk) [1]))
def N3:=Ce ["prime"]
def s3:S:=(.ret (.lc (cI 0) (.nm 0) HV [0]))
def N4:=Ce ["m","a","n","b","x","y"]
def s4:S:=(.ret (.lc (.bin .add (.bin .mul 0 4) (.bin .mul 2 5)) (.tp [4,5]) (.zip 1 3) [4,5]))
def N5:=Ce ["v","x","p","q"]
def s5:S:=(.ret (.bi .sum (A1 (.lc (.bin .mul 2 3) (.tp [2,3]) (.zip 0 1) [2,3]))))
def N6:=Ce ["row","product","prime","exponent"]
def s6:S:=(.JE 1 (cI 1) (.fr (.tp [2,3]) (.zip BI 0) X7 (.ret 1)))
def N7:=Ce ["row","exponent"]
def s7:S:=(.ret (.cM 6 (A1 (.lc (.neg 1) (.nm 1) rM [1]))))
def N8:=Ce ["rows","lowest","place","row"]
def s8:S:=(.JE 1 Wb (.ret (.lc (.cM 6 (A1 (.cM 4 (A4 (cI 1) 3 vW 1)))) (.nm 3) rM [3])))
def N9:=Ce ["prime","number","times","left"]
def s9:S:=(.JE 2 (cI 0) (.JE 3 1 (.kF XH (.JE 3 (.bin .fdiv 3 0) JU) xV)))
def N10:=Ce ["number","left","prime"]
def s10:S:=(.JE 1 0 (.fr (.nm 2) HV XI (.ret 1)))
def N11:=Ce ["n","d"]
def s11:S:=(.ret (.cmp .ne (.cM 10 (A1 0)) (.cM 10 (A1 1))))
def N12:=Ce ["n","d","prime"]
def s12:S:=(.ret (.lc (.bin .sub (.cM 9 (A2 2 0)) (.cM 9 (A2 2 1))) (.nm 2) HV [2]))
def N13:=Ce ["row","odd"]
def s13:S:=(.JE 1 (.bin .cat za Ab) WK)
def N14:=Ce ["row","prime","exponent"]
def s14:S:=(.ret VU)
def N15:=Ce ["row","prime","exponent"]
def s15:S:=(.ret (.bin .add (cI 1) (.bi .sum (A1 (.lc (.bin .mul JF (.bin .sub 1 (cI 1))) (.tp [1,2]) (.zip BI 0) [1,2])))))
def N16:=Ce ["k","row","exponent"]
def s16:S:=(.ifs (.cmp .eq 0 (cI 0)) (.ret (.bin .mul (.cM 6 (A1 1)) (.cM 7 (A1 1)))) .nil (.ifs (.cmp .eq 0 (cI 1)) WK .nil (.ifs (.cmp .eq 0 (cI 2)) (.ret (.cM 13 (A1 1))) .nil (.ifs (.cmp .eq 0 (cI 3)) (.ret (.cM 14 (A1 1))) .nil (.ifs (.cmp .eq 0 (cI 4)) (.ret (.cM 15 (A1 1))) .nil (.ret (.bi .sum (A1 (.lc JF (.nm 2) Cr [2])))))))))
def N17:=Ce ["k","rows","measures","row"]
def s17:S:=(.JE 2 (.lc (.cM 16 (A2 0 3)) (.nm 3) Cr [3]) (.EL 1 2))
def N18:=Ce ["a","b","difference","upper","lower"]
def s18:S:=(.JE 2 S8 (.JE 3 (.cM 6 (A1 2)) (.JE 4 (.cM 7 (A1 2)) (.ifs (.cmp .lt 3 4) (.ret (.jg 3)) .nil (.ifs (.cmp .eq 3 4) (.ret (.jg 4)) .nil (.ret (.jg 5)))))))
def N19:=Ce ["upper","lower","octaves","reached"]
def s19:S:=(.JE 2 (.bin .sub (.bl 0) (.bl 1)) (.ifs (.cmp .ge 2 (cI 0)) (.JE 3 (.cmp .le (.bin .mul 1 (.cM 0 (A2 (cI 2) 2))) 0) .nil) (.JE 3 (.cmp .le 1 (.bin .mul 0 (.cM 0 (A2 (cI 2) (.neg 2))))) .nil) (.ret (.ite (.tv 3) 2 (.bin .sub 2 (cI 1))))))
def N20:=Ce ["n","row","halves"]
def s20:S:=(.JE 2 (.cM 19 (A2 (.cM 0 (A2 (.cM 6 (A1 1)) (.bin .mul (cI 2) 0))) (.cM 0 (A2 (.cM 7 (A1 1)) (.bin .mul (cI 2) 0))))) (.ret (.bin .fdiv Jm (cI 2))))
def N21:=Ce ["n","prime"]
def s21:S:=(.ret (.lc (.cM 20 (A2 0 (.cM 12 (A2 1 (cI 1))))) (.nm 1) HV [1]))
def N22:=Ce ["first","second","column","kept","left","times","rest"]
def s22:S:=(.JE 3 0 (.JE 4 1 (.kF (.cmp .ne (.ix 4 2) (cI 0)) XY (.ret (.tup (A2 3 4))))))
def N23:=Ce ["commas","rows","comma","left","column","prime","pair"]
def s23:S:=(.own 1 (.lc Kg (.nm 5) HV [5]) (.fr (.nm 2) rM VY (.ret 1)))
def N24:=Ce ["commas","rows","column"]
def s24:S:=(.JE 1 (.cM 23 (A1 0)) (.ret (.bi .len (A1 (.LV 2 (.nm 2) (.wq Jk) (.cmp .ne (.ix (.ix 1 2) 2) (cI 0)) [2])))))
def N25:=Ce ["first","second","kept","left","rest"]
def s25:S:=(.JE 2 (.bi .abs (A1 0)) (.JE 3 (.bi .abs (A1 1)) (.kF (.cmp .ne 3 (cI 0)) W8 xV)))
def N26:=Ce ["row","commas","times","left","column","stair","more"]
def s26:S:=(.JE 2 (cI 1) (.JE 3 0 (.fr (.tp [4,5]) (.DW (.cM 23 (A1 1))) qq6 xV)))
def N27:=Ce ["a","b","commas"]
def s27:S:=(.ret (.cmp .eq (.cM 26 (A2 S8 2)) (cI 1)))
def N28:=Ce ["n","commas","k","division","comma"]
def s28:S:=(.fr (.nm 2) W2 Y2 (.ret (cI 0)))
def N29:=Ce ["numbers","least","most","number"]
def s29:S:=(.ret (.bi .all (A1 (.lc (.Hh .le .le 1 3 2) (.nm 3) rM [3]))))
def N30:=Ce ["book","numbers","lists","c"]
def s30:S:=(.JE 3 Mn (.ifs Lh wD .nil (.ifs (.tv (.Ci 100 0 .nil)) (.ret (.lst (A1 (.jg 11)))) .nil (.CS 101 0 (A1 3) (.ret (.lst (A1 (.bi .len (A1 DQ)))))))))
def N31:=Ce ["book","numbers","lists"]
def s31:S:=(.CS 102 0 .nil (.ret za))
def N32:=Ce ["book","numbers","lists"]
def s32:S:=(.ret (.lst (A1 (.cM 24 (A1 DQ)))))
def N33:=Ce ["book","numbers","lists","a","b"]
def s33:S:=(.JE 3 Mn (.JE 4 (.ix 2 (cI 1)) (.ifs (.or Lh (.one K2)) wD .nil (.ret (.lst (A1 (.ite (.tv (.cM 27 (A3 3 4 DQ))) (cI 1) (cI 0))))))))
def N34:=Ce ["book","numbers","lists","x"]
def s34:S:=(.JE 3 Mn (.ifs Lh wD .nil (.ret (.lst (A1 (.cM 26 (A2 3 DQ)))))))
def N35:=Ce ["book","numbers","lists"]
def s35:S:=(.ifs (.cmp .lt zf (cI 0)) wD .nil (.ret (.lst (A1 (.cM 28 (A2 zf DQ))))))
def N36:=Ce ["book","number","numbers","lists","call"]
def s36:S:=(.JE 4 (.xH 0 1) (.uQ 4 0 qK))
def N37:=Ce ["calls","place","count","lists","start","end"]
def s37:S:=(.own 3 qN (.JE 4 1 (.kF (.cmp .lt (.xG 3) 2) XX (.ret 3))))
def N38:=Ce ["lists","numbers"]
def s38:S:=(.ret (.bi .sum (A1 (.lc (.bin .add (cI 1) Mt) (.nm 1) rM [1]))))
def N39:=Ce ["calls","cut","place","form","behind","lists"]
def s39:S:=(.own 1 qN (.JE 2 (cI 0) (.kF D9 Ys (.ret 1))))
def N40:=Ce ["a","b"]
def s40:S:=(.ifs (.cmp .eq (.cM 18 Ez) (.jg 3)) (.ret (.cM 4 (A4 (cI 1) 1 vW 0))) .nil (.ret S8))
def N41:=Ce ["a","b","count","numbers","place"]
def s41:S:=(.JE 2 Mt (.JE 3 (.cM 8 (A1 Wv)) (.ret (.lc (.sl 3 (.pt 4) (.pt (.bin .add 4 2))) (.nm 4) (.AL (cI 0) Bb 2) [4]))))
def N42:=Ce ["leadings","row","longer","places","movement","place","width"]
def s42:S:=(.own 2 qN (.fr (.tp [3,4]) rM (.fr (.tp [5,6]) (.DW 1) V9 .nil) xV))
def N43:=Ce ["a","b","leadings","row","best"]
def s43:S:=(.JE 2 (.lst (A1 (.tup (A2 qN (cI 1))))) (.fr (.nm 3) (.uf (.cM 41 Ez)) (.JE 2 (.cM 42 qK) .nil) (.EM 4 2 (.ret (.ix 4 (cI 0))))))
def N44:=Ce ["pairs","prime","most","longer","product","upper","factor"]
def s44:S:=(.own 3 (.Tz 0) (.fr (.tp [4,5]) rM (.JE 6 1 (.kF Qe Xd .nil)) (.ret 3)))
def N45:=Ce ["most","primes","pairs","place","prime","product","upper"]
def s45:S:=(.JE 2 We (.fr (.tp [3,4]) (.DW BI) Xg (.ret (.lc (.tup (A2 6 (.bin .fdiv 5 6))) (.tp [5,6]) (.uf (.vG 2)) [5,6]))))
def N46:=Ce ["a","b"]
def s46:S:=(.ret (.cmp .lt (.bin .mul xT BA) (.bin .mul zf Lz)))
def N47:=Ce ["most","primes","low","high","least","largest","fraction"]
def Vk:S:=(.JE 4 (.tup Wo) (.JE 5 (.tup (A2 (.cM 6 (A1 3)) (.cM 7 (A1 3)))) (.ret (.LV 6 (.nm 6) (.uf (.cM 45 Ez)) (.an (.nt (.tv (.cM 46 (A2 6 4)))) (.one (.nt (.tv (.cM 46 (A2 5 6)))))) [6]))))
def N48:=Ce ["fractions","answer","first","fraction"]
def s48:S:=(.JE 2 xT (.ifs (.cmp .eq 1 (.jg 16)) (.ret (.LV 3 (.nm 3) (.uf Ab) (.tv (.cM 46 (A2 3 2))) [3])) .nil (.ifs (.cmp .eq 1 (.jg 17)) (.ret (.LV 3 (.nm 3) (.uf Ab) (.tv (.cM 46 qK)) [3])) .nil (.ret Ab))))
def N49:=Ce ["end","told","numbers","fraction"]
def s49:S:=(.own 2 (.lst (A2 0 Mt)) (.fr (.nm 3) Cr (.ext 2 3 .nil) xV))
def N50:=Ce ["fractions","given","told","left","answer"]
def s50:S:=(.own 2 qN (.JE 3 0 (.fr (.nm 4) Cr Wr (.ret (.cM 49 (A2 (.jg 13) (.bin .cat 2 3)))))))
def N51:=Ce ["numbers","lists","n","d","row"]
def s51:S:=(.JE 2 xT (.JE 3 Lz (.ifs (.nt (.tv (.cM 29 (A3 0 (cI 1) (.jg 18))))) wD .nil (.ifs (.tv (.cM 11 qK)) (.ret (.lst (A1 (.jg 8)))) .nil (.JE 4 (.cM 12 qK) (.ifs K2 wD .nil (.ret (.bin .cat za 4))))))))
def N52:=Ce ["numbers","lists","x"]
def s52:S:=(.JE 2 zf (.ifs HN wD .nil (.ret (.lst Wo))))
def N53:=Ce ["numbers","lists","a","b","row"]
def s53:S:=(.JE 2 zf (.JE 3 BA (.ifs (.or (.nt (.tv (.cM 29 (A3 0 (.neg (.jg 19)) (.jg 19))))) (.or HN (.one Lh))) wD .nil (.JE 4 (.cM 4 (A4 xT 2 Lz 3)) (.ifs K2 Us .nil (.ret (.bin .cat za 4)))))))
def N54:=Ce ["numbers","lists","a","b"]
def s54:S:=(.JE 2 zf (.JE 3 BA (.ifs (.or HN (.one Lh)) wD .nil (.ret (.lst (A1 (.cM 18 qK)))))))
def N55:=Ce ["numbers","lists","x"]
def s55:S:=(.JE 2 zf (.ifs (.or WQ (.one HN)) wD .nil (.ret (.lst (A2 (cI 0) (.cM 20 (A2 xT 2)))))))
def N56:=Ce ["numbers","lists"]
def s56:S:=(.ifs WQ wD .nil (.ret (.bin .cat za (.cM 21 (A1 xT)))))
def N57:=Ce ["numbers","lists","v","x"]
def s57:S:=(.JE 2 zf (.JE 3 BA (.ifs (.or (.cmp .ne Kf Jk) (.one (.cmp .ne Bb Jk))) wD .nil (.ifs (.nt (.tv (.cM 29 (A3 (.bin .cat 2 3) (.neg (.jg 20)) (.jg 20))))) wD .nil (.ret (.lst (A2 (cI 0) (.cM 5 qK))))))))
def N58:=Ce ["numbers","lists","x"]
def s58:S:=(.JE 2 zf (.ifs (.or WX (.one HN)) wD .nil (.ret (.lst (A1 (.cM 16 (A2 xT 2)))))))
def N59:=Ce ["rows","least","most","row"]
def s59:S:=(.ret (.an (.Hh .le .le 1 uT 2) (.one (.bi .all (A1 (.lc (.cM 1 (A1 3)) (.nm 3) rM [3]))))))
def N60:=Ce ["numbers","lists","rows"]
def s60:S:=(.JE 2 JC (.ifs (.or WX (.one (.nt (.tv (.cM 59 (A3 2 (cI 0) (.jg 21))))))) wD .nil (.ret (.bin .cat (.lst (A1 Kf)) (.cM 17 (A2 xT 2))))))
def N61:=Ce ["numbers","lists","rows"]
def s61:S:=(.JE 2 JC (.ifs (.nt (.tv (.cM 59 (A3 2 (cI 1) (.jg 22))))) wD .nil (.ret (.cM 8 (A1 2)))))
def N62:=Ce ["numbers","lists","a","b"]
def s62:S:=(.JE 2 JC (.JE 3 (.cM 2 (A1 BA)) (.ifs (.or (.nt (.tv (.cM 59 (A3 2 (cI 1) (.jg 23))))) (.one (.nt (.tv (.cM 59 (A3 3 Kf Kf)))))) wD .nil (.ret (.cM 43 qK)))))
def N63:=Ce ["numbers","lists","low","high","given"]
def s63:S:=(.JE 2 zf (.JE 3 BA (.JE 4 (.ix 1 (cI 2)) (.ifs (.or (.nt (.Hh .le .le (cI 0) xT (.jg 24))) (.one (.nt (.Hh .le .le (cI 0) Lz (.jg 25))))) wD .nil (.ifs (.or HN (.or Lh (.one (.cmp .gt (.bi .len (A1 4)) (.jg 26))))) wD .nil (.ret (.cM 50 (A2 (.cM 47 (A4 xT Lz 2 3)) 4))))))))
def N64:=Ce ["number"]
def s64:S:=(.ret (.Vb 2 0))
def N65:=Ce ["number","numbers","lists","call"]
def s65:S:=(.JE 3 (.xH 2 0) (.ret (.HL 3 (A2 1 2))))
def N66:=Ce ["notes","k","place","within"]
def s66:S:=(.JE 2 (.bin .mod 1 uT) (.JE 3 WZ (.ret (.cM 4 (A4 (cI 1) 3 (.bin .fdiv 1 uT) (.ix 0 vW))))))
def N67:=Ce ["notes","k","x"]
def s67:S:=(.ret (.cmp .eq (.cM 18 (A2 (.cM 66 Ez) 2)) (.jg 5)))
def N68:=Ce ["notes","x","high","low","middle"]
def s68:S:=(.JE 2 (cI 1) (.kF (.nt (.tv (.cM 67 (A3 0 2 1)))) Wm (.JE 3 vW (.kF (.tv (.cM 67 (A3 0 3 1))) VR (.kF Uz (.JE 4 TJ (.ifs (.tv (.cM 67 (A3 0 4 1))) (.JE 2 4 .nil) (.JE 3 4 .nil) .nil)) (.ret 3))))))
def N69:=Ce ["notes","x","k","doubled","both"]
def s69:S:=(.JE 2 (.cM 68 Ez) (.JE 3 (.cM 4 (A4 (cI 1) 1 (cI 1) 1)) (.JE 4 (.cM 4 (A4 (cI 1) (.cM 66 (A2 0 2)) (cI 1) (.cM 66 (A2 0 Jm)))) (.ret (.ite (.cmp .eq (.cM 18 (A2 3 4)) (.jg 5)) Jm 2)))))
def N70:=Ce ["notes","k","first","i"]
def s70:S:=(.JE 2 (.cM 66 Ez) (.ret (.lc (.cM 4 (A4 (cI 1) (.cM 66 (A2 0 (.bin .add 1 3))) vW 2)) (.nm 3) V5 [3])))
def N71:=Ce ["upward","downward","g","i","down"]
def s71:S:=(.ret (.lc (.bin .mul (.ix 0 (.bin .add 3 2)) 4) (.tp [3,4]) (.DW 1) [3,4]))
def N72:=Ce ["notes","degrees","upward","downward","k","g","row"]
def s72:S:=(.JE 1 Xh (.JE 2 (.cM 8 (A1 1)) (.JE 3 (.cM 8 (A1 XJ)) (.ret (.lc (.cM 71 (A3 2 3 5)) (.nm 5) V5 [5])))))
def N73:=Ce ["notes","steps","different","step"]
def s73:S:=(.JE 1 (.ix (.cM 72 (A1 0)) (cI 0)) (.JE 2 (.qf 1) (.ret (.bin .cat (.lst (A1 Kf)) Wq))))
def N74:=Ce ["by_width","same"]
def s74:S:=(.ret (.bi .all (A1 (.lc (.cmp .le (.oT 1) (cI 2)) (.nm 1) (.uf (.sl 0 .np (.pt vW))) [1]))))
def N75:=Ce ["by_width","narrow","wide"]
def s75:S:=(.ret (.bi .all (A1 (.lc (.cmp .le TH TM) (.tp [1,2]) (.zip 0 Ab) [1,2]))))
def N76:=Ce ["by_width","narrow","wide"]
def s76:S:=(.ret (.bi .all (A1 (.lc (.cmp .lt TH TM) (.tp [1,2]) (.zip 0 Ab) [1,2]))))
def N77:=Ce ["by_width","every","same"]
def s77:S:=(.own 1 qN (.fr (.nm 2) rM (.ext 1 2 .nil) (.ret (.cmp .eq (.bi .sum (A1 (.lc (.oT 2) (.nm 2) rM [2]))) (.oT 1)))))
def N78:=Ce ["steps","r"]
def s78:S:=(.ret (.bi .any (A1 (.lc (.Vx (.bin .cat (.sl 0 (.pt 1) .np) (.sl 0 .np (.pt 1))) 0) (.nm 1) (.zV (cI 1) uT) [1]))))
def N79:=Ce ["notes","by_width","total"]
def s79:S:=(.JE 1 (.cM 72 (A1 0)) (.JE 2 (cI 0) (.ifs (.tv (.cM 74 (A1 1))) JU .nil (.ifs (.tv (.cM 75 (A1 1))) (.JE 2 (.bin .add 2 (cI 2)) .nil) .nil (.ifs (.tv (.cM 76 (A1 1))) (.JE 2 (.bin .add 2 (cI 4)) .nil) .nil (.ifs (.tv (.cM 77 (A1 1))) (.JE 2 (.bin .add 2 (cI 8)) .nil) .nil Xp))))))
def N80:=Ce ["byte"]
def s80:S:=(.ret (.or (.cmp .eq 0 (.jg 28)) (.one (.cmp .eq 0 (.jg 27)))))
def N81:=Ce ["text","start","end"]
def s81:S:=(.ifs Yp (.ret 1) .nil (.JE 2 1 (.kF Ya JU xV)))
def N82:=Ce ["digits","number","digit"]
def s82:S:=(.JE 1 (cI 0) (.fr (.nm 2) rM XW (.ret 1)))
def N83:=Ce ["text","start","upper_end"]
def s83:S:=(.JE 2 (.cM 81 Ez) (.ifs Wa (.ret (.tup (A2 2 (.cM 81 (A2 0 Jm))))) .nil (.ret (.tup (A2 2 2)))))
def N84:=Ce ["text","start","upper_end","end"]
def s84:S:=(.ifs Xy (.ret (.con (.bl false))) .nil (.ret (.or (.cmp .eq 3 uT) (.one (.cM 80 (A1 (.ix 0 3)))))))
def N85:=Ce ["text","fractions","place","ends","upper_end","end","lower"]
def s85:S:=(.own 1 qN (.JE 2 (cI 0) (.kF D9 qq3 (.ret (.tup (A2 1 (.con .ie)))))))
def N86:=Ce ["before","upper","lower","row"]
def s86:S:=(.ifs (.tv (.cM 11 (A2 1 2))) (.ret (.con .ie)) .nil (.JE 3 (.cM 12 (A2 1 2)) (.ifs Te (.ret (.con .ie)) .nil (.ret 3))))
def N87:=Ce ["text","cut","notes","before","place","upper","lower","note","last"]
def s87:S:=(.JE 1 (.cM 85 (A1 0)) (.own 2 qN (.JE 3 Kg (.fr (.tp [4,5,6]) (.uf zf) V8 (.ifs (.Vd BA) (.ret (.tup (A2 qN BA))) .nil (.ifs (.cmp .eq (.xG 2) (cI 0)) (.ret (.tup (A2 qN uT))) .nil (.ifs Xa (.JE 8 (.ix zf vW) (.ret (.tup (A2 qN (.ix 8 (cI 0)))))) .nil (.ret (.tup (A2 2 (.con .ie)))))))))))
def N88:=Ce ["row","upper","lower"]
def s88:S:=(.JE 1 (.cM 6 (A1 0)) (.JE 2 (.cM 7 (A1 0)) (.ret (.ite (.cmp .eq 2 (cI 1)) (.Xo 1) (.Yr 1 2)))))
def N89:=Ce ["notes","sign","note"]
def s89:S:=(.ret (.lc (.bi .ord (A1 1)) (.nm 1) (.uf (.join " " Pd)) [1]))
def N90:=Ce ["book","numbers","lists","text","found"]
def s90:S:=(.JE 3 Mn (.ifs Wx wD .nil (.JE 4 (.cM 87 (A1 3)) (.ifs (.Vd (.ix 4 (cI 1))) (.ret (.lst (A2 (.jg 12) (.ix 4 (cI 1))))) .nil (.CS 104 0 (A1 (.ix 4 (cI 0))) (.ret (.lst (A1 Tq))))))))
def N91:=Ce ["book","numbers","lists","text"]
def s91:S:=(.JE 3 (.cM 89 (A1 Cw)) (.ret (.bin .cat (.lst (A1 Bb)) 3)))
def N92:=Ce ["book","numbers","lists","row"]
def s92:S:=(.ifs (.nt (.tv (.cM 29 (A3 1 (.neg (.jg 38)) (.jg 38))))) wD .nil (.JE 3 (.cM 66 (A2 Cw zf)) (.ifs Lh Us .nil (.ret (.bin .cat za 3)))))
def N93:=Ce ["book","numbers","lists","x"]
def s93:S:=(.JE 3 Mn (.ifs Lh wD .nil (.ret (.lst (A2 (cI 0) (.cM 69 (A2 Cw 3)))))))
def N94:=Ce ["book","numbers","lists","notes","note"]
def s94:S:=(.ifs XS wD .nil (.JE 3 (.cM 70 (A2 Cw zf)) (.ifs VX Us .nil (.CS 104 0 (A1 3) (.ret za)))))
def N95:=Ce ["book","numbers","lists"]
def s95:S:=(.ret (.cM 73 (A1 Cw)))
def N96:=Ce ["book","numbers","lists"]
def s96:S:=(.ret (.lst (A1 (.cM 79 (A1 Cw)))))
def N97:=Ce ["number"]
def s97:S:=(.ret (.or (.cmp .eq 0 (.jg 35)) (.one (.Vb 3 0))))
def N98:=Ce ["book","number","numbers","lists","call"]
def s98:S:=(.ifs (.cmp .eq 1 (.jg 35)) (.rJ 90 0 qK) .nil (.ifs (.nt (.tv (.Ci 103 0 .nil))) (.ret (.lst (A1 (.jg 10)))) .nil (.JE 4 (.xH 3 1) (.uQ 4 0 qK))))
def Xn:=Ce ["self"]
def T3:E:=(.cmp .ge (.bi .len (A1 DQ)) (.jg 39))
def abk:=Ce ["self","row"]
def abm:S:=(.sr 0 false X1 .nil)
def aaj:=Ce ["self"]
def Z0:S:=(.sr 0 false qN .nil)
def WL:=Ce ["self"]
def SO:E:=(.cmp .gt Tq (cI 0))
def aam:=Ce ["self","notes","note"]
def Z8:S:=(.sr 0 true (.lc (.Tz 2) (.nm 2) Cr [2]) .nil)
def abl:=Ce ["book","number","numbers","lists"]
def ZS:S:=(.ifs (.tv (.cM 64 (A1 1))) (.ret (.cM 65 (A3 1 2 3))) .nil (.ifs (.tv (.cM 97 (A1 1))) (.rJ 98 0 (A3 1 2 3)) .nil (.rJ 36 0 (A3 1 2 3))))
def aba:=Ce ["calls","book","told","number","numbers","lists","answer"]
def abr:S:=(.Ef 1 (.own 2 qN (.fr (.tp [3,4,5]) (.uf (.cM 39 (A1 0))) V6 xV)))
def NL:List (List Str):=[N0,N1,N2,N3,N4,N5,N6,N7,N8,N9,N10,N11,N12,N13,N14,N15,N16,N17,N18,N19,N20,N21,N22,N23,N24,N25,N26,N27,N28,N29,N30,N31,N32,N33,N34,N35,N36,N37,N38,N39,N40,N41,N42,N43,N44,N45,N46,N47,N48,N49,N50,N51,N52,N53,N54,N55,N56,N57,N58,N59,N60,N61,N62,N63,N64,N65,N66,N67,N68,N69,N70,N71,N72,N73,N74,N75,N76,N77,N78,N79,N80,N81,N82,N83,N84,N85,N86,N87,N88,N89,N90,N91,N92,N93,N94,N95,N96,N97,N98,["self"],Xn,abk,aaj,WL,aam,abl,aba]
def sL:List S:=[s0,s1,s2,s3,s4,s5,s6,s7,s8,s9,s10,s11,s12,s13,s14,s15,s16,s17,s18,s19,s20,s21,s22,s23,s24,s25,s26,s27,s28,s29,s30,s31,s32,s33,s34,s35,s36,s37,s38,s39,s40,s41,s42,s43,s44,s45,s46,Vk,s48,s49,s50,s51,s52,s53,s54,s55,s56,s57,s58,s59,s60,s61,s62,s63,s64,s65,s66,s67,s68,s69,s70,s71,s72,s73,s74,s75,s76,s77,s78,s79,s80,s81,s82,s83,s84,s85,s86,s87,s88,s89,s90,s91,s92,s93,s94,s95,s96,s97,s98,.nil,.nil,abm,Z0,.nil,Z8,ZS,abr]
def nI(f:Nat):List Str:=NL.getD f []
def sI(f:Nat):S:=sL.getD f .nil
def Zg(f:Nat):List Str:=(nI f).take (T0.ar f)
abbrev Tl(f:Nat):Ts:={T0 with lm:=Y7 f}
def Mp:∀f,f<107->f=99\/f=100\/f=103\/j7 (Tl f) (Fk (T0.lv f -1)) (nI f) (T0.lv f -1) (cB (stI f)) (sI f) (gu (stI f))=true:=by decide+kernel
def Pz:List D:=[.tup [.int 2,.int 3,.int 5,.int 7,.int 11,.int 13],.int 8,.int 6,.int 0,.int 1,.int 2,.int 100,.int (-1),.int (-2),.int (-4),.int (-5),.int (-6),.int (-8),.int 0,.int 1,.int 1,.int 2,.int 3,.int 1000000000000000000,.int 1000,.int 1000000,.int 20,.int 8,.int 5,.int 500,.int 63,.int 20,.int 10,.int 32,.int 47,.int 48,.int 57,.int 40,.int 24,.tup [.int (-2),.int 0,.int 1,.int 0,.int 0,.int 0],.int 15,.int 2000,.int 255,.int 1000,.int 6]
def Wj:List (Int×D):=[(9,.fn 30),(10,.fn 31),(11,.fn 32),(12,.fn 33),(13,.fn 34),(14,.fn 35)]
def O4:List (Int×D):=[(0,.tup [.int 2,.int 0]),(1,.tup [.int 0,.int 1]),(2,.tup [.int 2,.int 2]),(3,.tup [.int 0,.int 2]),(4,.tup [.int 1,.int 1]),(5,.tup [.int 1,.int 0]),(6,.tup [.int 0,.int 2]),(7,.tup [.int 1,.int 1]),(8,.tup [.int 1,.int 1]),(9,.tup [.int 0,.int 1]),(10,.tup [.int 0,.int 0]),(11,.tup [.int 0,.int 0]),(12,.tup [.int 0,.int 2]),(13,.tup [.int 0,.int 1]),(14,.tup [.int 1,.int 0]),(15,.tup [.int 0,.int 1]),(16,.tup [.int 0,.int 0]),(17,.tup [.int 1,.int 0]),(18,.tup [.int 0,.int 1]),(19,.tup [.int 1,.int 0]),(20,.tup [.int 0,.int 0]),(21,.tup [.int 0,.int 0]),(22,.tup [.int 0,.int 1]),(23,.tup [.int 0,.int 2]),(24,.tup [.int 2,.int 3])]
def OR:List (Int×D):=[(0,.fn 51),(1,.fn 52),(2,.fn 53),(3,.fn 54),(4,.fn 55),(5,.fn 56),(6,.fn 57),(7,.fn 58),(8,.fn 60),(22,.fn 61),(23,.fn 62),(24,.fn 63)]
def P6:List (Int×D):=[(16,.fn 91),(17,.fn 92),(18,.fn 93),(19,.fn 94),(20,.fn 95),(21,.fn 96)]
def Oh:Nat->List (Int×D)|0=>Wj|1=>O4|2=>OR|3=>P6|_=>O4
abbrev Gx(c:Nat->List D->Option D)(b:Nat->D->D->List D->Option (D×D×D))(a:Nat->D->D->List D->Option D):Gm:=⟨c,λj=>Pz[j]?,Oh,b,a,[51,52,53,54,55,56,57,58,60,61,62,63],[30,31,32,33,34,35,91,92,93,94,95,96]⟩
def ch(p:c->Prop):Option c:=open Classical in if h:∃a,p a then some h.choose else none
def Rm(h:p a)(u:∀b,p b->b=a):ch p=some a:=by unfold ch;rw[dif_pos ⟨a,h⟩,u _ (E8 _)]
def Rc(h:ch p=some a):p a:=by unfold ch at h;split at h<;>cases h;exact E8 _
abbrev RP(G:Gm)(f:Nat)(l:List D)(d:D):Prop:=∃ρ,Ex G (.st (sI f)) (i7 (nI f) l) (.rt d ρ)
abbrev RO(G:Gm)(f:Nat)(c m:D)(l:List D)(x:D×D×D):Prop:=∃ρ:Ev,ρ[0]?=some (some (.ob x.2.1 x.2.2))/\(Ex G (.st (sI f)) (gf (nI f) c m l) (.rt x.1 ρ)\/x.1=.ie/\Ex G (.st (sI f)) (gf (nI f) c m l) (.nx ρ))
def eI(f:Nat):E:=if f=100 then T3 else SO
abbrev G0:Gm:=Gx (λ_ _=>none) (λ_ _ _ _=>none) λ_ _ _ _=>none
def Xi(f:Nat)(c m:D)(l:List D):Option D:=ev G0 (eI f) (gf (nI f) c m l)
def tb:Nat->Gm|0=>Gx (λ_ _=>none) (λ_ _ _ _=>none) Xi|k+1=>Gx (λf l=>if T0.lv f=k+1 then ch (RP (tb k) f l) else(tb k).d3 f l) (λf c m l=>if T0.lv f=k+1 then ch (RO (tb k) f c m l) else(tb k).j4 f c m l) Xi
abbrev GG:Gm:=Gx (tb 11).d3 (tb 11).j4 Xi
theorem up(h:T0.lv f<=j):∀i,(tb (j+i)).d3 f=(tb j).d3 f/\(tb (j+i)).j4 f=(tb j).j4 f|0=>⟨rfl,rfl⟩|i+1=>by have n:¬T0.lv f=j+i+1:=by{lia};rw[<-(up h i).1,<-(up h i).2,<-U5];simp[tb,n]
def QN:∀k,tb k=Gx (tb k).d3 (tb k).j4 Xi|0|k+1=>rfl
def DS:∀f,f<107->(1<=T0.lv f/\T0.lv f<=11)/\FW (λg=>decide (T0.lv g<T0.lv f)) GG.cv GG.Hn (sI f)=true:=by show ∀f,f<107->(1<=T0.lv f/\T0.lv f<=11)/\FW (λg=>decide (T0.lv g<T0.lv f)) [51,52,53,54,55,56,57,58,60,61,62,63] [30,31,32,33,34,35,91,92,93,94,95,96] (sI f)=true;decide+kernel
def agG(h:f<107){ρ o}:Ex (tb (T0.lv f -1)) (.st (sI f)) ρ o↔Ex GG (.st (sI f)) ρ o:=by obtain⟨⟨i,k⟩,e⟩:=DS f h;have z:∀g,decide (T0.lv g<T0.lv f)=true->(tb (T0.lv f -1)).d3 g=GG.d3 g/\(tb (T0.lv f -1)).j4 g=GG.j4 g:=λg q=>by{have q:=gN q;have u:=up (f:=g) (j:=T0.lv f -1) (by omega) (12 -T0.lv f);rw[show T0.lv f -1+(12 -T0.lv f)=11 by lia] at u;exact⟨u.1.symm,u.2.symm⟩};rw[QN];rw[QN (T0.lv f -1)] at z;exact⟨λx=>QJ z rfl rfl rfl rfl rfl x e,λx=>QJ (λg q=>⟨(z g q).1.symm,(z g q).2.symm⟩) rfl rfl rfl rfl rfl x e⟩
def GS(n:f<107):GG.d3 f=(λl=>ch (RP GG f l))/\GG.j4 f=λc m l=>ch (RO GG f c m l):=by obtain⟨⟨s,r⟩,_⟩:=DS f n;have u:=up (f:=f) (j:=T0.lv f) (aB _) (11 -T0.lv f);rw[show T0.lv f+(11 -T0.lv f)=11 by simp_all] at u;rw[show GG.d3 f=_ from u.1,show GG.j4 f=_ from u.2];obtain⟨k,e⟩:∃k,T0.lv f=k+1:=⟨T0.lv f -1,by simp_all⟩;have a:∀{ρ o},Ex (tb k) (.st (sI f)) ρ o↔Ex GG (.st (sI f)) ρ o:=λ{ρ o}=>by{have:=agG n (ρ:=ρ) (o:=o);rwa[e] at this};rw[e];have p:RP (tb k) f=RP GG f:=by{funext l d;simp only[RP,a]};have o:RO (tb k) f=RO GG f:=by{funext c m l d;simp only[RO,a]};simp[tb,e,p,o]
def kP(h:RP GG f l d)(g:f<107:=by decide):GG.d3 f l=some d:=by rw[(GS g).1];obtain⟨ρ,h⟩:=h;exact Rm ⟨ρ,h⟩ λb ⟨σ,q⟩=>by cases h.det q;rfl
def hP(b:f<107)(h:GG.d3 f l=some d):RP GG f l d:=by rw[(GS b).1] at h;exact Rc h
def kO(h:RO GG f c m l x)(n:f<107:=by decide):GG.j4 f c m l=some x:=by rw[(GS n).2];obtain⟨ρ,k,h⟩:=h;refine Rm ⟨ρ,k,h⟩ λb zz=>?_;obtain⟨σ,j,q⟩:=zz;obtain⟨x,y,z⟩:=x;obtain⟨r,p,s⟩:=b;rcases h with h|⟨e,h⟩<;>rcases q with q|⟨e',q⟩<;>cases h.det q<;>rw[k] at j<;>cases j;{rfl};.subst e;subst e';rfl
def hO(b:f<107)(h:GG.j4 f c m l=some x):RO GG f c m l x:=by rw[(GS b).2] at h;exact Rc h
theorem AS{a:Type}{f}{e}{g}:∀{xs:List a},(∀x∈xs,f (e x)=some (some (g x)))->uR f (xs.map e)=some (xs.map g)|[],_=>rfl|x::xs,h=>by rw[aX,uR,h x ag,AS λy b=>h y (af _ b)];rfl
theorem t7{j:Type}{f}{e}{g}{p}:∀{xs:List j},(∀x∈xs,f (e x)=some (if p x=true then some (g x) else none))->uR f (xs.map e)=some ((xs.filter p).map g)|[],_=>rfl|x::xs,h=>by have d:=t7 (f:=f) (e:=e) (g:=g) (p:=p) (xs:=xs) λy i=>h y (af _ i);rw[aX,uR,h x ag];cases c:p x with|true=>simp[d,c]|false=>simp[d,c]
theorem eR(ns):Se (ns.map D.int)=some ns:=qO ns
theorem tF:∀a:List Bool,n4 (a.map D.bl)=some a|[]=>rfl|b::a=>by rw[aX,n4,tF a];rfl
def all_map{c:Type}{f}{xs:List c}:II .all [.lst (xs.map λx=>D.bl (f x))]=some (.bl (xs.all f)):=by have:(xs.map λx=>D.bl (f x))=(xs.map f).map D.bl:=by{rw[aV];rfl};rw[this];show(match n4 ((xs.map f).map D.bl) with|some r=>some (D.bl (r.all id))|_=>none)=_;rw[tF];simp[iJ]
def any_map{c:Type}{f}{xs:List c}:II .any [.lst (xs.map λx=>D.bl (f x))]=some (.bl (xs.any f)):=by have:(xs.map λx=>D.bl (f x))=(xs.map f).map D.bl:=by{rw[aV];rfl};rw[this];show(match n4 ((xs.map f).map D.bl) with|some r=>some (D.bl (r.any id))|_=>none)=_;rw[tF];simp[ou]
def sum_ints{ns:List Int}:II .sum [.lst (ns.map D.int)]=some (.int ns.sum):=by show(match Se (ns.map D.int) with|some r=>some (D.int r.sum)|_=>none)=_;rw[eR]
def Ox:II .len [.lst l]=some (.int l.length):=rfl
def lG{k}(j:k<=1048576)(h:i.natAbs<2^k):gZ i:=by delta gZ dJ;split;{exact fJ _};.next g=>have g:i≠0:=by{simpa using g};have:i.natAbs.log2<k:=(gj Eg).mpr h;lia
def fit_le{i j}(h:i.natAbs<=j.natAbs)(m:gZ j):gZ i:=by delta gZ dJ at*;by_cases hi:i=0;{rw[au (by simpa using hi)];exact fJ _};.have k:j≠0:=λz=>by{rw[z] at h;simp at h;exact hi h};rw[ax (by simpa using hi)];rw[ax (by simpa using k)] at m;have:i.natAbs.log2<=j.natAbs.log2:=by{rcases lN j.natAbs.log2 i.natAbs.log2 with z|z;{have p:=oa (n:=i.natAbs) Eg;have o:j.natAbs<2^i.natAbs.log2:=(gj Eg).mp z;lia};.exact z};lia
theorem cp(h:i.natAbs<1000000):gZ i:=lG (k:=20) JN (gi h JN)
section
variable {G:Gm}{ρ:Ev}{a b c e:E}{x y z:Int}{d dx dy dz:D}
def jf(h:ev G a ρ=some (.int x))(k:ev G b ρ=some (.int y))(d:gZ x)(e:gZ y):ev G (.bin .mul a b) ρ=some (.int (x*y)):=by (conv=>lhs;whnf);rw[h,k];exact au ⟨d,e⟩
def jA(h:ev G a ρ=some (.int x))(k:ev G b ρ=some (.int y)):ev G (.bin .add a b) ρ=some (.int (x+y)):=by (conv=>lhs;whnf);rw[h,k];rfl
def xN(h:ev G a ρ=some (.int x))(k:ev G b ρ=some (.int y)):ev G (.bin .sub a b) ρ=some (.int (x -y)):=by (conv=>lhs;whnf);rw[h,k];rfl
def KN(h:ev G a ρ=some (.int x))(k:ev G b ρ=some (.int y))(d:y≠0)(e:y.natAbs.log2<9000):ev G (.bin .fdiv a b) ρ=some (.int (x.fdiv y)):=by (conv=>lhs;whnf);rw[h,k];exact au ⟨d,e⟩
def Bh(h:ev G a ρ=some (.int x))(k:ev G b ρ=some (.int y))(d:y≠0):ev G (.bin .mod a b) ρ=some (.int (x.fmod y)):=by (conv=>lhs;whnf);rw[h,k];exact au d
def xK(h:ev G a ρ=some (.lst l))(k:ev G b ρ=some (.lst m))(d:l.length+m.length<=aG):ev G (.bin .cat a b) ρ=some (.lst (l++m)):=by (conv=>lhs;whnf);rw[h,k];exact au d
def oR(h:ev G a ρ=some (.int x)):ev G (.neg a) ρ=some (.int (-x)):=by (conv=>lhs;whnf);rw[h]
def hC(h:ev G a ρ=some (.int x))(k:ev G b ρ=some (.int y)):ev G (.cmp o a b) ρ=some (.bl (fU o x y)):=by (conv=>lhs;whnf);rw[h,k];rfl
def eT(h:ev G a ρ=some (.int x))(k:ev G b ρ=some (.int y))(q:fU o x y=true):ev G (.cmp o a b) ρ=some (.bl true):=by rw[hC h k,q]
def eF(h:ev G a ρ=some (.int x))(k:ev G b ρ=some (.int y))(q:fU o x y=false):ev G (.cmp o a b) ρ=some (.bl false):=by rw[hC h k,q]
def Hw:fU .lt x y=true↔x<y:=by simp[fU]
def Nb:fU .le x y=true↔x<=y:=by simp[fU]
def SG:fU .gt x y=true↔y<x:=by simp[fU]
def cGe:fU .ge x y=true↔y<=x:=by simp[fU]
def xk:fU .eq x y=true↔x=y:=by simp[fU]
theorem ON:fU .ne x y=true↔x≠y:=by simp[fU]
def zN:fU .lt x y=false↔y<=x:=by simp[fU]
def OT:fU .le x y=false↔y<x:=by simp[fU]
def NV:fU .gt x y=false↔x<=y:=by simp[fU]
def TB:fU .ge x y=false↔x<y:=by simp[fU]
def mR:fU .eq x y=false↔x≠y:=by simp[fU]
theorem Bt:fU .ne x y=false↔x=y:=by simp[fU]
def ES(h:ev G a ρ=some (.int x))(k:ev G b ρ=some (.int y))(l:ev G c ρ=some (.int z)):ev G (.Hh o p a b c) ρ=some (.bl (fU o x y&&fU p y z)):=by (conv=>lhs;whnf);rw[h,k];dsimp only;by_cases q:fU o x y=true;{rw[au q,l,q];rfl};.rw[ax q];have:fU o x y=false:=by{simpa using q};rw[this];rfl
def pB(h:ev G a ρ=some (.bl v)):ev G (.nt a) ρ=some (.bl (!v)):=by (conv=>lhs;whnf);rw[h]
def qk(h:ev G a ρ=some (.bl v)):ev G (.tv a) ρ=some (.bl v):=by (conv=>lhs;whnf);rw[h]
def Jo(h:ev G a ρ=some (.bl v))(k:v=true->ev G b ρ=some (.bl u)):ev G (.an a b) ρ=some (.bl (v&&u)):=by (conv=>lhs;whnf);rw[h];cases v with|true=>simp[k rfl]|false=>rfl
def xC(h:ev G a ρ=some (.bl v))(k:v=false->ev G b ρ=some (.bl u)):ev G (.or a b) ρ=some (.bl (v||u)):=by (conv=>lhs;whnf);rw[h];cases v with|true=>rfl|false=>simp[k rfl]
def lI(h:ev G a ρ=some d):ev G (.one a) ρ=some d:=by (conv=>lhs;whnf);rw[h]
def Cq(h:ev G c ρ=some (.bl v))(k:v=true->ev G a ρ=some d)(l:v=false->ev G b ρ=some d):ev G (.ite c a b) ρ=some d:=by (conv=>lhs;whnf);rw[h];cases v with|true=>exact k rfl|false=>exact l rfl
def DN:ev G .nil ρ=some (.lst []):=rfl
def Ga(h:ev G a ρ=some d)(k:ev G b ρ=some (.lst l)):ev G (.cons a b) ρ=some (.lst (d::l)):=by (conv=>lhs;whnf);rw[h,k]
def dg(h:ev G a ρ=some d):ev G (A1 a) ρ=some (.lst [d]):=Ga h DN
def gd(h:ev G a ρ=some d)(k:ev G b ρ=some dx):ev G (A2 a b) ρ=some (.lst [d,dx]):=Ga h (dg k)
def vr(h:ev G a ρ=some d)(k:ev G b ρ=some dx)(l:ev G c ρ=some dy):ev G (A3 a b c) ρ=some (.lst [d,dx,dy]):=Ga h (gd k l)
def Bk(h:ev G a ρ=some d)(k:ev G b ρ=some dx)(l:ev G c ρ=some dy)(m:ev G e ρ=some dz):ev G (A4 a b c e) ρ=some (.lst [d,dx,dy,dz]):=Ga h (vr k l m)
def bj{l}(h:ev G a ρ=some (.lst l))(k:G.d3 f l=some d):ev G (.cM f a) ρ=some d:=by (conv=>lhs;whnf);rw[h];exact k
def iG{l}(h:ev G a ρ=some (.lst l))(k:II f l=some d):ev G (.bi f a) ρ=some d:=by (conv=>lhs;whnf);rw[h];exact k
def qV(h:ev G a ρ=some (.lst l)):ev G (.tup a) ρ=some (.tup l):=by (conv=>lhs;whnf);rw[h]
def kQ(h:ev G a ρ=some d):ev G (.lst a) ρ=some d:=by (conv=>lhs;whnf);rw[h]
def fF(h:ev G a ρ=some dx)(k:ev G b ρ=some dy)(q:SM dx dy=some d):ev G (.ix a b) ρ=some d:=by (conv=>lhs;whnf);rw[h,k];exact q
def Ig{lo hi}(h:ev G a ρ=some (.lst l))(k:ev G b ρ=some dy)(m:ev G c ρ=some dz)(i:Ca dy=some lo)(g:Ca dz=some hi):ev G (.sl a b c) ρ=some (.lst (cutD l lo hi)):=by (conv=>lhs;whnf);rw[h,k,m];show YX (.lst l) dy dz=_;unfold YX;dsimp only;rw[i,g]
def X5(h:ev G a ρ=some (.int x)):ev G (.pt a) ρ=some (.int x):=by (conv=>lhs;whnf);rw[h]
def ig(h:ev G a ρ=some (.lst l)):ev G (.uf a) ρ=some (.lst l):=by (conv=>lhs;whnf);rw[h];rfl
def NZ(h:ev G a ρ=some (.tup l)):ev G (.uf a) ρ=some (.lst l):=by (conv=>lhs;whnf);rw[h];rfl
def HC(h:ev G a ρ=some dx)(k:ev G b ρ=some dy)(f:oj dx=some l)(d:oj dy=some m):ev G (.zip a b) ρ=some (.lst ((l.zip m).map λp=>.tup [p.1,p.2])):=by (conv=>lhs;whnf);rw[h,k];show Ds dx dy=_;unfold Ds;rw[f,d]
def R0(h:ev G a ρ=some dx)(q:oj dx=some l):ev G (.DW a) ρ=some (.lst (gx 0 l)):=by (conv=>lhs;whnf);rw[h];show EU dx=_;unfold EU;rw[q]
def pI{j:Type}{t}{own}{f g}{xs:List j}(h:ev G a ρ=some (.lst (xs.map f)))(k:∀x∈xs,∃c,fO t (f x) (oK ρ own)=some c/\ev G e c=some (g x)):ev G (.lc e t a own) ρ=some (.lst (xs.map g)):=by (conv=>lhs;whnf);rw[h];dsimp only;rw[AS (g:=g) λx l=>?_];{rfl};.obtain⟨c,n,m⟩:=k x l;rw[n];dsimp only;rw[m];rfl
def Ki{m:Type}{t}{own}{f g}{p}{xs:List m}(h:ev G a ρ=some (.lst (xs.map f)))(k:∀x∈xs,∃b,fO t (f x) (oK ρ own)=some b/\ev G c b=some (.bl (p x))/\(p x=true->ev G e b=some (g x))):ev G (.LV e t a c own) ρ=some (.lst ((xs.filter p).map g)):=by (conv=>lhs;whnf);rw[h];dsimp only;rw[t7 (g:=g) (p:=p) λx n=>?_];{rfl};.obtain⟨b,r,q,o⟩:=k x n;rw[r];dsimp only;rw[q];cases s:p x with|true=>rw[o s];rfl|false=>rfl
def ub(h:ev G a ρ=some dx)(k:ev G b ρ=some dy)(m:ev G c ρ=some dz):ev G (.AL a b c) ρ=F4 dx dy dz:=by (conv=>lhs;whnf);rw[h,k,m]
def Kn(h:ev G a ρ=some dx)(k:ev G b ρ=some dy):ev G (.zV a b) ρ=Fm dx dy:=by (conv=>lhs;whnf);rw[h,k]
def MJ{n}(h:ev G a ρ=some dx):ev G (.La a n) ρ=BD n dx:=by (conv=>lhs;whnf);rw[h]
def Sn{n}(h:ev G a ρ=some dx):ev G (.join n a) ρ=QS n dx:=by (conv=>lhs;whnf);rw[h]
def Su(h:ev G a ρ=some dx):ev G (.uf a) ρ=itD dx:=by (conv=>lhs;whnf);rw[h]
def Gy(h:ev G a ρ=some (.int x))(k:(G.del j).lookup x=some d):ev G (.xH j a) ρ=some d:=by (conv=>lhs;whnf);rw[h];exact k
end
def pA(m n:Nat):RH (m:Int) (n:Int)=((m % n:Nat):Int):=by rw[yY _ Eg];exact(Int.natCast_emod m n).symm
def mM(m n:Nat):Int.fdiv (m:Int) (n:Int)=((m/n:Nat):Int):=by rw[dH _ Eg];exact(Nv m n).symm
section
theorem oZ{b:Int}(h:1<=b):∀n:Nat,1<=b^n|0=>by simp|n+1=>by have:=oZ h n;rw[uH];have:=mo this h Eg (by lia);assumption
def kM(h:a*b=c)(g:1<=a)(e:1<=b)(f:gZ c):gZ a:=fit_le (by have:a*1<=a*b:=kH e (by lia);grind) f
def DM{b e V}(I:gZ V):∀(n) (p q),1<=p->1<=q->p*q^n=V->∃l,Ex GG (.wl Ot Z1) [some (.pl (.int b)),some (.pl (.int e)),some (.pl (.int p)),some (.pl (.int q)),some (.pl (.int (n:Nat)))] (.nx [some (.pl (.int b)),some (.pl (.int e)),some (.pl (.int V)),some (.pl (.int l)),some (.pl (.int 0))]):=by intro n;induction n using QB with|ind n W=>intro p q G w y;rcases gX n with rfl|Y;{have e:p=V:=by{simpa using y};subst e;exact⟨q,.wz rfl⟩};.have M:ev GG Ot [some (.pl (.int b)),some (.pl (.int e)),some (.pl (.int p)),some (.pl (.int q)),some (.pl (.int (n:Nat)))]=some (.bl true):=by{show some (D.bl (decide ((0:Int)<(n:Nat))))=_;rw[fC Eg]};have H:=oZ w n;have Q:gZ p:=kM y G H I;have F:gZ q:=by{have e:q^n=q*q^(n -1):=by{rw[<-Int.pow_succ'];congr 1;grind};have R:=oZ w (n -1);exact kM (a:=q) (b:=q^(n -1)*p) (c:=V) (by rw[<-y,e];rw[lL p,U6]) w (by have:=mo R G Eg (by lia);trivial) I};have L:RH ((n:Nat):Int) 2=((n % 2:Nat):Int):=pA n 2;have X:Int.fdiv ((n:Nat):Int) 2=((n/2:Nat):Int):=mM n 2;have T:(2:Int).natAbs.log2<9000:=JN;have x:∀(s l:Int),(s=if n % 2=1 then p*q else p)->(l=if 0<n/2 then q*q else q)->Ex GG (.st Z1) [some (.pl (.int b)),some (.pl (.int e)),some (.pl (.int p)),some (.pl (.int q)),some (.pl (.int (n:Nat)))] (.nx [some (.pl (.int b)),some (.pl (.int e)),some (.pl (.int s)),some (.pl (.int l)),some (.pl (.int (n/2:Nat)))]):=by{intro s l v t;have rest:∀p2,Ex GG (.st WO) [some (.pl (.int b)),some (.pl (.int e)),some (.pl (.int p2)),some (.pl (.int q)),some (.pl (.int (n:Nat)))] (.nx [some (.pl (.int b)),some (.pl (.int e)),some (.pl (.int p2)),some (.pl (.int l)),some (.pl (.int (n/2:Nat)))]):=λp2=>by{refine .JE (KN rfl rfl JN JN) rfl ?_;rw[X];by_cases z:0<n/2;{rw[au z] at t;subst t;exact .Jn (eT rfl rfl (SG.mpr (by omega))) (.JE (jf rfl rfl F F) rfl .nil) .nil};.rw[ax z] at t;subst t;exact .iff (eF rfl rfl (NV.mpr (by lia))) .nil .nil};by_cases z:n % 2=1;{rw[au z] at v;subst v;exact .Jn (eT (Bh rfl rfl JN) rfl (xk.mpr (by rw[L];simp_all))) (.JE (jf rfl rfl Q F) rfl .nil) (rest _)};.rw[ax z] at v;subst v;exact .iff (eF (Bh rfl rfl JN) rfl (mR.mpr (by rw[L];simp_all))) .nil (rest _)};have step:∀(s l:Int),(s=if n % 2=1 then p*q else p)->(l=if 0<n/2 then q*q else q)->1<=s/\1<=l/\s*l^(n/2)=V:=by{intro s l v t;have O:1<=p*q:=by{have:=mo G w Eg (by lia);trivial};have U:1<=q*q:=by{have:=mo w w Eg (by lia);assumption};refine⟨by rw[v];split<;>assumption,by rw[t];split<;>assumption,?_⟩;have C:l^(n/2)=(q*q)^(n/2):=by{rw[t];split;{rfl};.have:n/2=0:=by{lia};rw[this];simp};rw[C,<-y,v];have N:(q*q)^(n/2)=q^(2*(n/2)):=by{rw[Int.pow_mul,uH,uH,Int.pow_zero,G7]};rw[N];split;{have:n=2*(n/2)+1:=by{lia};rw[show q^n=q^(2*(n/2))*q by rw[<-uH];congr 1];rw[U6,lL q]};.have:n=2*(n/2):=by{lia};rw[<-this]};obtain⟨s1,s2,s3⟩:=step _ _ rfl rfl;obtain⟨l,P⟩:=W (n/2) (by grind) _ _ s1 s2 s3;exact⟨l,.wn M (x _ _ rfl rfl) P⟩
def k0(b e)(f:1<=b)(j:0<=e)(g:gZ (b^e.toNat)):GG.d3 0 [.int b,.int e]=some (.int (b^e.toNat)):=kP<|by obtain⟨k,d⟩:=DM (b:=b) (e:=e) g e.toNat 1 b JN f (by rw[G7]);have i:((e.toNat:Nat):Int)=e:=rm j;rw[i] at d;exact⟨_,.JE rfl rfl (.JE rfl rfl (.JE rfl rfl (.kF d (.ret rfl))))⟩
end
abbrev I(z:Int):Option Ent:=some (.pl (.int z))
abbrev Ls(l:List Int):Option Ent:=some (.pl (.ints l))
abbrev Rs(l:List (List Int)):Option Ent:=some (.pl (.rows l))
abbrev Op(o:Option D):Option Ent:=o.map .pl
theorem pT(lo c):∀(n),iD lo c n=(aj n).map λ(i:Nat)=>D.int (lo+i*c)|0=>rfl|n+1=>by rw[iD,pT (lo+c) c n,ot,aX,aV];congr 1;{simp};.apply dS;intro i _;show D.int _=D.int _;congr 1;push_cast;rw[xb];lia
def pZ{i j:Nat}:cutD l (some (i:Int)) (some (j:Int))=(l.drop i).take (j -i):=by unfold cutD;rw[HT.ve,HT.ve];by_cases h:i<=l.length;{rw[lj h];by_cases g:j<=l.length;{rw[lj g]};.rw[Nw (by lia)];rw[jE (by rw[cX];simp_all),jE (by rw[cX];grind)]};.have e:min i l.length=l.length:=by{grind};rw[e,gR (aB _),gR (by lia:l.length<=i)];simp
def rW{i:Nat}:cutD l (some (i:Int)) none=l.drop i:=by unfold cutD;rw[HT.ve,HT.wF];by_cases h:i<=l.length;{rw[lj h,jE (by rw[cX];simp_all)]};.rw[Nw (by omega),gR (aB _),gR (by omega)];simp
def Ka{j:Nat}:cutD l none (some (j:Int))=l.take j:=by unfold cutD;rw[HT.ve,HT.wF];simp
def zQ{i:Nat}{x}(h:l[i]?=some x):yB l (i:Int)=some x:=by have hi:i<l.length:=(aQ.mp h).1;delta yB Fi;rw[au Eg,au Eg];exact h
def eM(h:ns[i]?=some z):SM (.ints ns) (.int (i:Nat))=some (.int z):=by show yB (ns.map D.int) (i:Int)=_;exact zQ (by rw[aP,h];rfl)
def qd(h:ns[i]?=some z):SM (.rows ns) (.int (i:Nat))=some (.ints z):=by show yB (ns.map D.ints) (i:Int)=_;exact zQ (by rw[aP,h];rfl)
section
def k1(row):GG.d3 1 [.ints row]=some (.bl (az row)):=kP<|by have o:ev GG uT [Ls row,none]=some (.int row.length):=by{refine iG (dg rfl) ?_;show some (D.int ((row.map D.int).length:Nat))=_;rw[ak]};have n:ev GG Jk [Ls row,none]=some (.int 6):=rfl;by_cases h:row.length=6;{refine⟨_,.iff (eF o n (Bt.mpr Eg)) .nil (.ret ?_)⟩;have:az row=row.all λe=>(fU .le (-8) e&&fU .le e 8):=by{unfold az;rw[h];rfl};rw[this];exact iG (dg (pI (f:=D.int) (g:=λe=>D.bl (fU .le (-8) e&&fU .le e 8)) (ig rfl) λx _=>⟨_,rfl,ES (oR rfl) rfl rfl⟩)) all_map};.refine⟨_,.fH (eT o n (ON.mpr (by lia))) (.ret ?_) (λp z=>by cases z)⟩;have:az row=false:=by{unfold az;have:(row.length==6)=false:=by{simpa using h};rw[this];rfl};rw[this];rfl
def k2(ns)(h:ns.length<=17000):GG.d3 2 [.ints ns]=some (.rows (CM.dP (CM.cF ns) ns)):=kP<|by have v:ev GG uT [Ls ns,none]=some (.int ns.length):=by{refine iG (dg rfl) ?_;show some (D.int ((ns.map D.int).length:Nat))=_;rw[ak]};have q:lP 0 (ns.length:Nat) 6=CM.cF ns:=by{delta lP CM.cF;split<;>lia};have t:ev GG (.AL (cI 0) uT Jk) [Ls ns,none]=some (.lst ((aj (CM.cF ns)).map λ(i:Nat)=>D.int ((6*i:Nat):Int))):=by{rw[ub rfl v rfl];show o7 0 (ns.length:Nat) 6=_;unfold o7;rw[au (by refine⟨by decide,by decide,by decide,by decide,by omega,by omega,?_⟩;rw[q];unfold CM.cF;have:aG=16777216:=rfl;lia),q,pT];congr 2;apply dS;intro i _;show D.int _=D.int _;congr 1;push_cast;lia};have u:CM.dP (CM.cF ns) ns=(aj (CM.cF ns)).map λi=>(ns.drop (6*i)).take 6:=by{apply eW;intro i;by_cases hi:i<CM.cF ns;{rw[CM.vF _ _ _ hi,aP,dh hi];rfl};.rw[bF (by rw[CM.qU];omega),bF (by simp;omega)]};refine⟨_,.ret ?_⟩;show _=some (D.lst ((CM.dP (CM.cF ns) ns).map D.ints));rw[u,aV];refine pI t λi _=>⟨_,rfl,?_⟩;have r:=Ig (G:=GG) (ρ:=[Ls ns,I ((6*i:Nat):Int)]) (a:=.var 0) (b:=.pt 1) (c:=.pt (.bin .add 1 Jk)) (l:=ns.map D.int) rfl (X5 rfl) (X5 (jA (y:=6) rfl rfl)) rfl rfl;rw[show(((6*i:Nat):Int)+6)=((6*i+6:Nat):Int) by push_cast;rfl,pZ] at r;refine r.trans ?_;rw[show 6*i+6 -6*i=6 by simp_all];show some (D.lst _)=some (D.lst _);rw[<-fD,<-d7]
def k3:GG.d3 3 []=some (.ints bI):=kP<|⟨_,.ret rfl⟩
def m5{a b:List Int}:(((a.map D.int).zip (b.map D.int)).map λp=>D.tup [p.1,p.2])=(a.zip b).map λp=>D.tup [.int p.1,.int p.2]:=by rw[U7,aV];rfl
def k4(m n)(a b:List Int)(f d)(o:oj f=some (a.map D.int))(r:oj d=some (b.map D.int))(q:a.length=6)(k:b.length=6)(l:gZ m)(s:gZ n)(fa:∀x∈a,gZ x)(u:∀x∈b,gZ x):GG.d3 4 [.int m,f,.int n,d]=some (.ints (hX m a n b)):=kP<|by refine⟨_,.ret ?_⟩;have h:=HC (G:=GG) (ρ:=[I m,some (.pl f),I n,some (.pl d),none,none]) (a:=.var 1) (b:=.var 3) rfl rfl o r;rw[m5] at h;have:=pI (e:=.bin .add (.bin .mul 0 4) (.bin .mul 2 5)) (t:=.tp [4,5]) (own:=[4,5]) (g:=λp:Int×Int=>D.int (m*p.1+n*p.2)) h λp j=>⟨_,rfl,jA (jf rfl rfl l (fa _ (df j).1)) (jf rfl rfl s (u _ (df j).2))⟩;refine this.trans ?_;rw[<-CM.OA m n q k];show _=some (D.lst (((a.zip b).map λp=>m*p.1+n*p.2).map D.int));rw[aV];rfl
def k5(v x)(j:v.length=6)(i:x.length=6)(fa:∀z∈v,gZ z)(k:∀z∈x,gZ z):GG.d3 5 [.ints v,.ints x]=some (.int (xf v x)):=kP<|by refine⟨_,.ret ?_⟩;have f:=HC (G:=GG) (ρ:=[Ls v,Ls x,none,none]) (a:=.var 0) (b:=.var 1) (l:=v.map D.int) (m:=x.map D.int) rfl rfl rfl rfl;rw[m5] at f;have:=pI (e:=.bin .mul 2 3) (t:=.tp [2,3]) (own:=[2,3]) (g:=λp:Int×Int=>D.int (p.1*p.2)) f λp d=>⟨_,rfl,jf rfl rfl (fa _ (df d).1) (k _ (df d).2)⟩;refine iG (dg this) ?_;have e:((v.zip x).map λp:Int×Int=>D.int (p.1*p.2))=((v.zip x).map λp=>p.1*p.2).map D.int:=by{rw[aV];rfl};rw[e,sum_ints,CM.Dx j i]
def OL:Int->List (Int×Int)->Int|acc,[]=>acc|acc,(p,e)::r=>OL (if 0<e then acc*p^e.toNat else acc) r
theorem Q6:∀(l) (acc),1<=acc->(∀p∈l,1<=p.1)->acc<=OL acc l/\1<=OL acc l|[],acc,h,_=>⟨xh _,h⟩|(p,e)::r,acc,h,f=>by dsimp only[OL];have j:1<=p:=f (p,e) ag;have k:=oZ j e.toNat;have g:acc<=(if 0<e then acc*p^e.toNat else acc):=by{split;{have:acc*1<=acc*p^e.toNat:=kH k (by lia);simp_all};.exact xh _};have:=Q6 r _ (VM h g) λq i=>f q (af _ i);exact⟨VM g this.1,this.2⟩
theorem vD:∀(l) (acc) (m k),1<=acc->(∀p∈l,1<=p.1)->gZ (OL acc l)->∃g f,Ex GG (.lp (.tp [2,3]) X7 (l.map λp=>D.tup [.int p.1,.int p.2])) [Ls row,I acc,Op m,Op k] (.nx [Ls row,I (OL acc l),Op g,Op f])|[],acc,m,k,_,_,_=>⟨m,k,.lz⟩|(p,e)::r,acc,m,k,h,x,o=>by have B:1<=p:=x (p,e) ag;have w:∀q∈r,1<=q.1:=λq G=>x q (af _ G);have A:fO (.tp [2,3]) (.tup [.int p,.int e]) [Ls row,I acc,Op m,Op k]=some [Ls row,I acc,I p,I e]:=by{cases m<;>cases k<;>rfl};dsimp only[OL] at o⊢;by_cases v:0<e;{rw[au v] at o⊢;have t:=oZ B e.toNat;have C:1<=acc*p^e.toNat:=by{have:=mo h t Eg (by lia);assumption};obtain⟨J,H⟩:=Q6 r _ C w;have z:gZ (acc*p^e.toNat):=fit_le (by grind) o;have fa:gZ acc:=kM rfl h t z;have y:gZ (p^e.toNat):=kM (a:=p^e.toNat) (b:=acc) (lL _ _) t h z;obtain⟨g,f,u⟩:=vD (row:=row) r _ (some (.int p)) (some (.int e)) C w o;exact⟨g,f,.ln A (.Jn (eT rfl rfl (SG.mpr v)) (.JE (jf rfl (bj (gd rfl rfl) (k0 p e B (by lia) y)) fa y) rfl .nil) .nil) u⟩};.rw[ax v] at o⊢;obtain⟨g,f,u⟩:=vD (row:=row) r _ (some (.int p)) (some (.int e)) h w o;exact⟨g,f,.ln A (.iff (eF rfl rfl (NV.mpr Eg)) .nil .nil) u⟩
def Lf(h:row.length=6):OL 1 (([2,3,5,7,11,13]:List Int).zip row)=(bQ row:Int):=by obtain⟨a,b,c,d,e,f,rfl⟩:=CM.six h;have n:∀(acc p e:Int),(if 0<e then acc*p^e.toNat else acc)=acc*p^e.toNat:=λacc p e=>by{split;{rfl};.have:e.toNat=0:=Eg;rw[this];simp};simp only[List.zip_cons_cons,List.zip_nil_right,OL,n];rw[CM.gG];delta CM.pw a0;simp only[List.getD_cons_zero,List.getD_cons_succ];push_cast;rw[G7]
def k6(row:List Int)(h:row.length=6)(j:gZ (bQ row:Int)):GG.d3 6 [.ints row]=some (.int (bQ row)):=kP<|by rw[<-Lf h] at j;obtain⟨q,n,i⟩:=vD (row:=row) (([2,3,5,7,11,13]:List Int).zip row) 1 none none JN (λp o=>by have:=(df o).1;simp at this;lia) j;rw[Lf h] at i;have g:=HC (G:=GG) (ρ:=[Ls row,I 1,none,none]) (a:=.jg 0) (b:=.var 0) (l:=([2,3,5,7,11,13]:List Int).map D.int) (m:=row.map D.int) rfl rfl rfl rfl;rw[m5] at g;refine⟨_,.JE rfl rfl (.fr g i (.ret ?_))⟩;rfl
end
section
def k7(row:List Int)(h:row.length=6)(k:gZ (cO row:Int)):GG.d3 7 [.ints row]=some (.int (cO row)):=kP<|by have i:bQ (row.map λe=> -e)=cO row:=CM.Ah (CM.O6 h);refine⟨_,.ret (bj (l:=[.ints (row.map λe=> -e)]) (dg ?_) (by show GG.d3 6 _=_;rw[k6 _ (by simpa using h) (by rw[i];exact k),i]))⟩;show _=some (D.lst ((row.map λe=> -e).map D.int));rw[aV];exact pI (f:=D.int) (ig rfl) λx _=>⟨_,rfl,oR rfl⟩
def uP:gZ (1:Int):=cp JN
def vB:gZ (-1:Int):=cp JN
theorem vO{c:Type}(f):∀(l:List c) (m),least m (l.map f)=l.foldl (λm x=>min m (f x)) m|[],m=>rfl|x::l,m=>by rw[aX,least,cA,vO f l];congr 1;split<;>grind
def vA{d:List (List Int)}(e:rows=f::d)(i):rows.foldl (λ(m:Int) (x:bP)=>min m (a0 x i)) (a0 (rows.headD bI) i)=least (a0 f i) (d.map λx=>a0 x i):=by subst e;rw[vO,cA];simp
theorem i0{r:List Int}(h:r.length=6){i}(hi:i<6):r[i]?=some (a0 r i):=by unfold a0;rw[aA,ai Eg];rfl
def DE{r:List Int}(h:r.length=6){i}(hi:i<6):a0 r i∈r:=cx (i0 h hi)
def Wg:ev GG (.wq Jk) ρ=some (.lst ((aj 6).map λ(i:Nat)=>D.int (i:Nat))):=rfl
def A7:II .DI [.lst ((x::r).map D.int)]=some (.int (least x r)):=by show(match Se ((x::r).map D.int) with|some (x::r)=>some (D.int (least x r))|_=>none)=_;rw[eR]
def MA:II .He [.lst ((x::r).map D.int)]=some (.int (most x r)):=by show(match Se ((x::r).map D.int) with|some (x::r)=>some (D.int (most x r))|_=>none)=_;rw[eR]
def yc{rows:List (List Int)}(v:rows≠[])(p:∀r∈rows,r.length=6){P:Int->Prop}(l:∀r∈rows,∀x∈r,P x):(ck rows).length=6/\∀x∈ck rows,P x:=by refine⟨by rfl,λx m=>?_⟩;unfold ck at m;obtain⟨i,hi,rfl⟩:=bg.mp m;have hi:i<6:=by{simpa using hi};cases rows with|nil=>exact absurd rfl v|cons j t=>rw[vA rfl];rcases(px (t.map λx=>a0 x i) (a0 j i)).1 with e|e;{rw[e];exact l j ag _ (DE (p j ag) hi)};.obtain⟨r,o,e⟩:=bg.mp e;rw[<-e];exact l r (af _ o) _ (DE (p r (af _ o)) hi)
def ex8{rows:List (List Int)}(v:rows≠[])(o:∀r∈rows,r.length=6)(u:∀r∈rows,∀x∈r,gZ x)(C:∀r∈rows,gZ (bQ (cf r (ck rows)):Int)):∃p,Ex GG (.st s8) (i7 N8 [.rows rows]) (.rt (.ints (aO (c5 rows))) p):=by obtain⟨A,w⟩:=yc v o u;obtain⟨h,j,t⟩:∃h j,rows=h::j:=by{cases rows with|nil=>exact absurd rfl v|cons h j=>exact⟨h,j,rfl⟩};have B:ev GG Wb [Rs rows,none,none,none]=some (.ints (ck rows)):=by{show _=some (D.lst (((aj 6).map λi=>rows.foldl (λ(m:Int) (x:bP)=>min m (a0 x i)) (a0 (rows.headD bI) i)).map D.int));rw[aV];refine pI Wg λi hi=>⟨_,rfl,?_⟩;have hi:i<6:=by{simpa using hi};refine iG (dg (pI (f:=D.ints) (g:=λr=>D.int (a0 r i)) (xs:=rows) (ig rfl) λr e=>⟨_,rfl,fF rfl rfl (eM (i0 (o r e) hi))⟩)) ?_;have:(rows.map λr=>D.int (a0 r i))=((a0 h i)::j.map λr=>a0 r i).map D.int:=by{rw[t];simp};rw[this,A7];exact ip (λz=>some (D.int z)) (vA t i).symm};refine⟨_,.JE B rfl (.ret ?_)⟩;show _=some (D.lst (((rows.map λx=>bQ (cf x (ck rows))).map cP).map D.int));rw[aV,aV];refine pI (f:=D.ints) (ig rfl) λr e=>⟨_,rfl,?_⟩;refine bj (dg (bj (Bk rfl rfl (oR rfl) rfl) (k4 1 (-1) r (ck rows) _ _ rfl rfl (o r e) A uP vB (u r e) w))) ?_;exact k6 _ (CM.bZ ..) (C r e)
theorem GL(w:2<=p)(d:p<=13){n0}:∀(f n t:Nat),0<n->n<p^f->∃l,Ex GG (.wl XH (.JE 3 (.bin .fdiv 3 0) JU)) [I p,I n0,I t,I n] (.nx [I p,I n0,I ((t+bp p f n:Nat):Int),I l])|0,n,t,v,m=>by rw[Df] at m;omega|f+1,n,t,v,m=>by have g:(p:Int)≠0:=by{lia};have u:=pA n p;have y:=mM n p;dsimp only[bp];by_cases h:n % p=0;{rw[au ⟨by lia,h⟩];have A:0<n/p:=xa (sy v (Nat.dvd_of_mod_eq_zero h)) (by omega);have r:n/p<p^f:=by{rw[il (by omega)];rw[gh] at m;exact m};obtain⟨l,B⟩:=GL w d (n0:=n0) f (n/p) (t+1) A r;refine⟨l,.wn (eT (Bh rfl rfl g) rfl (xk.mpr (by rw[u,h];rfl))) (.JE (KN rfl rfl g ?_) rfl (.JE (jA rfl rfl) rfl .nil)) ?_⟩;{have x:((p:Int)).natAbs=p:=bC p;rw[x];exact(gj Eg).mpr (bO d (aJ (by decide:13<2^4) (dI JN JN)))};.rw[y];have e:t+(bp p f (n/p)+1)=t+1+bp p f (n/p):=by{lia};rw[e];exact B};.rw[ax (by rintro⟨_,z⟩;exact h z)];exact⟨n,.wz (eF (Bh rfl rfl g) rfl (mR.mpr (by rw[u];lia)))⟩
def k9(p n:Nat)(e:2<=p)(a:p<=13)(f:1<=n)(g:n<2^200):GG.d3 9 [.int p,.int n]=some (.int (bp p 200 n)):=kP<|by obtain⟨l,d⟩:=GL e a (n0:=n) 200 n 0 f (aJ g (dw e 200));rw[fA] at d;exact⟨_,.JE rfl rfl (.JE rfl rfl (.kF d (.ret rfl)))⟩
def CI(n:Nat):Nat:=([2,3,5,7,11,13]:List Nat).foldl (λm p=>m/p^bp p 200 m) n
def IP(i:2<=p){n}(g:0<n)(h:n<2^200):p^bp p 200 n∣n/\0<n/p^bp p 200 n/\n/p^bp p 200 n<=n:=by obtain⟨m,e,_⟩:=CM.r8 (by assumption) 200 n g (aJ h (dw i 200));have f:p^bp p 200 n∣n:=⟨m,e⟩;exact⟨f,xa (sy g f) (dZ (by lia)),ls ..⟩
theorem FI:∀(l:List Nat) (n:Nat) (o),(∀p∈l,2<=p/\p<=13)->0<n->n<2^200->∃t,Ex GG (.lp (.nm 2) XI (l.map λ(p:Nat)=>D.int (p:Nat))) [I n0,I n,Op o] (.nx [I n0,I ((l.foldl (λm p=>m/p^bp p 200 m) n:Nat):Int),Op t])|[],n,o,_,_,_=>⟨o,.lz⟩|p::l,n,o,w,v,s=>by obtain⟨f,j⟩:=w p ag;obtain⟨d1,d2,A⟩:=IP f v s;have B:fO (.nm 2) (.int (p:Nat)) [I n0,I n,Op o]=some [I n0,I n,I p]:=by{cases o<;>rfl};have g:((p:Int)^((bp p 200 n:Nat):Int).toNat)=((p^bp p 200 n:Nat):Int):=by{rw[bH];push_cast;rfl};have h:p^bp p 200 n<2^200:=bO (sy v d1) s;have x:0<p^bp p 200 n:=dZ (by lia);have z:gZ ((p^bp p 200 n:Nat):Int):=lG (k:=200) JN (by rw[bC];exact h);have y:=k0 p ((bp p 200 n:Nat):Int) (by lia) Eg (by rw[g];exact z);rw[g] at y;obtain⟨t,C⟩:=FI (n0:=n0) l (n/p^bp p 200 n) (some (.int p)) (λq F=>w q (af _ F)) d2 (bO A s);refine⟨t,.ln B (.JE (KN rfl (bj (gd rfl (bj (gd rfl rfl) (k9 p n f j v s))) y) (by omega) ?_) rfl .nil) ?_⟩;{rw[bC];exact aJ ((gj (by omega)).mpr h) JN};.rw[mM];exact C
def k10(n:Nat)(g:1<=n)(h:n<2^200):GG.d3 10 [.int n]=some (.int (CI n)):=kP<|by obtain⟨i,f⟩:=FI (n0:=n) [2,3,5,7,11,13] n none (λp e=>by simp at e;lia) g h;exact⟨_,.JE rfl rfl (.fr (NZ rfl) f (.ret rfl))⟩
def yg(h0:1<=n)(h1:n<2^200):∃f,CM.um n f (CI n):=by have step:∀(m p:Nat),2<=p->0<m->m<2^200->∃k,m=p^k*(m/p^bp p 200 m)/\¬p∣(m/p^bp p 200 m)/\0<m/p^bp p 200 m/\m/p^bp p 200 m<2^200:=λm p hp m0 T=>by{obtain⟨q,e,J⟩:=CM.r8 (by assumption) 200 m m0 (aJ T (dw hp 200));have F:0<p^bp p 200 m:=dZ (by lia);have L:m/p^bp p 200 m=q:=by{(conv=>lhs;lhs;rw[e]);exact gF q F};refine⟨bp p 200 m,by rw[L];exact e,by rw[L];exact J,?_,bO (ls ..) T⟩;rw[L];rcases gX q with z|z;{rw[z,VN] at e;simp_all};.exact z};obtain⟨a,ea,na,pa,ba⟩:=step n 2 JN h0 h1;obtain⟨b,P,nb,pb,Z⟩:=step _ 3 JN pa ba;obtain⟨c,H,Y,pc,bc⟩:=step _ 5 JN pb Z;obtain⟨d,G,J,pd,bd⟩:=step _ 7 JN pc bc;obtain⟨e,C,ne,pe,be⟩:=step _ 11 JN pd bd;obtain⟨f,B,nf,pf,bf⟩:=step _ 13 JN pe be;have er:CI n=n/2^bp 2 200 n/3^bp 3 200 (n/2^bp 2 200 n)/5^bp 5 200 (n/2^bp 2 200 n/3^bp 3 200 (n/2^bp 2 200 n))/7^bp 7 200 (n/2^bp 2 200 n/3^bp 3 200 (n/2^bp 2 200 n)/5^bp 5 200 (n/2^bp 2 200 n/3^bp 3 200 (n/2^bp 2 200 n)))/_/_:=rfl;unfold CI;simp only[cA,List.foldl_nil];generalize n/2^bp 2 200 n=U at*;generalize U/3^bp 3 200 U=R at*;generalize R/5^bp 5 200 R=O at*;generalize O/7^bp 7 200 O=Q at*;generalize Q/11^bp 11 200 Q=N at*;generalize N/13^bp 13 200 N=x6 at*;refine⟨λi=>if i=0 then a else if i=1 then b else if i=2 then c else if i=3 then d else if i=4 then e else f,?_,λi hi=>?_⟩;{unfold CM.pw;dsimp;rw[ea,P,H,G,C,B];simp only[cR]};.have nn:∀p k x,¬p∣p^0*0+(k*x)->¬p∣x:=λp k x h q=>h (by rw[VN,fA];exact U8 q ⟨k,cN ..⟩);have s:∀{p q k x y:Nat},x=q^k*y->¬p∣x->¬p∣y:=λ{p q k x y} e h z=>h (by rw[e];exact U8 z ⟨q^k,cN ..⟩);have h6:i=0\/i=1\/i=2\/i=3\/i=4\/i=5:=by{lia};rcases h6 with rfl|rfl|rfl|rfl|rfl|rfl;{exact s B (s C (s G (s H (s P na))))};{exact s B (s C (s G (s H nb)))};{exact s B (s C (s G Y))};{exact s B (s C J)};{exact s B ne};.exact nf
def k11(n d:Nat)(c:1<=n)(a:n<2^200)(e:1<=d)(b:d<2^200):GG.d3 11 [.int n,.int d]=some (.bl (fU .ne (CI n) (CI d))):=kP<|⟨_,.ret (hC (bj (dg rfl) (k10 n c a)) (bj (dg rfl) (k10 d e b)))⟩
def ZJ(n d:Nat)(l:1<=n)(m:n<2^200)(i:1<=d)(k:d<2^200):GG.d3 12 [.int n,.int d]=some (.ints (CM.fG n d)):=kP<|by refine⟨_,.ret ?_⟩;show _=some (D.lst ((([2,3,5,7,11,13]:List Nat).map λ(p:Nat)=>(bp p 200 n:Int) -(bp p 200 d:Int)).map D.int));rw[aV];refine pI (f:=λp:Nat=>D.int (p:Nat)) (NZ rfl) λp h=>⟨_,rfl,?_⟩;have a:2<=p/\p<=13:=by{simp at h;lia};exact xN (bj (gd rfl rfl) (k9 p n a.1 a.2 l m)) (bj (gd rfl rfl) (k9 p d a.1 a.2 i k))
end
def vM(h:CM.Bd M x):bQ x<2^(15*M+1):=by refine bO (CM.LP h) ?_;refine bO (dw (by decide:30030<=2^15) M) ?_;rw[<-qA];grind
def Ac(h:CM.Bd M x):cO x<2^(15*M+1):=by refine bO (CM.Ur h) ?_;refine bO (dw (by decide:30030<=2^15) M) ?_;rw[<-qA];grind
def ma(h:CM.Bd M x)(d:M<=60000):gZ (bQ x:Int):=lG (k:=15*M+1) (by lia) (vM h)
def nJ(h:CM.Bd M x)(d:M<=60000):gZ (cO x:Int):=lG (k:=15*M+1) (by lia) (Ac h)
def kC(e:x.length=6)(h:CM.Bd M x)(d:M<1000000):∀z∈x,gZ z:=λz hz=>by obtain⟨i,hi,rfl⟩:=dj hz;have:=h i (by lia);grind [a0,i0,ai,bA,cp]
def gy(h:az x=true):∀z∈x,gZ z:=kC (CM.bX h) (CM.cw h) JN
section
def TL{M}(p:x.length=6)(h:CM.Bd M x):(0::x.drop 1).length=6/\CM.Bd M (0::x.drop 1):=by obtain⟨a,b,c,d,e,f,rfl⟩:=CM.six p;refine⟨rfl,λi hi=>?_⟩;cases i with|zero=>exact fJ _|succ i=>exact h (i+1) hi
def Af(a b:Nat):II .max2 [.int a,.int b]=some (.int ((max a b:Nat):Int)):=by show some (D.int (if(b:Int)>a then(b:Int) else a))=_;grind
def k13(row:List Int)(h:az row=true):GG.d3 13 [.ints row]=some (.int (cn 2 row)):=kP<|by obtain ⟨i,l⟩:=TL (CM.bX h) (CM.cw h);have n:ev GG (.bin .cat za Ab) [Ls row,none]=some (.ints (0::row.drop 1)):=by{have m:=Ig (G:=GG) (ρ:=[Ls row,none]) (a:=.var 0) (b:=.pt (cI 1)) (c:=.np) (lo:=some ((1:Nat):Int)) rfl rfl rfl rfl rfl;rw[rW] at m;refine(xK (kQ (dg rfl)) m ?_).trans ?_;{have:=CM.bX h;dsimp;have:aG=16777216:=rfl;simp_all};simp_all};refine⟨_,.JE n rfl (.ret (iG (gd (bj (dg rfl) (k6 _ i (ma l JN))) (bj (dg rfl) (k7 _ i (nJ l JN)))) ?_))⟩;exact Af ..
theorem ye:∀(r) (x),(x::r).Pairwise (·<·)->most x r=r.foldl (λ_ y=>y) x|[],x,_=>rfl|y::r,x,h=>by simp_all [most,ye]
def HY{l:List Int}(n)(h:l.Pairwise (·<·)):BD n (.lst (l.map D.int))=some (.int (l.foldl (λ_ y=>y) n)):=by show(match Se (l.map D.int) with|some []=>some (D.int n)|some (x::r)=>some (D.int (most x r))|none=>none)=_;grind [eR,ye]
def k14(row)(h:row.length=6):GG.d3 14 [.ints row]=some (.int (cn 3 row)):=kP<|by have ez:=HC (G:=GG) (ρ:=[Ls row,none,none]) (a:=BI) (b:=0) (l:=([2,3,5,7,11,13]:List Int).map D.int) (m:=row.map D.int) rfl rfl rfl rfl;rw[m5] at ez;have el:=Ki (e:=1) (c:=.cmp .ne 2 (cI 0)) (t:=.tp [1,2]) (own:=[1,2]) ez λp _=>⟨_,rfl,hC rfl rfl,λ_=>rfl⟩;have e2:(((([2,3,5,7,11,13]:List Int).zip row).filter λp:Int×Int=>fU .ne p.2 0).map λp:Int×Int=>D.int p.1)=((((([2,3,5,7,11,13]:List Int).zip row).filter λp:Int×Int=>fU .ne p.2 0).map (·.1)).map D.int):=Eg;rw[e2] at el;refine⟨_,.ret ?_⟩;show ev GG VU [Ls row,none,none]=_;rw[MJ el];show BD 1 _=_;rw[HY];{congr 2;obtain⟨a,b,c,d,e,f,rfl⟩:=CM.six h;unfold cn;dsimp;have hf:∀(l:List (Int×Int)) (m:Int),((l.filter λp:Int×Int=>fU .ne p.2 0).map (·.1)).foldl (λ_ y=>y) m=l.foldl (λm p=>if p.2=0 then m else p.1) m:=by{intro l;induction l with|nil=>intro m;rfl|cons p l ih=>intro m;grind [fU,Bt,ON]};rw[hf];have hc:∀(l:List Nat) (x:bP) (m:Nat),(((l.foldl (λp i=>if a0 x i=0 then p else eQ i) m:Nat)):Int)=l.foldl (λ(p:Int) (i:Nat)=>if a0 x i=0 then p else(eQ i:Int)) (m:Int):=by{intro l x;induction l with|nil=>intro m;rfl|cons i l ih=>intro m;rw[cA,cA,ih];congr 1;split<;>rfl};rw[hc];rfl};.have hs:((([2,3,5,7,11,13]:List Int).zip row).map (·.1)).Pairwise (·<·):=by{rw[List.map_fst_zip (by simp[h])];decide};grind
def se(i):II .abs [.int i]=some (.int (i.natAbs:Int)):=by show some (D.int (if i<0 then -i else i))=_;grind
def k15(row:List Int)(h:az row=true):GG.d3 15 [.ints row]=some (.int (cn 4 row)):=kP<|by have w:=CM.bX h;have m:=gy h;have s:=HC (G:=GG) (ρ:=[Ls row,none,none]) (a:=.jg 0) (b:=.var 0) (l:=([2,3,5,7,11,13]:List Int).map D.int) rfl rfl rfl rfl;rw[m5] at s;have u:=pI (e:=.bin .mul JF (.bin .sub 1 (cI 1))) (t:=.tp [1,2]) (own:=[1,2]) s λp r=>⟨_,rfl,jf (iG (dg rfl) (se _)) (xN rfl rfl) (fit_le (by simp) (m _ (df r).2)) (by have:=(df r).1;simp at this;exact cp (by lia))⟩;have y:((([2,3,5,7,11,13]:List Int).zip row).map λp:Int×Int=>D.int ((p.2.natAbs:Int)*(p.1 -1)))=((([2,3,5,7,11,13]:List Int).zip row).map λp=>(p.2.natAbs:Int)*(p.1 -1)).map D.int:=Eg;rw[y] at u;refine⟨_,.ret ((jA rfl (iG (dg u) sum_ints)).trans ?_)⟩;obtain⟨a,b,c,d,e,f,rfl⟩:=CM.six w;simp[cn,Cb.amount,a0,eQ,Cb.PRIMES,xc];lia
def k16(k:Nat)(row:List Int)(hk:k<=5)(h:az row=true):GG.d3 16 [.int k,.ints row]=some (.int (cn k row)):=kP<|by have hl:=CM.bX h;have fn:=ma (CM.cw h) JN;have fd:=nJ (CM.cw h) JN;have q6:=k6 row hl fn;have q7:=k7 row hl fd;have h6:k=0\/k=1\/k=2\/k=3\/k=4\/k=5:=by{lia};have no:∀{o:Out} {d ρ},o=.rt d ρ->∀ρ',o≠.nx ρ':=λe ρ' z=>Eg;rcases h6 with rfl|rfl|rfl|rfl|rfl|rfl;{refine⟨_,.fH rfl (.ret ((jf (bj (dg rfl) q6) (bj (dg rfl) q7) fn fd).trans ?_)) (no rfl)⟩;congr 2};{exact⟨_,.iff rfl .nil (.fH rfl (.ret (iG (gd (bj (dg rfl) q6) (bj (dg rfl) q7)) (Af ..))) (no rfl))⟩};{exact⟨_,.iff rfl .nil (.iff rfl .nil (.fH rfl (.ret (bj (dg rfl) (k13 row h))) (no rfl)))⟩};{exact⟨_,.iff rfl .nil (.iff rfl .nil (.iff rfl .nil (.fH rfl (.ret (bj (dg rfl) (k14 row hl))) (no rfl))))⟩};{exact⟨_,.iff rfl .nil (.iff rfl .nil (.iff rfl .nil (.iff rfl .nil (.fH rfl (.ret (bj (dg rfl) (k15 row h))) (no rfl)))))⟩};.refine⟨_,.iff rfl .nil (.iff rfl .nil (.iff rfl .nil (.iff rfl .nil (.iff rfl .nil (.ret ?_)))))⟩;have el:=pI (G:=GG) (ρ:=[I 5,Ls row,none]) (e:=.bi .abs (A1 2)) (t:=.nm 2) (own:=[2]) (a:=.uf 1) (xs:=row) (ig rfl) λx _=>⟨_,rfl,iG (dg rfl) (se _)⟩;have e2:(row.map λx=>D.int (x.natAbs:Int))=(row.map λx=>(x.natAbs:Int)).map D.int:=Eg;rw[e2] at el;refine(iG (dg el) sum_ints).trans ?_;congr 2;obtain⟨a,b,c,d,e,f,rfl⟩:=CM.six hl;simp[cn,Cb.amount,a0,xc];lia
def k17(k:Nat)(rows:List (List Int))(hk:k<=5)(hn:rows.length<=20)(h:∀r∈rows,az r=true):GG.d3 17 [.int k,.rows rows]=some (.ints (aO (jZ (λ(i:Nat)=>cn k (rows.getD i bI)) (aj rows.length)))):=kP<|by have el:=pI (G:=GG) (ρ:=[I k,Rs rows,none,none]) (e:=.cM 16 (A2 0 3)) (t:=.nm 3) (own:=[3]) (a:=.uf 1) (f:=D.ints) (xs:=rows) (g:=λr=>D.int (cn k r:Int)) (ig rfl) λr hr=>⟨_,rfl,bj (gd rfl rfl) (k16 k r hk (h r hr))⟩;have e2:(rows.map λr=>D.int (cn k r:Int))=(rows.map λr=>(cn k r:Int)).map D.int:=by{rw[aV];rfl};rw[e2] at el;refine⟨_,.JE el rfl (.EL rfl rfl ?_)⟩;show(match Se ((rows.map λr=>(cn k r:Int)).map D.int) with|some ns=>if(rows.map D.ints).length<=ns.length/\(rows.map D.ints).length<=1000 then some (D.ints ((l9 (λi=>ns.getD i 0) (aj (rows.map D.ints).length)).map λ(i:Nat)=>(i:Int))) else none|none=>none)=_;rw[eR];dsimp only;rw[au (by simp;lia),ak];congr 2;have e3:l9 (λi=>(rows.map λr=>(cn k r:Int)).getD i 0) (aj rows.length)=jZ (λ(i:Nat)=>cn k (rows.getD i bI)) (aj rows.length):=by{have agree:∀i,i<rows.length->(rows.map λr=>(cn k r:Int)).getD i 0=((cn k (rows.getD i bI):Nat):Int):=λi hi=>by{rw[aA,aP,aA,ai hi];rfl};have mem:∀z∈l9 (λi=>(rows.map λr=>(cn k r:Int)).getD i 0) (aj rows.length),z<rows.length:=λz hz=>by{have:z∈(l9 (λi=>(rows.map λr=>(cn k r:Int)).getD i 0) (aj rows.length)).filter (λy=>(rows.map λr=>(cn k r:Int)).getD y 0==(rows.map λr=>(cn k r:Int)).getD z 0):=bV.mpr ⟨hz,by simp⟩;rw[kU] at this;simpa using (bV.mp this).1};refine CM.Dr ?_ λc=>?_;{refine dN (λ{x y} hx hy q=>?_) (vP _ _);rw[agree x (mem x hx),agree y (mem y hy)] at q;exact q};.have q:=kU (λi=>(rows.map λr=>(cn k r:Int)).getD i 0) c (aj rows.length);rw[dC (q:=λz=>((cn k (rows.getD z bI):Nat):Int)==c) λz hz=>by rw[agree z (mem z hz)]] at q;rw[dC (l:=aj rows.length) (q:=λz=>((cn k (rows.getD z bI):Nat):Int)==c) λz hz=>by rw[agree z (by simpa using hz)]] at q;exact q};rw[e3];rfl
end
def xR(a b:bP):Int:=if bD a b=true then 0 else if bQ (cf a b)=cO (cf a b) then 1 else 2
def zr:xR a b=0↔bD a b=true:=by unfold xR;split;{next h=>exact⟨λ_=>h,λ_=>rfl⟩};.next h=>split<;>exact⟨λz=>absurd z JN,λz=>absurd z h⟩
def Li{a b}:bD b a=true↔cO (cf a b)<bQ (cf a b):=by have h:bQ (cf b a)=cO (cf a b)/\cO (cf b a)=bQ (cf a b):=by{refine⟨CM.Ah λi hi=>?_,(CM.Ah λi hi=>?_).symm⟩<;>rw[CM.gr _ _ hi,CM.gr _ _ hi]<;>lia};show decide (bQ (cf b a)<cO (cf b a))=true↔_;rw[h.1,h.2,bz]
def wY:xR a b=2↔bD b a=true:=by rw[Li];have k:bD a b=true↔bQ (cf a b)<cO (cf a b):=by{show decide (bQ (cf a b)<cO (cf a b))=true↔_;rw[bz]};unfold xR;split;{next h=>exact⟨λz=>absurd z JN,λz=>by have:=k.mp h;omega⟩};.next h=>split;{next e=>exact⟨λz=>absurd z JN,λz=>by simp_all⟩};.next e=>exact⟨λ_=>by have:=mt k.mpr h;lia,λ_=>rfl⟩
def pU{a b}(h:CM.Bd M a)(k:CM.Bd N b):CM.Bd (M+N) (cf a b):=λi hi=>by rw[CM.gr _ _ hi];have:=h i hi;have:=k i hi;omega
def GI{a b}(h:CM.Bd M a)(k:CM.Bd N b):CM.Bd (M+N) (rz a b):=λi hi=>by rw[CM.zM _ _ hi];have:=h i hi;have:=k i hi;omega
section
def gq:∀b,Out.rt d ρ≠.nx b:=λ_ z=>by cases z
def Vh(a b:List Int)(l o)(A:oj l=some (a.map D.int))(C:oj o=some (b.map D.int))(w:a.length=6)(q:b.length=6)(M N)(t:M+N<=60000)(r:CM.Bd M a)(x:CM.Bd N b):GG.d3 18 [l,o]=some (.int (xR a b)):=kP<|by have s:=pU r x;have j:=k4 1 (-1) a b l o A C w q uP vB (kC w r (by omega)) (kC q x (by omega));have m:=k6 (cf a b) (CM.bZ ..) (ma s t);have n:=k7 (cf a b) (CM.bZ ..) (nJ s t);have B:bD a b=decide (bQ (cf a b)<cO (cf a b)):=rfl;unfold xR;rw[B];generalize bQ (cf a b)=u at*;generalize cO (cf a b)=v at*;by_cases y:u<v;{rw[au (fC y)];exact⟨_,.JE (bj (Bk rfl rfl (oR rfl) rfl) j) rfl (.JE (bj (dg rfl) m) rfl (.JE (bj (dg rfl) n) rfl (.fH (eT rfl rfl (Hw.mpr Eg)) (.ret rfl) gq)))⟩};.rw[ax (by simpa using y)];by_cases z:u=v;{rw[au z];exact⟨_,.JE (bj (Bk rfl rfl (oR rfl) rfl) j) rfl (.JE (bj (dg rfl) m) rfl (.JE (bj (dg rfl) n) rfl (.iff (eF rfl rfl (zN.mpr Eg)) .nil (.fH (eT rfl rfl (xk.mpr Eg)) (.ret rfl) gq))))⟩};.rw[ax z];exact⟨_,.JE (bj (Bk rfl rfl (oR rfl) rfl) j) rfl (.JE (bj (dg rfl) m) rfl (.JE (bj (dg rfl) n) rfl (.iff (eF rfl rfl (zN.mpr Eg)) .nil (.iff (eF rfl rfl (mR.mpr (by lia))) .nil (.ret rfl)))))⟩
def JG(n:Nat):dJ (n:Int)=CM.bl n:=by delta dJ CM.bl;by_cases h:n=0;{subst h;rfl};.rw[ax (by simp;exact h),ax h,bC]
def eBl{a}{n:Nat}(h:ev G a ρ=some (.int n)):ev G (.bl a) ρ=some (.int (CM.bl n)):=by (conv=>lhs;whnf);rw[h];show some (D.int (dJ (n:Int)))=_;rw[JG]
def k19(U V:Nat)(J:0<U)(B:U<2^50000)(H:0<V)(C:V<2^50000):GG.d3 19 [.int U,.int V]=some (.int (CM.sd U V)):=kP<|by have t:∀{n:Nat},0<n->n<2^50000->CM.bl n<=50000:=λ{n} L h=>by{unfold CM.bl;rw[ax (by omega)];exact(gj (by omega)).mpr h};have N:=t J B;have M:=t H C;have G:gZ (U:Int):=lG (k:=50000) JN (by rw[bC];exact B);have F:gZ (V:Int):=lG (k:=50000) JN (by rw[bC];exact C);have A:ev GG (.bin .sub (.bl 0) (.bl 1)) [I U,I V,none,none]=some (.int ((CM.bl U:Int) -(CM.bl V:Int))):=xN (eBl rfl) (eBl rfl);have y:∀z:Nat,z<=50000->GG.d3 0 [.int 2,.int z]=some (.int ((2^z:Nat):Int))/\gZ ((2^z:Nat):Int):=λz hz=>by{have e:(2:Int)^((z:Nat):Int).toNat=((2^z:Nat):Int):=by{rw[bH];push_cast;rfl};have f:gZ ((2^z:Nat):Int):=lG (k:=50001) JN (by rw[bC];exact qH JN (by omega));have:=k0 2 z JN Eg (by rw[e];exact f);rw[e] at this;exact⟨this,f⟩};unfold CM.sd;generalize O:(CM.bl U:Int) -(CM.bl V:Int)=o at*;dsimp only;by_cases h:0<=o;{obtain⟨z,rfl⟩:∃z:Nat,o=z:=⟨o.toNat,by omega⟩;obtain⟨u,p2⟩:=y z (by lia);rw[au h,bH];refine⟨_,.JE A rfl (.Jn (eT rfl rfl (cGe.mpr h)) (.JE (hC (jf rfl (bj (gd rfl rfl) u) F p2) rfl) rfl .nil) (.ret (Cq (qk rfl) (λq=>?_) λq=>(xN rfl rfl).trans ?_)))⟩;{rw[au];{rfl};.exact fC (by have:=Nb.mp q;exact_mod_cast this)};.rw[ax];intro w;have:=OT.mp q;have w:=oG.mpr (gN w);push_cast at w this;omega};.obtain⟨z,x⟩:∃z:Nat,-o=z:=⟨(-o).toNat,by grind⟩;obtain⟨u,p2⟩:=y z (by lia);rw[ax h,x,bH];refine⟨_,.JE A rfl (.iff (eF rfl rfl (TB.mpr Eg)) (.JE (hC rfl (jf rfl (bj (gd rfl (oR rfl)) (by rw[x];exact u)) G p2)) rfl .nil) (.ret (Cq (qk rfl) (λq=>?_) λq=>(xN rfl rfl).trans ?_)))⟩;{rw[au];{rfl};.exact fC (by have:=Nb.mp q;exact_mod_cast this)};.rw[ax];intro w;have:=OT.mp q;have w:=oG.mpr (gN w);push_cast at w this;lia
def k20(n:Nat)(row:List Int)(w:1<=n)(B:n<=100)(o:row.length=6)(h:CM.Bd 8 row):GG.d3 20 [.int n,.ints row]=some (.int (Ji row n)):=kP<|by have x:=ma h JN;have C:=nJ h JN;have q:=k6 row o x;have y:=k7 row o C;have l:∀u:Nat,0<u->u<2^(15*8+1)->GG.d3 0 [.int u,.int (2*(n:Int))]=some (.int ((u^(2*n):Nat):Int))/\0<u^(2*n)/\u^(2*n)<2^50000:=λu s A=>by{have e:(u:Int)^(2*(n:Int)).toNat=((u^(2*n):Nat):Int):=by{have:(2*(n:Int)).toNat=2*n:=by{rfl};rw[this];push_cast;rfl};have j:u^(2*n)<2^50000:=by{refine aJ (rl A (by lia)) ?_;rw[<-qA];exact dI JN (aM (cW _ (cW 2 B)) JN)};have:=k0 u (2*(n:Int)) (by lia) (by lia) (by rw[e];exact lG (k:=50000) JN (by rw[bC];exact j));rw[e] at this;exact⟨this,dZ s,j⟩};obtain⟨G,t,v⟩:=l _ (CM.j3 row) (vM h);obtain⟨r,F,z⟩:=l _ (CM.JP row) (Ac h);have m:gZ (2:Int):=cp JN;have p:gZ (n:Int):=cp (by grind);refine⟨_,.JE (bj (gd (bj (gd (bj (dg rfl) q) (jf rfl rfl m p)) G) (bj (gd (bj (dg rfl) y) (jf rfl rfl m p)) r)) (k19 _ _ t v F z)) rfl (.ret ((KN (jA rfl rfl) rfl JN JN).trans ?_))⟩;rw[CM.xP row w,dH _ JN]
def k21(n:Nat)(m:1<=n)(q:n<=100):GG.d3 21 [.int n]=some (.ints (kD n)):=kP<|by refine⟨_,.ret ?_⟩;have o:∀i,i<6->CM.fG (eQ i) 1=kK i:=zv;have p:∀i,i<6->CM.Bd 8 (kK i):=λi hi j r=>by{have:∀i,i<6->∀j,j<6->(a0 (kK i) j).natAbs<=8:=zv;exact this i hi j r};show _=some (D.lst (((aj 6).map λ(i:Nat)=>Ji (kK i) n).map D.int));rw[aV];refine pI (f:=λi:Nat=>D.int (eQ i:Nat)) (NZ rfl) λi hi=>⟨_,rfl,?_⟩;have hi:i<6:=by{simpa using hi};have g:∀i,i<6->1<=eQ i/\eQ i<=13:=JN;have:=ZJ (eQ i) 1 (g i hi).1 (bO (g i hi).2 JN) JN JN;rw[o i hi] at this;exact bj (gd rfl (bj (gd rfl rfl) this)) (k20 n (kK i) m q (by rfl) (p i hi))
def k29(ns)(a b):GG.d3 29 [.ints ns,.int a,.int b]=some (.bl (ns.all (aW a b))):=kP<|⟨_,.ret (iG (dg (pI (f:=D.int) (g:=λz=>D.bl (aW a b z)) (xs:=ns) (ig rfl) λz _=>⟨_,rfl,ES rfl rfl rfl⟩)) all_map)⟩
end
def Qt(c:Nat):Nat->bP->bP->bP×bP|0,a,b=>(a,b)|f+1,a,b=>if a0 b c=0 then(a,b) else Qt c f b (CM.iW c a b)
theorem LX(m:c<6){first d}{M}:∀(f) (a b),(a0 b c).natAbs<=f->CN.Eu c first d M a b->CN.Eu c first d M (Qt c f a b).1 (Qt c f a b).2/\a0 (Qt c f a b).2 c=0|0,a,b,h,E=>⟨E,by show a0 b c=0;simp_all⟩|f+1,a,b,h,E=>by dsimp only[Qt];by_cases z:a0 b c=0;{rw[au z];exact⟨E,z⟩};.rw[ax z];refine LX m f _ _ ?_ (E.next m z);have:=CM.va (a0 a c) z;rw[CM.pE m];omega
def l8{K}(h:z.natAbs<=2^K)(b:K<1000000):gZ z:=lG (k:=K+1) (by lia) (bO h (qH JN Eg))
def vd{K}{x}(d:x.length=6)(h:CM.Bd (2^K) x)(g:K<1000000):∀z∈x,gZ z:=λz hz=>by obtain⟨i,hi,rfl⟩:=dj hz;have:=h i (by omega);have e:a0 x i=x[i]:=by{have:=i0 d (by lia:i<6);rw[ai hi] at this;exact(bA this).symm};rw[e] at this;exact l8 this g
def zE{z:Int}{K}(h:z.natAbs<=2^K)(hz:z≠0)(b:K<8999):z.natAbs.log2<9000:=aJ ((gj Eg).mpr (bO h (qH JN (gC K)))) (by lia)
section
def Qm(i:c<6){first j}{K}(G:K<8999){d0 d1}:∀(f) (a b) (o n),(a0 b c).natAbs<=f->CN.Eu c first j (2^K) a b->∃x v,Ex GG (.wl (.cmp .ne (.ix 4 2) (cI 0)) XY) [d0,d1,I c,Ls a,Ls b,Op o,Op n] (.nx [d0,d1,I c,Ls (Qt c f a b).1,Ls (Qt c f a b).2,Op x,Op v]):=by intro f;induction f with|zero=>intro a b o n h E;exact⟨o,n,.wz (eF (fF rfl rfl (eM (i0 E.ll i))) rfl (Bt.mpr Eg))⟩|succ f C=>intro a b o n h E;dsimp only[Qt];by_cases z:a0 b c=0;{rw[au z];exact⟨o,n,.wz (eF (fF rfl rfl (eM (i0 E.ll i))) rfl (Bt.mpr z))⟩};.rw[ax z];have H:=CM.va (a0 a c) z;obtain⟨p,q,B⟩:=C b (CM.iW c a b) (some (.int ((a0 a c).fdiv (a0 b c)))) (some (.ints (CM.iW c a b))) (by rw[CM.pE i];omega) (E.next i z);have J:=CM.Qc (a0 a c) z;have M:=E.bk c i;have F:gZ (-(a0 a c).fdiv (a0 b c)):=l8 (K:=K+1) (by rw[gh,mf];have:0<2^K:=dZ JN;omega) (by lia);exact⟨p,q,.wn (eT (fF rfl rfl (eM (i0 E.ll i))) rfl (ON.mpr z)) (.JE (KN (fF rfl rfl (eM (i0 E.lk i))) (fF rfl rfl (eM (i0 E.ll i))) z (zE (E.bl c i) z G)) (by cases o<;>rfl) (.JE (bj (Bk rfl rfl (oR rfl) rfl) (k4 1 _ a b _ _ rfl rfl E.lk E.ll uP F (vd E.lk E.bk (by omega)) (vd E.ll E.bl (by omega)))) (by cases n<;>rfl) (.JE rfl rfl (.JE rfl rfl .nil)))) B⟩
def Ih(c:Nat)(a b:bP):bP×bP:=Qt c (a0 b c).natAbs a b
abbrev P22(a b:List Int)(c:Nat):Prop:=c<6/\∃K,K<8999/\CN.Eu c a b (2^K) a b
def k22(a b)(c)(h:P22 a b c):GG.d3 22 [.ints a,.ints b,.int c]=some (.tup [.ints (Ih c a b).1,.ints (Ih c a b).2]):=kP<|by obtain⟨g,K,i,E⟩:=h;obtain⟨p,q,f⟩:=Qm g (d0:=Ls a) (d1:=Ls b) i (a0 b c).natAbs a b none none (aB _) E;exact⟨_,.JE rfl rfl (.JE rfl rfl (.kF f (.ret (qV (gd rfl rfl)))))⟩
def zW(s:List bP×bP)(c:Nat):List bP×bP:=(s.1.set c (Ih c (CM.Rw s.1 c) s.2).1,(Ih c (CM.Rw s.1 c) s.2).2)
def Vf(rows:List bP)(v:bP):List bP:=((fE 0 6).foldl zW (rows,v)).1
def nP(l:List bP):List bP:=l.foldl Vf [bI,bI,bI,bI,bI,bI]
def QU{v a}{t c}(S:CN.zP b L t)(e:c<6)(U:CN.Up b L v t c rows a):CN.Eu c (CM.Rw rows c) a (2^CN.lF (CN.rF t) (c+1)) (CM.Rw rows c) a:=by have o:=S.row c e;rw[<-U.same c (aB _) e] at o;exact CN.KW e o.len U.ll o.M5 U.fl o.bd U.bl
def Ff{v a}{t c}(S:CN.zP b L t)(e:c<6)(U:CN.Up b L v t c rows a):CN.Up b L v t (c+1) (zW (rows,a) c).1 (zW (rows,a) c).2:=by obtain⟨E,z⟩:=LX e (a0 a c).natAbs (CM.Rw rows c) a (aB _) (QU S e U);exact U.next S e E z
theorem MK{t}(S:CN.zP a L t):∀(f c) (s),f+c=6->CN.Up a L v t c s.1 s.2->CN.Up a L v t 6 ((fE c f).foldl zW s).1 ((fE c f).foldl zW s).2|0,c,s,e,U=>by have:c=6:=Eg;subst this;exact U|f+1,c,s,e,U=>by rw[nW,cA];exact MK S f (c+1) _ (by lia) (Ff S (by lia) U)
def Mv{t}(S:CN.zP rows L t)(d:CM.Sm L)(c:v.length=6)(f:CM.Bd 8 v):CN.zP (Vf rows v) (L++[v]) (t+1):=(MK S 6 0 (rows,v) rfl (CN.BW S (λu a=>(d u a).1) c f)).done (λu a=>(d u a).1) c
theorem kb:∀(l L rows) (t),CN.zP rows L t->CM.Sm L->CM.Sm l->CN.zP (l.foldl Vf rows) (L++l) (t+l.length)|[],L,rows,t,S,_,_=>by rw[bM];exact S|v::l,L,rows,t,S,h,g=>by have d:=g v ag;have:=kb l (L++[v]) (Vf rows v) (t+1) (Mv S h d.1 d.2) (λu f=>by rcases cz.mp f with z|z;{exact h u z};.rw[bB.mp z];exact d) (λu f=>g u (af _ f));rw[bu] at this;rw[cA,aI,show t+(l.length+1)=t+1+l.length by lia];exact this
def wx(h:CM.Sm l):CN.zP (nP l) l l.length:=by have:=kb l [] _ 0 CN.Co (λu c=>by cases c) h;rw[fA,eC] at this;exact this
abbrev Ow(l:List (List Int)):Option Ent:=some (.ow (l.map D.ints))
def JI(l:List (List Int))(c)(r):(l.map D.ints).set c (.ints r)=(l.set c r).map D.ints:=by rw[List.map_set]
theorem Bq{t}(y:t<=5)(S:CN.zP g L t){d0 d2}:∀(f c) (s) (k d),f+c=6->CN.Up g L v t c s.1 s.2->∃w x,Ex GG (.lp (.nm 4) VV ((fE c f).map λ(i:Nat)=>D.int (i:Nat))) [d0,Ow s.1,d2,Ls s.2,Op k,none,Op d] (.nx [d0,Ow ((fE c f).foldl zW s).1,d2,Ls ((fE c f).foldl zW s).2,Op w,none,Op x])|0,c,s,k,d,e,U=>⟨k,d,.lz⟩|f+1,c,s,k,d,e,U=>by have u:c<6:=by{lia};have J:=QU S u U;have A:=k22 (CM.Rw s.1 c) s.2 c ⟨u,_,bO (CN.X4 t y (c+1) (by assumption)) JN,J⟩;obtain⟨p,q,B⟩:=Bq y S (d0:=d0) (d2:=d2) f (c+1) (zW s c) (some (.int c)) (some (.tup [.ints (Ih c (CM.Rw s.1 c) s.2).1,.ints (Ih c (CM.Rw s.1 c) s.2).2])) (by lia) (Ff S u U);have F:s.1[c]?=some (CM.Rw s.1 c):=by{show _=some (s.1.getD c bI);rw[aA,ai (by rw[U.len];exact u)];rfl};rw[nW,aX,cA];have C:fO (.nm 4) (.int (c:Nat)) [d0,Ow s.1,d2,Ls s.2,Op k,none,Op d]=some [d0,Ow s.1,d2,Ls s.2,I c,none,Op d]:=by{cases k<;>rfl};have G:ev GG (.Vc 1 4) [d0,Ow s.1,d2,Ls s.2,I c,none,Op d]=some (.ints (CM.Rw s.1 c)):=by{show yB (s.1.map D.ints) (c:Int)=_;exact zQ (by rw[aP,F];rfl)};have H:Fi (s.1.map D.ints).length (c:Int)=some c:=by{unfold Fi;rw[au (by omega),au (by rw[ak,U.len];omega),bH]};refine⟨p,q,.ln C (.JE (bj (vr G rfl rfl) A) (by cases d<;>rfl) (.xF (n:=c) (fF rfl rfl rfl) rfl rfl H (.JE (fF rfl rfl rfl) rfl .nil))) ?_⟩;rw[JI];exact B
theorem FH:∀(l L) (rows) (t) (o j k i),t+l.length<=6->CN.zP rows L t->CM.Sm L->CM.Sm l->∃w A x y,Ex GG (.lp (.nm 2) VY (l.map D.ints)) [d0,Ow rows,Op o,Op j,Op k,none,Op i] (.nx [d0,Ow (l.foldl Vf rows),Op w,Op A,Op x,none,Op y])|[],L,rows,t,o,j,k,i,_,_,_,_=>⟨o,j,k,i,.lz⟩|v::l,L,rows,t,o,j,k,i,G,S,B,C=>by have m:=C v ag;rw[aI] at G;obtain⟨p,q,J⟩:=Bq (by omega) S (d0:=d0) (d2:=Ls v) 6 0 (rows,v) k i rfl (CN.BW S (λu n=>(B u n).1) m.1 m.2);obtain⟨a,b,c,d,M⟩:=FH (d0:=d0) l (L++[v]) (Vf rows v) (t+1) (some (.ints v)) (some (.ints ((fE 0 6).foldl zW (rows,v)).2)) p q (by lia) (Mv S B m.1 m.2) (λu n=>by rcases cz.mp n with z|z;{exact B u z};.rw[bB.mp z];exact m) (λu n=>C u (af _ n));refine⟨a,b,c,d,.ln (i7:=[d0,Ow rows,Ls v,Op j,Op k,none,Op i]) (by cases o<;>rfl) (.JE rfl (by cases j<;>rfl) (.fr rfl J .nil)) ?_⟩;rw[cA];exact M
def k23(l:List (List Int))(h:l.length<=6)(n:CM.Sm l):GG.d3 23 [.rows l]=some (.rows (nP l)):=kP<|by obtain⟨a,b,c,d,o⟩:=FH (d0:=Rs l) l [] _ 0 none none none none Eg CN.Co (λu m=>by cases m) n;have k:ev GG (.lc Kg (.nm 5) HV [5]) [Rs l,none,none,none,none,none,none]=some (.lst (([2,3,5,7,11,13]:List Int).map λ_=>D.ints bI)):=pI (f:=D.int) (NZ rfl) λx _=>⟨_,rfl,bj DN k3⟩;exact⟨_,.own k rfl (.fr (ig rfl) o (.ret rfl))⟩
def k24(l:List (List Int))(h:l.length<=6)(m:CM.Sm l):GG.d3 24 [.rows l]=some (.int (Yy l)):=kP<|by have S:=wx m;refine⟨_,.JE (bj (dg rfl) (k23 l h m)) rfl (.ret (iG (dg (Ki (f:=λi:Nat=>D.int (i:Nat)) (g:=λi:Nat=>D.int (i:Nat)) (p:=λc=>fU .ne (a0 (CM.Rw (nP l) c) c) 0) Wg λc b=>⟨_,rfl,?_,λ_=>rfl⟩)) ?_))⟩;{have b:c<6:=by{simpa using b};have s:(nP l)[c]?=some (CM.Rw (nP l) c):=by{show _=some ((nP l).getD c bI);rw[aA,ai (by rw[S.len];exact b)];rfl};exact hC (fF (fF rfl rfl (qd s)) rfl (eM (i0 (S.row c b).len b))) rfl};.rw[Ox,ak,<-S.rank m];congr 4;apply dC;intro c _;simp[fU]
def LD:∀(n k:Nat) (o),∃i,Ex GG (.wl (.cmp .ne 3 (cI 0)) W8) [d0,d1,I k,I n,Op o] (.nx [d0,d1,I (jL n k:Nat),I 0,Op i]):=by intro n;induction n using QB with|ind n j=>intro k o;rcases gX n with rfl|l;{rw[Nat.gcd_zero_left];exact⟨o,.wz rfl⟩};.obtain⟨i,m⟩:=j (k % n) (oF _ l) n (some (.int (k % n:Nat)));refine⟨i,.wn (eT rfl rfl (ON.mpr (by omega))) (.JE (Bh rfl rfl (by omega)) (by cases o<;>rfl) (.JE rfl rfl (.JE rfl rfl .nil))) ?_⟩;rw[pA,Nat.gcd_rec];exact m
def k25(a b):GG.d3 25 [.int a,.int b]=some (.int (jL b.natAbs a.natAbs:Nat)):=kP<|by obtain⟨o,e⟩:=LD (d0:=I a) (d1:=I b) b.natAbs a.natAbs none;exact⟨_,.JE (iG (dg rfl) (se _)) rfl (.JE (iG (dg rfl) (se _)) rfl (.kF e (.ret rfl)))⟩
end
theorem zj{a:Type}(f):∀(l:List a) (k),gx k (l.map f)=(l.zipIdx k).map λp=>D.tup [.int (p.2:Nat),f p.1]|[],k=>rfl|x::l,k=>by rw[aX,gx,zj f l (k+1)];rfl
section
abbrev Y4:S:=qq6
theorem zC{rows L:List bP}{t}(ht:t<=6)(S:CN.zP rows L t){d0 d1}:∀(f c) (v) (m:Nat) (N o5 y),f+c=6->v.length=6->CM.Bd (2^(4+2310*c)) v->m<=2^(2310*c)->
  match tX f c v (CN.s6 rows) with
  |none=>∃B,Ex GG (.lp (.tp [4,5]) Y4 (gx c ((rows.drop c).map D.ints))) [d0,d1,I m,Ls v,Op N,Op o5,Op y] (.rt (.int 0) B)
  |some k=>∃v' o4' o5' o6',Ex GG (.lp (.tp [4,5]) Y4 (gx c ((rows.drop c).map D.ints))) [d0,d1,I m,Ls v,Op N,Op o5,Op y] (.nx [d0,d1,I (m*k:Nat),Ls v',Op o4',Op o5',Op o6'])
 |0,c,v,m,N,o5,y,e,hv,bv,hm=>by
  have:rows.drop c=[]:=gR (by rw[S.len];simp_all)
  rw[this]
  delta tX
  refine⟨v,N,o5,y,?_⟩
  rw[kI]
  exact .lz
 |f+1,c,v,m,N,o5,y,e,hv,bv,hm=>by
  have x:c<6:=by omega
  have o:=S.row c x
  have hg:rows[c]?=some (CM.Rw rows c):=by
   show _=some (rows.getD c bI)
   rw[aA,ai (by rw[S.len];exact x)]
   rfl
  have hd:rows.drop c=CM.Rw rows c::rows.drop (c+1):=by
   have:=mE (l:=rows) (i:=c) (by rw[S.len];exact x)
   rw[this]
   rw[ai (by rw[S.len];exact x)] at hg
   rw[bA hg]
  have hb:fO (.tp [4,5]) (.tup [.int (c:Nat),.ints (CM.Rw rows c)]) [d0,d1,I m,Ls v,Op N,Op o5,Op y]=some [d0,d1,I m,Ls v,I c,Ls (CM.Rw rows c),Op y]:=by cases N<;>cases o5<;>rfl
  rw[hd,aX,gx]
  unfold tX
  rw[CN.FF rows x]
  have C:∀{a:Nat} {o:Option D},ev GG (.ix 3 4) [d0,d1,I a,Ls v,I c,Ls (CM.Rw rows c),Op o]=some (.int (a0 v c)):=fF rfl rfl (eM (i0 hv x))
  have F:∀{a:Nat} {o:Option D},ev GG (.ix 5 4) [d0,d1,I a,Ls v,I c,Ls (CM.Rw rows c),Op o]=some (.int (a0 (CM.Rw rows c) c)):=fF rfl rfl (eM (i0 o.len x))
  by_cases z:a0 v c=0
  ·rw[au z]
   have G:=zC ht S (d0:=d0) (d1:=d1) f (c+1) v m (some (.int c)) (some (.ints (CM.Rw rows c))) y (by lia) hv (bv.mono (CM.ly (by lia))) (aM hm (CM.ly (by lia)))
   have body:Ex GG (.st Y4) [d0,d1,I m,Ls v,I c,Ls (CM.Rw rows c),Op y] (.nx [d0,d1,I m,Ls v,I c,Ls (CM.Rw rows c),Op y]):=.iff (eF C rfl (Bt.mpr z)) .nil .nil
   cases q:tX f (c+1) v (CN.s6 rows) with
   |none=>
    rw[q] at G
    obtain⟨B,M⟩:=G
    exact⟨B,.ln hb body M⟩
   |some k=>
    rw[q] at G
    obtain⟨a1,a2,a3,a4,M⟩:=G
    exact⟨a1,a2,a3,a4,.ln hb body M⟩
  ·rw[ax z]
   unfold CM.RR
   by_cases H:a0 (CM.Rw rows c) c=0
   ·rw[au H]
    exact⟨_,.lr hb (.fH (eT C rfl (ON.mpr z)) (.fH (eT F rfl (xk.mpr H)) (.ret rfl) gq) gq)⟩
   ·rw[ax H]
    dsimp only
    obtain⟨t1,t2,t3⟩:=CM.ui H z
    generalize hT:(a0 (CM.Rw rows c) c).natAbs/jL (a0 (CM.Rw rows c) c).natAbs (a0 v c).natAbs=T at*
    have hr:=o.bd c x
    have J:(a0 (CM.Rw rows c) c).natAbs<=2^2309:=aM hr (CM.ly (CN.JQ t ht c x))
    have hT9:T<=2^2309:=by rw[<-hT];exact aM (ls ..) J
    have Tr:T<=(a0 (CM.Rw rows c) c).natAbs:=by rw[<-hT];exact ls ..
    have fe:((T:Int)*a0 v c).fdiv (a0 (CM.Rw rows c) c)=(T:Int)*a0 v c/a0 (CM.Rw rows c) c:=Int.fdiv_eq_ediv_of_dvd t2
    have hv9:=bv c x
    have Qle:((T:Int)*a0 v c/a0 (CM.Rw rows c) c).natAbs<=(a0 v c).natAbs:=by
     obtain⟨q,hq⟩:=t2
     rw[hq,nB _ H]
     have e1:T*(a0 v c).natAbs=(a0 (CM.Rw rows c) c).natAbs*q.natAbs:=by
      have:=ip mj hq
      rw[cZ,cZ,bC] at this
      exact this
     have e2:(a0 (CM.Rw rows c) c).natAbs*q.natAbs<=(a0 (CM.Rw rows c) c).natAbs*(a0 v c).natAbs:=by
      rw[<-e1]
      exact aZ _ Tr
     exact Aj e2 (by omega)
    have bv':CM.Bd (2^(4+2310*(c+1))) (hX T v (-((T:Int)*a0 v c/a0 (CM.Rw rows c) c)) (CM.Rw rows c)):=λi hi=>by
     rw[CM.dc _ _ _ _ hi]
     have h1:=bv i hi
     have h2:=aM (o.bd i hi) (CM.ly (CN.JQ t ht c x))
     generalize (T:Int)*a0 v c/a0 (CM.Rw rows c) c=Q at*
     have x1:((T:Int)*a0 v i).natAbs<=2^2309*2^(4+2310*c):=by
      rw[cZ,bC]
      exact cE hT9 h1
     have x2:(-Q*a0 (CM.Rw rows c) i).natAbs<=2^(4+2310*c)*2^2309:=by
      rw[cZ,mf]
      exact cE (by grind) h2
     have e3:2^(4+2310*(c+1))=2^2309*2^(4+2310*c)*2:=by
      rw[<-gP,<-gh]
      congr 1
      lia
     rw[cN (2^(4+2310*c))] at x2
     generalize 2^2309*2^(4+2310*c)=Z at*
     generalize -Q*a0 (CM.Rw rows c) i=Y at*
     generalize (T:Int)*a0 v i=X at*
     rw[e3]
     omega
    have hm':m*T<=2^(2310*(c+1)):=by
     refine aM (cE hm hT9) ?_
     rw[<-gP]
     exact CM.ly (by lia)
    have G:=zC ht S (d0:=d0) (d1:=d1) f (c+1) _ (m*T) (some (.int c)) (some (.ints (CM.Rw rows c))) (some (.int T)) (by lia) (CM.bZ ..) bv' hm'
    have fm:gZ (m:Int):=l8 (K:=2310*c) (by rw[bC];exact hm) (by omega)
    have fT:gZ (T:Int):=l8 (K:=2309) (by rw[bC];exact hT9) JN
    have fv:gZ (a0 v c):=l8 hv9 (by omega)
    have gne:(jL (a0 (CM.Rw rows c) c).natAbs (a0 v c).natAbs)≠0:=by
     have:=Cz (a0 v c).natAbs (by omega:0<(a0 (CM.Rw rows c) c).natAbs)
     omega
    have gle:jL (a0 (CM.Rw rows c) c).natAbs (a0 v c).natAbs<=2^2309:=aM (Nat.gcd_le_left _ (by omega)) J
    have eT6:ev GG Xj [d0,d1,I m,Ls v,I c,Ls (CM.Rw rows c),Op y]=some (.int T):=by
     refine(KN (iG (dg F) (se _)) (bj (gd C F) (k25 _ _)) (by omega) (zE (K:=2309) (by rw[bC];exact gle) (by omega) JN)).trans ?_
     rw[mM,hT]
    have body:Ex GG (.st Y4) [d0,d1,I m,Ls v,I c,Ls (CM.Rw rows c),Op y] (.nx [d0,d1,I (m*T:Nat),Ls (hX T v (-((T:Int)*a0 v c/a0 (CM.Rw rows c) c)) (CM.Rw rows c)),I c,Ls (CM.Rw rows c),I T]):=by
     refine .Jn (eT C rfl (ON.mpr z)) (.iff (eF F rfl (mR.mpr H)) .nil (.JE eT6 (by cases y<;>rfl) (.JE (jf rfl rfl fm fT) rfl (.JE (bj (Bk rfl rfl (oR (KN (jf rfl (fF rfl rfl (eM (i0 hv x))) fT fv) (fF rfl rfl (eM (i0 o.len x))) H (zE J H JN))) rfl) (k4 T _ v (CM.Rw rows c) _ _ rfl rfl hv o.len fT (by rw[fe];exact l8 (K:=4+2310*c) (by rw[mf];omega) (by omega)) (vd hv bv (by omega)) (vd o.len o.bd (bO (CN.JQ t ht c x) JN)))) rfl ?_)))) .nil
     rw[fe]
     exact .nil
    cases q:tX f (c+1) (hX T v (-((T:Int)*a0 v c/a0 (CM.Rw rows c) c)) (CM.Rw rows c)) (CN.s6 rows) with
    |none=>
     rw[q] at G
     obtain⟨B,M⟩:=G
     exact⟨B,.ln hb body M⟩
    |some k=>
     rw[q] at G
     obtain⟨a1,a2,a3,a4,M⟩:=G
     refine⟨a1,a2,a3,a4,.ln hb body ?_⟩
     rw[<-cR]
     exact M
def k26(x:List Int)(l:List (List Int))(j:x.length=6)(o:CM.Bd 16 x)(h:l.length<=6)(e:CM.Sm l):GG.d3 26 [.ints x,.rows l]=some (.int ((Ak l x).getD 0)):=kP<|by have S:=wx e;have c:=zC h S (d0:=Ls x) (d1:=Rs l) 6 0 x 1 none none none rfl j o JN;rw[S.round e j] at c;have i:ev GG (.DW (.cM 23 (A1 1))) [Ls x,Rs l,I 1,Ls x,none,none,none]=some (.lst (gx 0 ((nP l).map D.ints))):=R0 (bj (dg rfl) (k23 l h e)) rfl;cases q:Ak l x with|none=>rw[q] at c;obtain⟨g,m⟩:=c;exact⟨g,.JE rfl rfl (.JE rfl rfl (.QR i m gq))⟩|some k=>rw[q] at c;obtain⟨r,u,s,t,m⟩:=c;rw[qy] at m;exact⟨_,.JE rfl rfl (.JE rfl rfl (.fr i m (.ret rfl)))⟩
def k27(a b:List Int)(l:List (List Int))(i:az a=true)(g:az b=true)(h:l.length<=6)(o:CM.Sm l):GG.d3 27 [.ints a,.ints b,.rows l]=some (.bl (U9 l a b)):=kP<|by refine⟨_,.ret ((hC (bj (gd (bj (Bk rfl rfl (oR rfl) rfl) (k4 1 (-1) a b _ _ rfl rfl (CM.bX i) (CM.bX g) uP vB (gy i) (gy g))) rfl) (k26 (cf a b) l (CM.bZ ..) (pU (CM.cw i) (CM.cw g)) h o)) rfl).trans ?_)⟩;congr 2;unfold U9;cases Ak l (cf a b) with|none=>rfl|some k=>rw[b0,xk];simp;lia
theorem BS{l:List (List Int)}(p:CM.Sm l)(B:∀k,1<=k->k<=100->∀z∈kD k,gZ z){d0}:∀(ks:List Nat) (n h),(∀k∈ks,1<=k/\k<=100)->
  match ks.find? (tY l) with
  |some k=>∃b,Ex GG (.lp (.nm 2) Y2 (ks.map λ(k:Nat)=>D.int (k:Nat))) [d0,Rs l,Op n,Op h,none] (.rt (.int k) b)
  |none=>∃b,Ex GG (.lp (.nm 2) Y2 (ks.map λ(k:Nat)=>D.int (k:Nat))) [d0,Rs l,Op n,Op h,none] (.nx b)
 |[],n,h,_=>⟨_,.lz⟩
 |k::ks,n,h,A=>by
  obtain⟨k1,k2⟩:=A k ag
  have o:=BS p B (d0:=d0) ks (some (.int k)) (some (.ints (kD k))) λj F=>A j (af _ F)
  have v:fO (.nm 2) (.int (k:Nat)) [d0,Rs l,Op n,Op h,none]=some [d0,Rs l,I k,Op h,none]:=by cases n<;>rfl
  have G:(kD k).length=6:=by rfl
  have t:ev GG XM [d0,Rs l,I k,Ls (kD k),none]=some (.bl (tY l k)):=by
   refine qk ((iG (dg (pI (f:=D.ints) (g:=λx=>D.bl (fU .eq (xf (kD k) x) 0)) (xs:=l) (ig rfl) λx m=>⟨_,rfl,hC (bj (gd rfl rfl) (k5 _ x G (p x m).1 (B k k1 k2) (kC (p x m).1 (p x m).2 JN))) rfl⟩)) all_map).trans ?_)
   congr 2
  rw[oH,aX]
  have y:ev GG (.cM 21 (A1 2)) [d0,Rs l,I k,Op h,none]=some (.ints (kD k)):=bj (dg rfl) (k21 k k1 k2)
  cases q:tY l k with
  |true=>
   rw[q] at t
   exact⟨_,.lr v (.JE y (by cases h<;>rfl) (.fH t (.ret rfl) gq))⟩
  |false=>
   rw[q] at t
   dsimp only
   have i:Ex GG (.st Y2) [d0,Rs l,I k,Op h,none] (.nx [d0,Rs l,I k,Ls (kD k),none]):=.JE y (by cases h<;>rfl) (.iff t .nil .nil)
   cases w:ks.find? (tY l) with
   |some j=>
    rw[w] at o
    obtain⟨b,m⟩:=o
    exact⟨b,.ln v i m⟩
   |none=>
    rw[w] at o
    obtain⟨b,m⟩:=o
    exact⟨b,.ln v i m⟩
def NR:∀k,1<=k->k<=100->∀z∈kD k,gZ z:=λk s r z hz=>by unfold kD at hz;obtain⟨i,hi,rfl⟩:=bg.mp hz;have hi:i<6:=by{simpa using hi};have st:∀u v:Nat,0<v->u<2^8->Rr u v k<=800:=λu v q h=>by{unfold Rr;have o:u^(2*k)/v^(2*k)<2^1600:=by{refine bO (ls ..) (aJ (rl h (by omega)) ?_);rw[<-qA];exact dI JN (by lia)};by_cases z:u^(2*k)/v^(2*k)=0;{rw[z];decide};.have:=(gj z).mpr o;lia};have h:∀i,i<6->bQ (kK i)<2^8/\cO (kK i)<2^8:=zv;have s1:=st (bQ (kK i)) (cO (kK i)) (CM.JP _) (h i hi).1;have s2:=st (cO (kK i)) (bQ (kK i)) (CM.j3 _) (h i hi).2;unfold Ji;split<;>exact cp (by omega)
def LU:∀n,n<=101->(aj (101 -max n 1)).map (λi=>max n 1+i)=(aj 101).filter λ(k:Nat)=>decide (1<=k)&&decide (n<=k):=by decide+kernel
def k28(n)(l:List (List Int))(L:0<=n)(H:n<=1000000000000000000)(C:CM.Sm l):GG.d3 28 [.int n,.rows l]=some (.int ((Dg l n.toNat).getD 0)):=kP<|by obtain⟨n,rfl⟩:∃m:Nat,n=m:=⟨n.toNat,by lia⟩;rw[bH];have F:(aj (101 -max n 1)).map (λi=>max n 1+i)=(aj 101).filter λ(k:Nat)=>decide (1<=k)&&decide (n<=k):=by{by_cases h:n<=101;{exact LU n h};.have:101 -max n 1=0:=by{grind};rw[this];symm;apply oA.mpr;intro k w;have:k<101:=by{simpa using w};dsimp;lia};have A:ev GG W2 [I n,Rs l,none,none,none]=some (.lst (((aj 101).filter λ(k:Nat)=>decide (1<=k)&&decide (n<=k)).map λ(k:Nat)=>D.int (k:Nat))):=by{have B:ev GG (.bi .max2 (A2 0 (cI 1))) [I n,Rs l,none,none,none]=some (.int ((max n 1:Nat):Int)):=iG (gd rfl rfl) (Af n 1);rw[Kn B rfl];show o7 ((max n 1:Nat):Int) 101 1=_;have y:lP ((max n 1:Nat):Int) 101 1=101 -max n 1:=by{unfold lP;split<;>grind};unfold o7;rw[au ⟨by decide,by decide,by lia,by lia,by decide,by decide,by rw[y];have:aG=16777216:=rfl;lia⟩,y,pT,<-F,aV];congr 2;apply dS;intro i _;show D.int _=D.int _;congr 1;push_cast;simp_all};have dl:=BS C NR (d0:=I n) ((aj 101).filter λ(k:Nat)=>decide (1<=k)&&decide (n<=k)) none none λk w=>by{have:=bV.mp w;simp at this;lia};have G:Dg l n=((aj 101).filter λ(k:Nat)=>decide (1<=k)&&decide (n<=k)).find? (tY l):=rfl;rw[<-G] at dl;cases q:Dg l n with|some k=>rw[q] at dl;obtain⟨p,t⟩:=dl;exact⟨p,.QR A t gq⟩|none=>rw[q] at dl;obtain⟨p,t⟩:=dl;exact⟨_,.fr A t (.ret rfl)⟩
end
theorem lE:∀{l},z∈nD l↔z∈l|[]=>Iff.rfl|x::r=>by dsimp only[nD];split;{next h=>have h:x∈r:=by{simpa using h};rw[lE,aD];exact⟨.inr,λq=>q.elim (λe=>e▸h) id⟩};.rw[aD,aD,lE]
theorem qQ:∀l:List bP,(nD l).Nodup|[]=>.nil|x::r=>by dsimp only[nD];split;{exact qQ r};.next h=>refine ia.mpr ⟨λq=>h ?_,qQ r⟩;simpa using lE.mp q
def wt(C:Nat)(x:bP):Int:=((C*bQ x/cO x:Nat):Int)
def Wt(C:Nat)(x:bP):Prop:=0<C/\x.length=6/\cO x∣C*bQ x
def BQ(h:Wt C x)(k:Wt C y):wt C x<wt C y↔bD x y=true:=by rw[CM.i9];obtain⟨v,_,m,o⟩:=h;obtain⟨_,_,n,t⟩:=k;have r:=CM.JP x;have u:=CM.JP y;unfold wt;rw[o,t,gF _ r,gF _ u,uI];have s:C*(bQ x*cO y)=cO x*cO y*m:=by{rw[<-cR,o];ac_rfl};have q:C*(bQ y*cO x)=cO x*cO y*n:=by{rw[<-cR,t];ac_rfl};constructor;{intro h;apply iS (a:=C);rw[s,q];exact yZ h (kG r u)};.intro h;apply iS (a:=cO x*cO y);rw[<-s,<-q];exact yZ h v
def Dn(h:Wt C x)(k:Wt C y)(e:wt C x=wt C y):x=y:=by refine CM.Bs h.2.1 k.2.1 ?_ ?_;{rw[<-kl,<-BQ h k];simp_all};.rw[<-kl,<-BQ k h];simp_all
def yi{l}(h:∀x∈l,Wt C x):((nD l).map (wt C)).Perm (kg (l.map (wt C))):=by refine tG ?_ λz=>?_;{rw[Ja,mK];refine dN (λ{x y} d f q e=>q ?_) (qQ l);exact Dn (h x (lE.mp d)) (h y (lE.mp f)) e};.simp only[bg,lE]
def Gf{l}(h:∀x∈l,Wt C x):(kg (l.map (wt C))).length=(nD l).length:=by rw[<-(yi h).length_eq,ak]
theorem uq:∀{l:List Int},l.Pairwise (·<·)->z∈l->l.findIdx (·==z)=(l.filter λy=>decide (y<z)).length|[],_,h=>by cases h|y::r,m,h=>by obtain⟨k,p⟩:=a8.mp m;rw[List.findIdx_cons,bU];by_cases e:y=z;{subst e;have:(r.filter λz=>decide (z<y))=[]:=oA.mpr λa o=>by{have:=k a o;simp;lia};simp[this]};.have hz:z∈r:=(aD.mp h).resolve_left λq=>e q.symm;have:=k z hz;have n:(y==z)=false:=by{simpa using e};rw[n,au (by simpa using this),aI,uq p hz];rfl
def Hv{l}(h:∀x∈l,Wt C x){x}(g:x∈l):(kg (l.map (wt C))).findIdx (·==wt C x)=((nD l).filter λy=>bD y x).length:=by rw[uq (ke _) (o9.mpr (cU g)),<-((yi h).filter _).length_eq,oE,ak];congr 1;apply dC;intro y i;rw[b0];simp only[Function.comp];rw[bz];exact BQ (h y (lE.mp i)) (h x g)
def cnt(l:List Int):Nat:=(kg l).length
theorem GJ:∀{l},l.Pairwise (·<·)->(tQ x l).length=if x∈l then l.length else l.length+1|[],_=>by rfl|y::r,h=>by obtain⟨p,o⟩:=a8.mp h;unfold tQ;split;{next t=>rw[ax];{rfl};.intro q;rcases aD.mp q with e|q;{omega};.have:=p x q;lia};.split;{next e=>rw[au (by rw[e];exact ag)]};.next u s=>rw[aI,GJ o,aI];by_cases q:x∈r;{rw[au q,au (af _ q)]};.rw[ax q,ax λz=>q ((aD.mp z).resolve_left s)]
def cnt_cons(x)(l):cnt (x::l)=if x∈l then cnt l else cnt l+1:=by show(tQ x (kg l)).length=_;rw[GJ (ke l)];simp only[o9];rfl
theorem Ge(b):∀a:List Int,∃k,cnt (a++b)+k=cnt a+cnt b/\(k=0↔∀z∈a,z∉b)|[]=>⟨0,by show cnt b+0=0+cnt b;simp_all,by simp⟩|x::a=>by obtain⟨k,o,n⟩:=Ge b a;rw[List.cons_append,cnt_cons,cnt_cons];by_cases h:x∈a;{rw[au h,au (gg _ h)];refine⟨k,o,n.trans ⟨λq z hz=>?_,λq z hz=>q z (af _ hz)⟩⟩;rcases aD.mp hz with rfl|hz;{exact q z h};.exact q z hz};.rw[ax h];by_cases l:x∈b;{rw[au (cS _ l)];exact⟨k+1,by lia,⟨λq=>by contradiction,λq=>absurd l (q x ag)⟩⟩};.rw[ax λq=>(cz.mp q).elim h l];refine⟨k,by lia,n.trans ⟨λq z hz=>?_,λq z hz=>q z (af _ hz)⟩⟩;rcases aD.mp hz with rfl|hz;{exact l};.exact q z hz
theorem AO:∀L:List (List Int),∃k,cnt L.flatten+k=(L.map cnt).sum/\(k=0↔L.Pairwise λa b=>∀z∈a,z∉b)|[]=>⟨0,rfl,by simp⟩|a::L=>by obtain⟨k,n,m⟩:=AO L;obtain⟨j,o,l⟩:=Ge L.flatten a;rw[mL,aX,rA,a8];refine⟨j+k,by lia,?_⟩;have:j+k=0↔j=0/\k=0:=Eg;rw[this,l,m];refine and_congr_left λ_=>⟨λq b f z hz w=>q z hz (M1.mpr ⟨b,f,w⟩),λq z hz w=>?_⟩;obtain⟨b,f,w⟩:=M1.mp w;exact q b f z hz w
def tz{N Q:Nat}(l:1<=N)(h:k.natAbs<=N*Q):(k/(N:Int)).natAbs<=Q:=by have i:k<=(N*Q:Nat):=by{omega};have j: -((N*Q:Nat):Int)<=k:=by{omega};have a:k/(N:Int)<=Q:=by{have:=Ny (c:=(N:Int)) (by omega) i;rw[show((N*Q:Nat):Int)=(N:Int)*(Q:Int) by push_cast;rfl,nB _ (by omega)] at this;exact this};have b: -(Q:Int)<=k/(N:Int):=by{have:=Ny (c:=(N:Int)) (by omega) j;rw[show -((N*Q:Nat):Int)=(N:Int)*(-(Q:Int)) by push_cast;rw[Yx],nB _ (by omega)] at this;exact this};omega
def Bz(K:CM.Lg s):∀r∈s,r.length=6/\CM.Bd 8 r:=K.sc.snd
def tj(K:CM.Lg s)(i):(CM.note s i).length=6/\CM.Bd 8 (CM.note s i):=by refine⟨CM.Mh (λr m=>(Bz K r m).1) i,?_⟩;unfold CM.note;split;{intro j f;rw[CM.cT f];decide};.rw[aA];cases e:s[i -1]? with|none=>intro j f;rw[Jd,CM.cT f];decide|some r=>exact(Bz K r (cx e)).2
def Bl(K:CM.Lg s):(bJ s).length=6/\CM.Bd 8 (bJ s):=by rw[CM.l7];exact tj K _
def wJ(K:CM.Lg s){k}{Q}(h:(k/(s.length:Int)).natAbs<=Q):CM.Bd (8+Q*8) (aL s k):=λi hi=>by rw[CM.sX,CM.dc _ _ _ _ hi];have g:=(tj K (k %(s.length:Int)).toNat).2 i hi;have e:=(Bl K).2 i hi;have j:(k/(s.length:Int)*a0 (bJ s) i).natAbs<=Q*8:=by{rw[cZ];exact cE h e};omega
def floor_le{rows:List (List Int)}{r}(f:r∈rows){i}(hi:i<6):a0 (ck rows) i<=a0 r i:=by have e:a0 (ck rows) i=rows.foldl (λ(m:Int) (x:bP)=>min m (a0 x i)) (a0 (rows.headD bI) i):=by{delta ck a0;rw[aA,aP,dh hi];rfl};rw[e];cases rows with|nil=>cases f|cons l n=>rw[vA rfl];have:=(px (n.map λx=>a0 x i) (a0 l i)).2;rcases aD.mp f with rfl|f;{exact this.1};.exact this.2 _ (cU f)
abbrev GA(s:jY):List bP:=(aj (2*s.length)).map λ(k:Nat)=>aL s (k:Int)
abbrev M6(s:jY):List bP:=(aj s.length).map λ(i:Nat)=>hX (-1) (aL s (i:Int)) 0 (aL s (i:Int))
def cst(s:jY):Nat:=CM.pw λi=>(-(a0 (ck (GA s)) i) -a0 (ck (M6 s)) i).toNat
def Bu(h:1<=s.length){j}(c:j<6):a0 (aL s ((0:Nat):Int)) j=0:=by have:=CM.iC (s:=s) c 0 (i:=0) h;rw[show(0:Int)*(s.length:Int)+((0:Nat):Int)=((0:Nat):Int) by simp_all] at this;rw[this];have e:a0 (CM.note s 0) j=0:=CM.cT c;simp_all
def yr(K:CM.Lg s){i j}(hi:i<s.length)(y:j<2*s.length):Wt (cst s) (cf (aL s (j:Int)) (aL s (i:Int)))/\wt (cst s) (cf (aL s (j:Int)) (aL s (i:Int)))=(bQ (cf (aL s (j:Int)) (ck (GA s))):Int)*(bQ (cf (hX (-1) (aL s (i:Int)) 0 (aL s (i:Int))) (ck (M6 s))):Int):=by have k:cst s*bQ (cf (aL s (j:Int)) (aL s (i:Int)))=cO (cf (aL s (j:Int)) (aL s (i:Int)))*(bQ (cf (aL s (j:Int)) (ck (GA s)))*bQ (cf (hX (-1) (aL s (i:Int)) 0 (aL s (i:Int))) (ck (M6 s)))):=by{simp only[CM.gG,CM.i5,cst,<-CM.mw];apply CM.eD;intro c d;have u:aL s (j:Int)∈GA s:=bg.mpr ⟨j,by simpa using y,rfl⟩;have v:aL s ((0:Nat):Int)∈GA s:=bg.mpr ⟨0,by simp;omega,rfl⟩;have t:hX (-1) (aL s (i:Int)) 0 (aL s (i:Int))∈M6 s:=bg.mpr ⟨i,by simpa using hi,rfl⟩;have w:hX (-1) (aL s ((0:Nat):Int)) 0 (aL s ((0:Nat):Int))∈M6 s:=bg.mpr ⟨0,by simp;omega,rfl⟩;have z:=floor_le u d;have x:=floor_le v d;have r:=floor_le t d;have q:=floor_le w d;rw[Bu K.ne d] at x;rw[CM.dc _ _ _ _ d] at r q;rw[Bu K.ne d] at q;rw[CM.gr _ _ d,CM.gr _ _ d,CM.gr _ _ d,CM.dc _ _ _ _ d];omega};refine⟨⟨CM.zR _,CM.bZ ..,_,k⟩,?_⟩;unfold wt;rw[k,gF _ (CM.JP _)];push_cast;rfl
def i4(K:CM.Lg s){g}(h:g<=s.length):∀x∈bK s g,Wt (cst s) x:=λx e=>by obtain⟨i,hi,rfl⟩:=bg.mp e;have hi:i<s.length:=by{simpa using hi};exact(yr K hi (by lia)).1
def jT(s)(g):(bK s g).length=s.length:=by simp[bK]
def spn(up a:List Int)(g:Nat):List Int:=a.zipIdx.map λp=>up.getD (p.2+g) 0*p.1
def D5(K:CM.Lg s){g}(n:g<=s.length):spn (aO (c5 (GA s))) (aO (c5 (M6 s))) g=(bK s g).map (wt (cst s)):=by apply eW;intro i;delta spn bK;by_cases hi:i<s.length;{have k:(aO (c5 (M6 s)))[i]?=some (bQ (cf (hX (-1) (aL s (i:Int)) 0 (aL s (i:Int))) (ck (M6 s))):Int):=by{simp[aO,c5,hi,cP]};have l:(aO (c5 (GA s)))[i+g]?=some (bQ (cf (aL s ((i+g:Nat):Int)) (ck (GA s))):Int):=by{have:i+g<2*s.length:=by{lia};simp[aO,c5,this,cP]};rw[aP,E9,k,aP,aP,dh hi];simp only[oe,fA];rw[(yr K hi (by lia:i+g<2*s.length)).2,aA,l];rfl};.rw[bF (by simp[aO,c5];omega),bF (by simp;omega)]
def t5(s:jY):List (List Int):=(aj s.length).map λg=>(bK s (g+1)).map (wt (cst s))
def f6(l):II .len [.rows l]=some (.int l.length):=by show some (D.int ((l.map D.ints).length:Nat))=_;rw[ak]
def dr(l):II .len [.ints l]=some (.int l.length):=by show some (D.int ((l.map D.int).length:Nat))=_;rw[ak]
def Fz{x}(h:l.getLast?=some x):yB l (-1)=some x:=by rw[List.getLast?_eq_getElem?] at h;have e:=(aQ.mp h).1;delta yB Fi;rw[ax JN,au (by lia),show((-1:Int)+(l.length:Int)).toNat=l.length -1 by grind];exact h
def KQ{s:jY}(h:1<=s.length):SM (.rows s) (.int (-1))=some (.ints (bJ s)):=by refine Fz (x:=D.ints (bJ s)) ?_;rw[JB];unfold bJ;rw[y4];cases e:s.getLast? with|none=>rw[y6.mp e] at h;simp at h|some r=>rfl
section
def zi{n:Nat}(h:n<1000000){a b}{ρ}(o:ev GG a ρ=some (.int 1))(m:ev GG b ρ=some (.int ((n:Int)+1))):ev GG (.zV a b) ρ=some (.lst ((aj n).map λ(i:Nat)=>D.int ((i+1:Nat):Int))):=by (conv=>lhs;whnf);rw[o,m];show o7 1 ((n:Int)+1) 1=_;have l:lP 1 ((n:Int)+1) 1=n:=by{unfold lP;split<;>lia};have:aG=16777216:=rfl;unfold o7;rw[au (by rw[l];lia),l,pT];congr 2;apply dS;intro i _;congr 1;push_cast;lia
def Bf{n:Nat}(h:n<1000000){a}{ρ}(k:ev GG a ρ=some (.int n)):ev GG (.wq a) ρ=some (.lst ((aj n).map λ(i:Nat)=>D.int (i:Nat))):=by (conv=>lhs;whnf);rw[k];show o7 0 (n:Int) 1=_;have g:lP 0 (n:Int) 1=n:=by{unfold lP;split<;>simp_all};have:aG=16777216:=rfl;unfold o7;rw[au (by rw[g];lia),g,pT];congr 2;apply dS;intro i _;congr 1;simp_all
def T9(s:List (List Int))(k)(K:CM.Lg s)(w:k.natAbs<=900000):GG.d3 66 [.rows s,.int k]=some (.ints (aL s k)):=kP<|by have m:=K.ne;have p:=K.pre.most;have n0:(s.length:Int)≠0:=by{omega};have y:k.fmod (s.length:Int)=k %(s.length:Int):=yY _ (by omega);have v:k.fdiv (s.length:Int)=k/(s.length:Int):=dH _ Eg;have C:=ff k n0;have B:=fP k (show(0:Int)<s.length by lia);obtain⟨i,t⟩:∃i:Nat,k %(s.length:Int)=i:=⟨(k %(s.length:Int)).toNat,by lia⟩;have F:(k/(s.length:Int)).natAbs<=900000:=tz m (aM w (by have:=aZ 900000 m;omega));have r:=tj K i;have n:=Bl K;have h:∀{a b:Option Ent},ev GG uT [Rs s,I k,a,b]=some (.int s.length):=iG (dg rfl) (f6 s);have x:ev GG WZ [Rs s,I k,I (i:Nat),none]=some (.ints (CM.note s i)):=by{refine Cq (hC rfl rfl) (λq=>?_) λq=>?_;{have:i=0:=by{have:=xk.mp q;simp_all};subst this;exact bj DN k3};.have:i≠0:=by{have:=mR.mp q;simp_all};refine fF rfl (xN rfl rfl) ?_;rw[show((i:Int) -1)=((i -1:Nat):Int) by grind];refine qd ?_;unfold CM.note;rw[ax this,aA,ai (by grind)];rfl};have A:ev GG (.bin .mod 1 uT) [Rs s,I k,none,none]=some (.int (i:Nat)):=(Bh rfl h n0).trans (by rw[y,t]);have z:ev GG (.bin .fdiv 1 uT) [Rs s,I k,I (i:Nat),Ls (CM.note s i)]=some (.int (k/(s.length:Int))):=by{refine(KN rfl h n0 ?_).trans (by rw[v]);rw[bC];exact aJ ((gj Eg).mpr (bO p (by decide:24<2^5))) JN};have:=k4 1 (k/(s.length:Int)) (CM.note s i) (bJ s) (.ints (CM.note s i)) (.ints (bJ s)) rfl rfl r.1 n.1 uP (cp (by lia)) (kC r.1 r.2 JN) (kC n.1 n.2 JN);rw[CM.sX,t,bH];exact⟨_,.JE A rfl (.JE x rfl (.ret (bj (Bk rfl rfl z (fF rfl rfl (KQ m))) this)))⟩
abbrev XD(s:jY)(k:Int):Prop:=k.natAbs<=s.length*4000
def IW(K:CM.Lg s)(h:XD s k):k.natAbs<=96000:=aM h (aZ 4000 K.pre.most)
def XN(s:List (List Int))(k)(x:List Int)(K:CM.Lg s)(g:XD s k)(hx:az x=true):GG.d3 67 [.rows s,.int k,.ints x]=some (.bl (bD x (aL s k))):=kP<|by have i:=IW K g;refine⟨_,.ret ((hC (bj (gd (bj (gd rfl rfl) (T9 s k K (by lia))) rfl) (Vh (aL s k) x (.ints (aL s k)) (.ints x) rfl rfl (CM.jo s k) (CM.bX hx) (8+4000*8) 8 JN (wJ K (tz K.ne g)) (CM.cw hx))) rfl).trans ?_)⟩;congr 2;rw[b0,xk];exact wY
def pR(K:CM.Lg s){x}(m:az x=true):bD x (aL s ((s.length*2000:Nat):Int))=true/\bD x (aL s (-((s.length*2000:Nat):Int)))=false:=by have l:=CM.cw m;have e:∀q:Int,∀j,j<6->a0 (aL s (q*(s.length:Int)+((0:Nat):Int))) j=a0 (hX q (bJ s) 0 bI) j:=λq j h=>by{rw[CM.iC h q (show 0<s.length from K.ne),CM.gI _ _ h];have:a0 (CM.note s 0) j=0:=CM.cT h;simp_all};have k:∀q:Int,aL s (q*(s.length:Int)+((0:Nat):Int))=hX q (bJ s) 0 bI:=λq=>CM.ej (CM.jo ..) (CM.bZ ..) (e q);constructor;{rw[show((s.length*2000:Nat):Int)=((2000:Nat):Int)*(s.length:Int)+((0:Nat):Int) by push_cast;lia,k];exact CM.EN K.Vn l};.rw[show -((s.length*2000:Nat):Int)= -2000*(s.length:Int)+((0:Nat):Int) by push_cast;lia,k];exact CM.l6 (CM.BX K.Vn l)
def pz(K:CM.Lg s){x}{j k}(h:bD x (aL s j)=true)(f:bD x (aL s k)=false):k<j:=by apply Int.not_le.mp;intro z;by_cases e:j=k;{rw[e,f] at h;cases h};.rw[CM.jd h (CM.vX K.sc (show j<k by lia))] at f;cases f
abbrev Vr(i:Nat):E:=.tv (.cM 67 (A3 0 (.var i) 1))
def Pu{s:List (List Int)}{x:List Int}(K:CM.Lg s)(m:az x=true):∀(f h),1<=h->h<=s.length*4000->s.length*2000<=h*2^f->∃h':Nat,1<=h'/\h'<=s.length*4000/\bD x (aL s (h':Int))=true/\Ex GG (.wl (.nt (Vr 2)) Wm) [Rs s,Ls x,I h,none,none] (.nx [Rs s,Ls x,I h',none,none]):=by intro f;induction f with|zero=>intro h p r n;rw[Df,kI] at n;have P:bD x (aL s (h:Int))=true:=by{cases q:bD x (aL s (h:Int)) with|true=>rfl|false=>have:=pz K (pR K m).1 q;omega};refine⟨h,p,r,P,.wz ((pB (qk (bj (vr rfl rfl rfl) (XN s h x K (by show _<=_;simp_all) m)))).trans ?_)⟩;rw[P];rfl|succ f z=>intro h p r n;have l:ev GG (.nt (Vr 2)) [Rs s,Ls x,I h,none,none]=some (.bl (!bD x (aL s (h:Int)))):=pB (qk (bj (vr rfl rfl rfl) (XN s h x K (by show _<=_;simp_all) m)));cases q:bD x (aL s (h:Int)) with|true=>rw[q] at l;exact⟨h,p,r,q,.wz l⟩|false=>rw[q] at l;have F:=pz K (pR K m).1 q;have y:=aZ 4000 K.pre.most;obtain⟨h',B,w,A,v⟩:=z (2*h) (by lia) (by lia) (by rw[gh] at n;rw[cN 2 h,cR,cN 2];exact n);refine⟨h',B,w,A,.wn l (.JE (jf rfl rfl (cp JN) (cp (by grind))) rfl .nil) ?_⟩;rw[show((2:Int)*(h:Int))=((2*h:Nat):Int) by push_cast;rfl];exact v
def NX{s:List (List Int)}{x:List Int}{hi}(K:CM.Lg s)(m:az x=true):∀(f h),1<=h->h<=s.length*4000->s.length*2000<=h*2^f->∃h':Nat,1<=h'/\h'<=s.length*4000/\bD x (aL s (-(h':Int)))=false/\Ex GG (.wl (Vr 3) VR) [Rs s,Ls x,I hi,I (-(h:Int)),none] (.nx [Rs s,Ls x,I hi,I (-(h':Int)),none]):=by intro f;induction f with|zero=>intro h p r n;rw[Df,kI] at n;have P:bD x (aL s (-(h:Int)))=false:=by{cases q:bD x (aL s (-(h:Int))) with|false=>rfl|true=>have:=pz K q (pR K m).2;omega};refine⟨h,p,r,P,.wz ((qk (bj (vr rfl rfl rfl) (XN s _ x K (by show _<=_;simp_all) m))).trans ?_)⟩;rw[P]|succ f z=>intro h p r n;have l:ev GG (Vr 3) [Rs s,Ls x,I hi,I (-(h:Int)),none]=some (.bl (bD x (aL s (-(h:Int))))):=qk (bj (vr rfl rfl rfl) (XN s _ x K (by show _<=_;simp_all) m));cases q:bD x (aL s (-(h:Int))) with|false=>rw[q] at l;exact⟨h,p,r,q,.wz l⟩|true=>rw[q] at l;have F:=pz K q (pR K m).2;have y:=aZ 4000 K.pre.most;obtain⟨h',B,w,A,v⟩:=z (2*h) (by lia) (by lia) (by rw[gh] at n;rw[cN 2 h,cR,cN 2];exact n);refine⟨h',B,w,A,.wn l (.JE (jf rfl rfl (cp JN) (cp (by grind))) rfl .nil) ?_⟩;rw[show((2:Int)*(-(h:Int)))= -((2*h:Nat):Int) by push_cast;lia];exact v
abbrev B68:S:=(.JE 4 TJ (.ifs (Vr 4) (.JE 2 4 .nil) (.JE 3 4 .nil) .nil))
def Oo{s:List (List Int)}{x:List Int}(K:CM.Lg s)(O:az x=true):∀(f) (hi lo) (o),(hi -lo).toNat<=f->XD s hi->XD s lo->bD x (aL s hi)=true->bD x (aL s lo)=false->∃(d:Int) (n:Option D),bD x (aL s d)=false/\bD x (aL s (d+1))=true/\Ex GG (.wl Uz B68) [Rs s,Ls x,I hi,I lo,Op o] (.nx [Rs s,Ls x,I (d+1),I d,Op n]):=by intro f;induction f with|zero=>intro hi lo o M z A r p2;have:=pz K r p2;omega|succ f F=>intro hi lo o M z A r p2;have Q:=pz K r p2;by_cases q:hi -lo<=1;{have e:hi=lo+1:=by{lia};subst e;exact⟨lo,o,p2,r,.wz (eF (xN rfl rfl) rfl (NV.mpr (by omega)))⟩};.have N:(lo+hi).fdiv 2=(lo+hi)/2:=dH _ JN;have u:XD s ((lo+hi)/2):=by{show _<=_;have:hi.natAbs<=s.length*4000:=z;have:lo.natAbs<=s.length*4000:=A;omega};have t:∀{a b:Int},ev GG (Vr 4) [Rs s,Ls x,I a,I b,I ((lo+hi)/2)]=some (.bl (bD x (aL s ((lo+hi)/2)))):=qk (bj (vr rfl rfl rfl) (XN s _ x K u O));have L:ev GG Uz [Rs s,Ls x,I hi,I lo,Op o]=some (.bl true):=eT (xN rfl rfl) rfl (SG.mpr Eg);have H:ev GG TJ [Rs s,Ls x,I hi,I lo,Op o]=some (.int ((lo+hi)/2)):=(KN (jA rfl rfl) rfl JN JN).trans (by rw[N]);cases p:bD x (aL s ((lo+hi)/2)) with|true=>obtain⟨d,n,B,w,y⟩:=F ((lo+hi)/2) lo (some (.int ((lo+hi)/2))) (by grind) u A p p2;rw[p] at t;exact⟨d,n,B,w,.wn L (.JE H (by cases o<;>rfl) (.Jn t (.JE rfl rfl .nil) .nil)) y⟩|false=>obtain⟨d,n,B,w,y⟩:=F hi ((lo+hi)/2) (some (.int ((lo+hi)/2))) (by grind) z u r p;rw[p] at t;exact⟨d,n,B,w,.wn L (.JE H (by cases o<;>rfl) (.iff t (.JE rfl rfl .nil) .nil)) y⟩
def k68(s:List (List Int))(x:List Int)(K:CM.Lg s)(g:az x=true):GG.d3 68 [.rows s,.ints x]=some (.int (gK s x)):=kP<|by have A:=K.ne;have j:=K.pre.most;have k:s.length*2000<=1*2^16:=aM (aZ 2000 j) JN;have l:1<=s.length*4000:=by{lia};obtain⟨a,B,z,t,m⟩:=Pu K g 16 1 JN l k;obtain⟨b,w,C,n,p⟩:=NX (hi:=a) K g 16 1 JN l k;obtain⟨c,o,r,v,q⟩:=Oo K g _ (a:Int) (-(b:Int)) none (aB _) (by show _<=_;simp_all) (by show _<=_;simp_all) t n;obtain⟨d1,d2⟩:=CM.mQ K.sc (CM.cw g);have e:=CM.rG K.sc d1 d2 r v;rw[e];exact⟨_,.JE rfl rfl (.kF m (.JE rfl rfl (.kF p (.kF q (.ret rfl)))))⟩
def k69(s:List (List Int))(x:List Int)(K:CM.Lg s)(d:az x=true):GG.d3 69 [.rows s,.ints x]=some (.int (Cb.near s x)):=kP<|by have e:=CM.cw d;have k:=CM.bX d;obtain⟨d1,d2⟩:=CM.mQ K.sc e;have y:=pz K (pR K d).1 d1;have z:=pz K d2 (pR K d).2;have n:=aZ 2000 K.pre.most;have t:(gK s x).natAbs<=s.length*2001:=by{omega};have w:(gK s x+1).natAbs<=s.length*2001:=by{omega};have j:=wJ K (tz K.ne t);have i:=wJ K (tz K.ne w);have u:=T9 s (gK s x) K (by omega);have p:=T9 s (gK s x+1) K (by omega);have h:=CM.jo s (gK s x);have l:=CM.jo s (gK s x+1);have m:=k4 1 1 x x (.ints x) (.ints x) rfl rfl k k uP uP (gy d) (gy d);have r:=k4 1 1 (aL s (gK s x)) (aL s (gK s x+1)) (.ints (aL s (gK s x))) (.ints (aL s (gK s x+1))) rfl rfl h l uP uP (kC h j JN) (kC l i JN);have o:=Vh (rz x x) (rz (aL s (gK s x)) (aL s (gK s x+1))) (.ints (rz x x)) (.ints (rz (aL s (gK s x)) (aL s (gK s x+1)))) rfl rfl (CM.bZ ..) (CM.bZ ..) 16 _ JN (GI e e) (GI j i);refine⟨_,.JE (bj (gd rfl rfl) (k68 s x K d)) rfl (.JE (bj (Bk rfl rfl rfl rfl) m) rfl (.JE (bj (Bk rfl (bj (gd rfl rfl) u) rfl (bj (gd rfl (jA rfl rfl)) p)) r) rfl (.ret (Cq (hC (bj (gd rfl rfl) o) rfl) (λq=>(jA rfl rfl).trans ?_) λq=>?_))))⟩;{have q:=wY.mp (xk.mp q);rw[CM.FY K.sc e d1 d2,au q]};.have q:¬_:=mt wY.mpr (mR.mp q);rw[CM.FY K.sc e d1 d2,ax q];rfl
def k70(s:List (List Int))(k)(K:CM.Lg s)(p:k<s.length):GG.d3 70 [.rows s,.int k]=some (.rows (lW s k)):=kP<|by have h24:=K.pre.most;have l:∀j:Nat,j<=2*s.length->CM.Bd (8+2*8) (aL s (j:Int)):=λj q=>wJ K (tz K.ne (by omega));refine⟨_,.JE (bj (gd rfl rfl) (T9 s k K (by omega))) rfl (.ret ?_)⟩;show _=some (D.lst (((aj s.length).map λ(i:Nat)=>cf (aL s ((k+(i+1):Nat):Int)) (aL s (k:Int))).map D.ints));rw[aV];refine pI (zi (n:=s.length) (by lia) rfl (jA (iG (dg rfl) (f6 s)) rfl)) λi hi=>⟨_,rfl,?_⟩;have hi:i<s.length:=by{simpa using hi};have h:=T9 s ((k:Int)+((i+1:Nat):Int)) K (by omega);rw[show(k:Int)+((i+1:Nat):Int)=((k+(i+1):Nat):Int) by push_cast;omega] at h;refine bj (Bk rfl (bj (gd rfl (jA rfl rfl)) ?_) (oR rfl) rfl) (k4 1 (-1) _ _ (.ints (aL s ((k+(i+1):Nat):Int))) (.ints (aL s (k:Int))) rfl rfl (CM.jo ..) (CM.jo ..) uP vB (kC (CM.jo ..) (l (k+(i+1)) (by lia)) JN) (kC (CM.jo ..) (l k (by lia)) JN));rw[show(k:Int)+((i+1:Nat):Int)=((k+(i+1):Nat):Int) by push_cast;omega];exact h
end
abbrev P8(rows:List (List Int)):Prop:=rows≠[]/\∀r∈rows,r.length=6/\CM.Bd 100 r
def Cd(h:P8 rows):(ck rows).length=6/\CM.Bd 100 (ck rows):=by obtain⟨f,k⟩:=yc h.1 (λr d=>(h.2 r d).1) (P:=λx=>x.natAbs<=100) λr d x g=>by{obtain⟨i,hi,rfl⟩:=dj g;have m:=(h.2 r d).1;have:=(h.2 r d).2 i (by omega);have e:=i0 m (by omega:i<6);rw[ai hi] at e;rw[bA e];exact this};exact⟨f,λi hi=>k _ (DE f hi)⟩
def AI(h:P8 rows):∀r∈rows,gZ (bQ (cf r (ck rows)):Int):=λr b=>ma (pU (h.2 r b).2 (Cd h).2) JN
def yj(h:P8 rows):∀z∈aO (c5 rows),gZ z:=λz hz=>by obtain⟨n,e,rfl⟩:=bg.mp hz;obtain⟨r,c,rfl⟩:=bg.mp e;exact AI h r c
def mx:List Int->Int|[]=>0|x::r=>most x r
def mn:List Int->Int|[]=>0|x::r=>least x r
def v74(l:List (List Int)):Bool:=l.dropLast.all λa=>fU .le (cnt a:Int) 2
def XC(o:Cm)(l:List (List Int)):Bool:=(l.zip (l.drop 1)).all λp=>fU o (mx p.1) (mn p.2)
def v77(l:List (List Int)):Bool:=fU .eq (l.map λa=>(cnt a:Int)).sum (cnt l.flatten:Int)
def ZH(a:List Int):Bool:=(aj (a.length -1)).any λr=>decide (a.drop (r+1)++a.take (r+1)=a)
def Yh(p:a≠[])(s:b≠[])(o)(B:o=.le\/o=.lt):fU o (mx a) (mn b)=true↔∀x∈a,∀y∈b,fU o x y=true:=by cases a with|nil=>exact absurd rfl p|cons x a=>cases b with|nil=>exact absurd rfl s|cons y b=>obtain⟨t,p2,G⟩:=zg a x;obtain⟨n,r,F⟩:=px b y;show fU o (most x a) (least y b)=true↔_;have A:most x a∈x::a:=t.elim (λe=>by rw[e];exact ag) λe=>af _ e;have C:least y b∈y::b:=n.elim (λe=>by rw[e];exact ag) λe=>af _ e;have u:∀z∈x::a,z<=most x a:=λz hz=>(aD.mp hz).elim (λe=>by rw[e];exact p2) (G z);have v:∀z∈y::b,least y b<=z:=λz hz=>(aD.mp hz).elim (λe=>by rw[e];exact r) (F z);refine⟨λh z hz w q=>?_,λh=>h _ A _ C⟩;have:=u z hz;have:=v w q;rcases B with rfl|rfl;{rw[Nb] at*;omega};.rw[Hw] at*;omega
def KZ{d:Type}(f:Nat->d)(n):((aj n).map f).zip (((aj n).map f).drop 1)=(aj (n -1)).map λg=>(f g,f (g+1)):=by apply nR;{simp};.intro i h e;simp
def WN(h:Wt C x)(k:Wt C y):wt C x<=wt C y↔bD y x=false:=by rw[<-kl,<-BQ k h];simp_all
def uu(s)(f):(kE s).all f=(aj (s.length -1)).all λg=>f (g+1):=by unfold kE;rw[iJ];rfl
def kd1(K:CM.Lg s):v74 (t5 s)=(kE s).all λ(g:Nat)=>decide ((nD (bK s g)).length<=2):=by delta v74 t5;rw[uu,Dh,<-d7,Nz,ak,dD,lj Eg,iJ,b0,aN,aN];refine x4 λg=>x4 λf=>?_;have f:g<s.length -1:=by{simpa using f};show fU .le (cnt ((bK s (g+1)).map (wt (cst s))):Int) 2=true↔_;unfold cnt;rw[Gf (i4 K (by omega)),Nb,bz];omega
def Em(K:CM.Lg s)(g):(bK s g).map (wt (cst s))≠[]:=by intro h;have:=ip mG h;rw[ak,jT,kW] at this;have:=K.ne;simp_all
def kd2(K:CM.Lg s)(o)(w:o=.le\/o=.lt)(q:bP->bP->Bool)(r:∀x y,Wt (cst s) x->Wt (cst s) y->(fU o (wt (cst s) x) (wt (cst s) y)=true↔q x y=true)):XC o (t5 s)=(kE s).all λ(g:Nat)=>(bK s g).all λ(x:bP)=>(bK s (g+1)).all λ(y:bP)=>q x y:=by delta XC t5;rw[KZ,uu,iJ,b0,aN,aN];refine x4 λg=>x4 λp=>?_;have p:g<s.length -1:=by{simpa using p};show fU o (mx ((bK s (g+1)).map (wt (cst s)))) (mn ((bK s (g+1+1)).map (wt (cst s))))=true↔_;rw[Yh (Em K _) (Em K _) o w,aN];have n:=i4 K (g:=g+1) (by omega);have t:=i4 K (g:=g+1+1) (by omega);refine⟨λh x i=>aN.mpr λy j=>(r x y (n x i) (t y j)).mp (h _ (cU i) _ (cU j)),λh a z b u=>?_⟩;obtain⟨x,i,rfl⟩:=bg.mp z;obtain⟨y,j,rfl⟩:=bg.mp u;exact(r x y (n x i) (t y j)).mpr (aN.mp (h x i) y j)
def Be(l:List Nat):(l.map λ(n:Nat)=>(n:Int)).sum=(l.sum:Nat):=by induction l with|nil=>rfl|cons x l e=>rw[aX,rA,rA,e];push_cast;rfl
def kd4(K:CM.Lg s):v77 (t5 s)=(aj s.length).all λ(g:Nat)=>(aj g).all λ(h:Nat)=>(bK s (g+1)).all λ(x:bP)=>!(bK s (h+1)).contains x:=by unfold v77;have e:((t5 s).map λa=>(cnt a:Int)).sum=(((t5 s).map cnt).sum:Nat):=by{rw[<-Be,aV];rfl};rw[e,b0,xk];obtain⟨k,P,L⟩:=AO (t5 s);have:((((t5 s).map cnt).sum:Nat):Int)=(cnt (t5 s).flatten:Int)↔k=0:=by{lia};rw[this,L,aN,iQ];have N:(t5 s).length=s.length:=by{simp[t5]};have C:∀i (h:i<(t5 s).length),(t5 s)[i]=(bK s (i+1)).map (wt (cst s)):=λi h=>by{simp[t5]};constructor;{intro H g o;have o:g<s.length:=by{simpa using o};refine aN.mpr λh w=>aN.mpr λx r=>?_;have w:h<g:=by{simpa using w};have:=H h g (by lia) Eg w;rw[C,C] at this;cases q:(bK s (h+1)).contains x with|false=>rfl|true=>have q:x∈bK s (h+1):=by{simpa using q};exact absurd (cU r) (this _ (cU q))};.intro H i j hi M A z hz G;rw[C] at hz G;obtain⟨x,r,rfl⟩:=bg.mp hz;obtain⟨y,J,e⟩:=bg.mp G;have:=Dn (i4 K (by lia) y J) (i4 K (by lia) x r) e;subst this;have:=aN.mp (aN.mp (H j (by simp;simp_all)) i (by simpa using A)) y J;simp at this;exact this r
theorem we{g j:Type}{f:g->j}:∀{a b:List g},(∀x∈a,∀y∈b,f x=f y->x=y)->a.map f=b.map f->a=b|[],[],_,_=>rfl|[],_::_,_,h=>by cases h|_::_,[],_,h=>by cases h|x::a,y::b,e,h=>by rw[aX,aX] at h;injection h with k m;rw[e x ag y ag k,we (λp n q i=>e p (af _ n) q (af _ i)) m]
def LC{d:Type}{l:List d}{r i}(e:r<l.length)(hi:i<l.length):(l.drop r++l.take r)[i]?=l[(i+r) % l.length]?:=by by_cases h:i+r<l.length;{rw[f7 (by rw[cX];omega),lX,oh h,VO]};.rw[x3 (by rw[cX];simp_all),cX,m9 (by omega),Nat.mod_eq_sub_mod Eg,oh (by omega)];congr 1;grind
def kd5(K:CM.Lg s):ZH ((bK s 1).map (wt (cst s)))=(kE s).any λ(r:Nat)=>(aj s.length).all λ(i:Nat)=>(bK s 1).getD ((i+r) % s.length) bI==(bK s 1).getD i bI:=by have e:(kE s).any (λ(r:Nat)=>(aj s.length).all λ(i:Nat)=>(bK s 1).getD ((i+r) % s.length) bI==(bK s 1).getD i bI)=(aj (s.length -1)).any λr=>(aj s.length).all λ(i:Nat)=>(bK s 1).getD ((i+(r+1)) % s.length) bI==(bK s 1).getD i bI:=by{unfold kE;rw[ou];rfl};unfold ZH;have w:=jT s 1;have C:=i4 K (g:=1) K.ne;rw[e,ak,w,b0,eO,eO];refine exists_congr λr=>and_congr_right λB=>?_;have B:r<s.length -1:=by{simpa using B};rw[bz,<-fD,<-d7,<-bW,aN];generalize bK s 1=l at*;have q:(l.drop (r+1)++l.take (r+1)).map (wt (cst s))=l.map (wt (cst s))↔l.drop (r+1)++l.take (r+1)=l:=by{refine⟨we λx G y F e=>Dn (C x ?_) (C y F) e,λh=>by rw[h]⟩;rcases cz.mp G with z|z;{exact qt z};.exact Fb z};rw[q];constructor;{intro h i hi;have hi:i<s.length:=by{simpa using hi};have:=LC (l:=l) (r:=r+1) (i:=i) (by omega) (by omega);rw[h,w] at this;rw[aA,aA,<-this];simp};.intro h;apply eW;intro i;by_cases hi:i<s.length;{rw[LC (by omega) (by omega),w];have:=h i (by simpa using hi);have m:(i+(r+1)) % s.length<l.length:=by{rw[w];exact oF _ (by omega)};rw[aA,aA,ai m,ai (by omega)] at this;rw[ai m,ai (by omega)];simpa using this};.rw[bF (by simp;omega),bF Eg]
section
def k8(rows)(h:P8 rows):GG.d3 8 [.rows rows]=some (.ints (aO (c5 rows))):=kP<|ex8 h.1 (λr a=>(h.2 r a).1) (λr a=>kC (h.2 r a).1 (h.2 r a).2 JN) (AI h)
abbrev P71(up a:List Int)(g:Nat):Prop:=a.length+g<=up.length/\(∀z∈up,gZ z)/\∀z∈a,gZ z
def k71(up down)(g:Nat)(h:P71 up down g):GG.d3 71 [.ints up,.ints down,.int g]=some (.ints (spn up down g)):=kP<|by refine⟨_,.ret ?_⟩;show _=some (D.lst ((down.zipIdx.map λp=>up.getD (p.2+g) 0*p.1).map D.int));rw[aV];have j:ev GG (.DW 1) [Ls up,Ls down,I g,none,none]=some (.lst (down.zipIdx.map λp=>D.tup [.int (p.2:Nat),.int p.1])):=(R0 rfl rfl).trans (by rw[zj D.int down 0]);refine pI j λp k=>⟨_,rfl,?_⟩;have i:down[p.2]?=some p.1:=List.mem_zipIdx_iff_getElem?.mp k;have hi:=(aQ.mp i).1;have l:=h.1;have f:up[p.2+g]?=some (up.getD (p.2+g) 0):=by{rw[aA,ai (by lia)];rfl};exact jf (fF rfl (jA rfl rfl) (by rw[<-pK];exact eM f)) rfl (h.2.1 _ (cx f)) (h.2.2 _ (cx i))
def Ua(K:CM.Lg s):P8 (GA s)/\P8 (M6 s):=by have m:=K.ne;have l:∀j:Nat,j<=2*s.length->CM.Bd (8+2*8) (aL s (j:Int)):=λj g=>wJ K (tz K.ne (by omega));refine⟨⟨λz=>?_,λr h=>?_⟩,⟨λz=>?_,λr h=>?_⟩⟩;{have:=ip mG z;rw[ak,dD,kW] at this;lia};{obtain⟨i,hi,rfl⟩:=bg.mp h;have hi:i<2*s.length:=by{simpa using hi};exact⟨CM.jo ..,(l i (by lia)).mono JN⟩};{have:=ip mG z;rw[ak,dD,kW] at this;simp_all};.obtain⟨i,hi,rfl⟩:=bg.mp h;have hi:i<s.length:=by{simpa using hi};refine⟨CM.bZ ..,λj g=>?_⟩;rw[CM.dc _ _ _ _ g];have:=l i (by lia) j g;omega
def k72(s:List (List Int))(K:CM.Lg s):GG.d3 72 [.rows s]=some (.rows (t5 s)):=kP<|by have z:=K.ne;have w:=K.pre.most;obtain⟨t,p2⟩:=Ua K;have m:∀{r:Ev},ev GG uT (Rs s::r)=some (.int s.length):=iG (dg rfl) (f6 s);have x:ev GG Xh [Rs s,none,none,none,none,none,none]=some (.rows (GA s)):=by{show _=some (D.lst (((aj (2*s.length)).map λ(k:Nat)=>aL s (k:Int)).map D.ints));rw[aV];refine pI (Bf (n:=2*s.length) (by omega) ((jf rfl m (cp JN) (cp (by grind))).trans (by push_cast;rfl))) λi hi=>⟨_,rfl,bj (gd rfl rfl) (T9 s i K ?_)⟩;have hi:i<2*s.length:=by{simpa using hi};omega};have y:ev GG XJ [Rs s,Rs (GA s),Ls (aO (c5 (GA s))),none,none,none,none]=some (.rows (M6 s)):=by{have es:=Ig (G:=GG) (ρ:=[Rs s,Rs (GA s),Ls (aO (c5 (GA s))),none,none,none,none]) (a:=.var 1) (b:=.np) (c:=.pt uT) rfl rfl (X5 m) rfl rfl;rw[Ka,<-d7,<-d7,Nz,lj (by lia),aV] at es;show _=some (D.lst (((aj s.length).map λ(i:Nat)=>hX (-1) (aL s (i:Int)) 0 (aL s (i:Int))).map D.ints));rw[aV];refine pI (ig es) λi hi=>⟨_,rfl,?_⟩;have hi:i<s.length:=by{simpa using hi};have b:=t.2 (aL s (i:Int)) (bg.mpr ⟨i,by simp;omega,rfl⟩);have f:=kC b.1 b.2 JN;exact bj (Bk (oR rfl) rfl rfl rfl) (k4 (-1) 0 _ _ (.ints (aL s (i:Int))) (.ints (aL s (i:Int))) rfl rfl b.1 b.1 vB (cp JN) f f)};refine⟨_,.JE x rfl (.JE (bj (dg rfl) (k8 _ t)) rfl (.JE (bj (dg y) (k8 _ p2)) rfl (.ret ?_)))⟩;show _=some (D.lst (((aj s.length).map λg=>(bK s (g+1)).map (wt (cst s))).map D.ints));rw[aV];refine pI (zi (n:=s.length) (by lia) rfl (jA m rfl)) λg v=>⟨_,rfl,?_⟩;have v:g<s.length:=by{simpa using v};refine(bj (vr rfl rfl rfl) (k71 _ _ (g+1) ⟨?_,yj t,yj p2⟩)).trans ?_;{simp[aO,c5];lia};.rw[D5 K (by lia)];rfl
def BL(K:CM.Lg s):(t5 s)[0]?=some ((bK s 1).map (wt (cst s))):=by unfold t5;rw[aP,dh (show 0<s.length from K.ne)];rfl
def k73(s:List (List Int))(K:CM.Lg s):GG.d3 73 [.rows s]=some (.ints (cP (nD (bK s 1)).length::aO (Aw s))):=kP<|by have t:=K.pre.most;have m:=i4 K (g:=1) K.ne;have l:=jT s 1;have v:∀{a:List Int} {k o:Option Ent},a.length<64->ev GG (.qf 1) [Rs s,Ls a,k,o]=some (.ints (kg a)):=λ{a k o} h=>by{show(match Se (a.map D.int) with|some r=>if r.length<64 then some (D.ints (kg r)) else none|none=>none)=_;rw[eR];exact au h};refine⟨_,.JE (fF (bj (dg rfl) (k72 s K)) rfl (qd (i:=0) (BL K))) rfl (.JE (v (by rw[ak,l];lia)) rfl (.ret ?_))⟩;have q:ev GG Wq [Rs s,Ls ((bK s 1).map (wt (cst s))),Ls (kg ((bK s 1).map (wt (cst s)))),none]=some (.ints (aO (Aw s))):=by{have u:ev GG Cr [Rs s,Ls ((bK s 1).map (wt (cst s))),Ls (kg ((bK s 1).map (wt (cst s)))),none]=some (.lst ((bK s 1).map λx=>D.int (wt (cst s) x))):=(ig rfl).trans (by rw[aV];rfl);show _=some (D.lst ((((bK s 1).map λ(x:bP)=>((nD (bK s 1)).filter λ(y:bP)=>bD y x).length).map cP).map D.int));rw[aV,aV];refine pI u λx p=>⟨_,rfl,?_⟩;show(match Se ((kg ((bK s 1).map (wt (cst s)))).map D.int) with|some r=>if wt (cst s) x∈r then some (D.int (r.findIdx (·==wt (cst s) x))) else none|none=>none)=_;rw[eR];dsimp only;rw[au (o9.mpr (cU p)),Hv m p];rfl};refine(xK (kQ (dg (iG (dg rfl) (dr _)))) q ?_).trans ?_;{have:aG=16777216:=rfl;simp[aO,Aw,l];lia};.rw[Gf m];rfl
def Le{a}{ns}(h:ev G a ρ=some (.ints ns))(d:ns.length<=4000):ev G (.oT a) ρ=some (.int (cnt ns)):=by (conv=>lhs;whnf);rw[h];show(match Se (ns.map D.int) with|some r=>if r.length<=4000 then some (D.int (kg r).length) else none|none=>none)=_;rw[eR];exact au d
abbrev Vg(l:List (List Int)):Prop:=(∀a∈l,a≠[]/\a.length<=24)/\l.length<=24/\l≠[]
theorem BN:∀{l:List (List Int)},(∀a∈l,a≠[]/\a.length<=24)->l.flatten.length<=24*l.length|[],_=>by simp|a::l,h=>by have:=BN (l:=l) λb e=>h b (af _ e);have:=(h a ag).2;rw[mL,bo,aI];lia
def ND(K:CM.Lg s):Vg (t5 s):=by have:=K.pre.most;have:=K.ne;have h:(t5 s).length=s.length:=by{simp[t5]};refine⟨λa j=>?_,by simp_all,λz=>by rw[z] at h;simp at h;lia⟩;obtain⟨g,l,rfl⟩:=bg.mp j;exact⟨Em K _,by rw[ak,jT];omega⟩
def k74(l)(h:Vg l):GG.d3 74 [.rows l]=some (.bl (v74 l)):=kP<|by have p:1<=l.length:=by{cases l with|nil=>exact absurd rfl h.2.2|cons a l=>simp};have es:=Ig (G:=GG) (ρ:=[Rs l,none]) (a:=.var 0) (b:=.np) (c:=.pt vW) (l:=l.map D.ints) (lo:=none) (hi:=some (-1)) rfl rfl rfl rfl rfl;have s:cutD (l.map D.ints) none (some (-1))=l.dropLast.map D.ints:=by{unfold cutD;rw[HT.wF,x5];have:HT.xS (l.map D.ints).length (l.map D.ints).length (some (-1))=l.length -1:=by{rw[ak];unfold HT.xS;dsimp;grind};rw[this,Nat.sub_zero,<-d7,Dh]};rw[s] at es;exact⟨_,.ret (iG (dg (pI (f:=D.ints) (g:=λa=>D.bl (fU .le (cnt a:Int) 2)) (xs:=l.dropLast) (ig es) λa r=>⟨_,rfl,hC (Le rfl (aM (h.1 a (List.dropLast_subset _ r)).2 JN)) rfl⟩)) all_map)⟩
def Q7(h:Vg l)(o):ev GG (.bi .all (A1 (.lc (.cmp o TH TM) (.tp [1,2]) (.zip 0 Ab) [1,2]))) [Rs l,none,none]=some (.bl (XC o l)):=by have es:=Ig (G:=GG) (ρ:=[Rs l,none,none]) (a:=.var 0) (b:=.pt (cI 1)) (c:=.np) (l:=l.map D.ints) (lo:=some ((1:Nat):Int)) (hi:=none) rfl rfl rfl rfl rfl;rw[rW,<-fD] at es;have q:=HC (G:=GG) (ρ:=[Rs l,none,none]) (a:=.var 0) (l:=l.map D.ints) (m:=(l.drop 1).map D.ints) rfl es rfl rfl;rw[U7,aV] at q;refine iG (dg (pI (g:=λp:List Int×List Int=>D.bl (fU o (mx p.1) (mn p.2))) q λp n=>⟨_,rfl,?_⟩)) all_map;have r:=(h.1 _ (df n).1).1;have s:=(h.1 _ (qt (df n).2)).1;obtain⟨a,b⟩:=p;cases a with|nil=>exact absurd rfl r|cons x a=>cases b with|nil=>exact absurd rfl s|cons y b=>exact hC (iG (dg rfl) MA) (iG (dg rfl) A7)
def k75(l)(h:Vg l):GG.d3 75 [.rows l]=some (.bl (XC .le l)):=kP<|⟨_,.ret (Q7 h .le)⟩
def k76(l)(h:Vg l):GG.d3 76 [.rows l]=some (.bl (XC .lt l)):=kP<|⟨_,.ret (Q7 h .lt)⟩
theorem FE:∀(l:List (List Int)) (a) (o),a.length+l.flatten.length<=4000->∃g,Ex GG (.lp (.nm 2) (.ext 1 2 .nil) (l.map D.ints)) [d0,some (.ow (a.map D.int)),Op o] (.nx [d0,some (.ow ((a++l.flatten).map D.int)),Op g])|[],a,o,h=>⟨o,by rw[List.flatten_nil,bM];exact .lz⟩|x::l,a,o,h=>by rw[mL,bo] at h;obtain⟨g,k⟩:=FE (d0:=d0) l (a++x) (some (.ints x)) (by rw[bo];lia);have:aG=16777216:=rfl;refine⟨g,.ln (i7:=[d0,some (.ow (a.map D.int)),Ls x]) (by cases o<;>rfl) (.ext rfl rfl rfl (by simp only[ak];lia) .nil) ?_⟩;rw[<-bW];rw[mL,<-bu];exact k
def k77(l)(h:Vg l):GG.d3 77 [.rows l]=some (.bl (v77 l)):=kP<|by have n:=BN h.1;have p:=h.2.1;obtain⟨o,j⟩:=FE (d0:=Rs l) l [] none (by simp only[kW];omega);rw[eC] at j;refine⟨_,.own rfl rfl (.fr (ig rfl) j (.ret (hC (iG (dg (pI (f:=D.ints) (g:=λa=>D.int (cnt a:Int)) (xs:=l) (ig rfl) λa m=>⟨[Rs l,Ls l.flatten,Ls a],by cases o<;>rfl,Le rfl (aM (h.1 a m).2 JN)⟩)) ?_) (Le (ns:=l.flatten) rfl (by omega)))))⟩;have:(l.map λa=>D.int (cnt a:Int))=(l.map λa=>(cnt a:Int)).map D.int:=by{rw[aV];rfl};rw[this,sum_ints]
def ZV{a b}{x y}(h:ev G a ρ=some (.ints x))(k:ev G b ρ=some (.ints y)):ev G (.Vx a b) ρ=some (.bl (decide (x=y))):=by (conv=>lhs;whnf);rw[h,k];show(match Se (x.map D.int),Se (y.map D.int) with|some x,some y=>some (D.bl (decide (x=y)))|_,_=>none)=_;rw[eR,eR]
def k78(a)(t:1<=a.length)(h:a.length<=24):GG.d3 78 [.ints a]=some (.bl (ZH a)):=kP<|by have q:ev GG (.zV (cI 1) uT) [Ls a,none]=some (.lst ((aj (a.length -1)).map λ(i:Nat)=>D.int ((i+1:Nat):Int))):=zi (n:=a.length -1) (by omega) rfl ((iG (dg rfl) (dr a)).trans (by congr 2;grind));refine⟨_,.ret (iG (dg (pI (g:=λr:Nat=>D.bl (decide (a.drop (r+1)++a.take (r+1)=a))) q λr s=>⟨_,rfl,?_⟩)) any_map)⟩;have j:=Ig (G:=GG) (ρ:=[Ls a,I ((r+1:Nat):Int)]) (a:=.var 0) (b:=.pt 1) (c:=.np) (l:=a.map D.int) (lo:=some ((r+1:Nat):Int)) (hi:=none) rfl rfl rfl rfl rfl;have k:=Ig (G:=GG) (ρ:=[Ls a,I ((r+1:Nat):Int)]) (a:=.var 0) (b:=.np) (c:=.pt 1) (l:=a.map D.int) (lo:=none) (hi:=some ((r+1:Nat):Int)) rfl rfl rfl rfl rfl;rw[rW,<-fD] at j;rw[Ka,<-d7] at k;have p:=xK j k (by have:aG=16777216:=rfl;simp;omega);rw[<-bW] at p;exact ZV p rfl
def k79(s:List (List Int))(K:CM.Lg s):GG.d3 79 [.rows s]=some (.int (Cb.kind s)):=kP<|by have p:=ND K;have C:((bK s 1).map (wt (cst s))).length=s.length:=by{rw[ak,jT]};have L:=k74 _ p;have M:=k75 _ p;have G:=k76 _ p;have H:=k77 _ p;have F:=k78 ((bK s 1).map (wt (cst s))) (by rw[C];exact K.ne) (by rw[C];exact K.pre.most);rw[kd1 K] at L;rw[kd2 K .le (.inl rfl) (λx y=>!bD y x) λx y g u=>by rw[Nb,WN g u];simp] at M;rw[kd2 K .lt (.inr rfl) (λx y=>bD x y) λx y g u=>by rw[Hw,BQ g u]] at G;rw[kd4 K] at H;rw[kd5 K] at F;have step:∀{f n:Nat} {v:Bool} {t:Nat} {r:S} {o:Out},GG.d3 f [.rows (t5 s)]=some (.bl v)->Ex GG (.st r) [Rs s,Rs (t5 s),I ((t+(if v=true then n else 0):Nat):Int)] o->Ex GG (.st (.ifs (.tv (.cM f (A1 1))) (.JE 2 (.bin .add 2 (.con (.int (n:Nat)))) .nil) .nil r)) [Rs s,Rs (t5 s),I (t:Nat)] o:=λ{f n v t r o} h k=>by{cases v with|true=>exact .Jn (qk (bj (dg rfl) h)) (.JE (jA rfl rfl) rfl .nil) (by exact k)|false=>exact .iff (qk (bj (dg rfl) h)) .nil (by simpa using k)};have l:∀{z:Option Ent},ev GG (.tv (.cM 78 (A1 zf))) [Rs s,Rs (t5 s),z]=some (.bl _):=qk (bj (dg (fF rfl rfl (qd (i:=0) (BL K)))) F);have B:∀t:Nat,∃d,Ex GG (.st Xp) [Rs s,Rs (t5 s),I t] (.rt (.int ((t+(if((kE s).any λ(r:Nat)=>(aj s.length).all λ(i:Nat)=>(bK s 1).getD ((i+r) % s.length) bI==(bK s 1).getD i bI)=true then 16 else 0):Nat):Int)) d):=λt=>by{split;{next q=>rw[q] at l;exact⟨_,.Jn l (.JE (jA rfl rfl) rfl .nil) (.ret rfl)⟩};.next q=>rw[kl] at q;rw[q] at l;exact⟨_,.iff l .nil (.ret rfl)⟩};obtain⟨d,g⟩:=B _;exact⟨d,.JE (bj (dg rfl) (k72 s K)) rfl (.JE rfl rfl (step (n:=1) (t:=0) L (step (n:=2) M (step (n:=4) G (step (n:=8) H (by rw[fA];exact g))))))⟩
end
def MQ:List (List Int)->D|(p::ns)::xs=>.tup [.int p,.ints ns,.rows xs]|_=>.ie
def JJ:∀m:Nat,m<=24->∃n k:Nat,ji (m:Int)=some (n,k)/\k<=3/\O4.lookup (m:Int)=some (.tup [.int n,.int k])|0,_=>⟨2,0,rfl,by decide,rfl⟩|1,_=>⟨0,1,rfl,by decide,rfl⟩|2,_=>⟨2,2,rfl,by decide,rfl⟩|3,_=>⟨0,2,rfl,by decide,rfl⟩|4,_=>⟨1,1,rfl,by decide,rfl⟩|5,_=>⟨1,0,rfl,by decide,rfl⟩|6,_=>⟨0,2,rfl,by decide,rfl⟩|7,_=>⟨1,1,rfl,by decide,rfl⟩|8,_=>⟨1,1,rfl,by decide,rfl⟩|9,_=>⟨0,1,rfl,by decide,rfl⟩|10,_=>⟨0,0,rfl,by decide,rfl⟩|11,_=>⟨0,0,rfl,by decide,rfl⟩|12,_=>⟨0,2,rfl,by decide,rfl⟩|13,_=>⟨0,1,rfl,by decide,rfl⟩|14,_=>⟨1,0,rfl,by decide,rfl⟩|15,_=>⟨0,1,rfl,by decide,rfl⟩|16,_=>⟨0,0,rfl,by decide,rfl⟩|17,_=>⟨1,0,rfl,by decide,rfl⟩|18,_=>⟨0,1,rfl,by decide,rfl⟩|19,_=>⟨1,0,rfl,by decide,rfl⟩|20,_=>⟨0,0,rfl,by decide,rfl⟩|21,_=>⟨0,0,rfl,by decide,rfl⟩|22,_=>⟨0,1,rfl,by decide,rfl⟩|23,_=>⟨0,2,rfl,by decide,rfl⟩|24,_=>⟨2,3,rfl,by decide,rfl⟩|m+25,h=>by simp_all
def vK(h:ji p=some (n,k)):k<=3/\O4.lookup p=some (.tup [.int n,.int k]):=by by_cases t:0<=p/\p<=24;{obtain⟨m,rfl⟩:∃m:Nat,p=m:=⟨p.toNat,by lia⟩;obtain⟨r,s,q,j,l⟩:=JJ m (by lia);rw[q] at h;cases h;exact⟨j,l⟩};.have q:∀k:Int,0<=k->k<=24->p≠k:=λk a b e=>t ⟨e▸a,e▸b⟩;unfold ji at h;(iterate 25 rw[ax (q _ JN JN)] at h);cases h
section
theorem F8(J:l.length<=17000){d1}{n}{t}:∀(k i:Nat) (ys s) (o),iz k (l.drop i)=some (s,t)->ys.length+k=n->n<=3->∃(v:Nat) (z:Option D),Ex GG (.wl (.cmp .lt (.xG 3) 2) XX) [Ls l,d1,I n,Ow ys,I i,Op o] (.nx [Ls l,d1,I n,Ow (ys++s),I v,Op z])
 |0,i,ys,s,o,h,N,F=>by have h:=bA h;injection h with a b;subst a;rw[bM];refine⟨i,o,.wz (eF (x:=(ys.length:Int)) ?_ rfl (zN.mpr Eg))⟩;show some (D.int ((ys.map D.ints).length:Nat))=_;rw[ak]
 |k+1,i,ys,s,o,h,N,F=>by obtain⟨m,O,M,Q,rfl,P,L⟩:=CM.Gw h;obtain⟨v,z,B⟩:=F8 J (d1:=d1) (n:=n) k (i+1+m) (ys++[(l.drop (i+1)).take m]) O (some (.int ((i+1+m:Nat):Int))) L (by simp;lia) F;rw[bu] at B;have H:ev GG (.bin .add HD (.ix 0 4)) [Ls l,d1,I n,Ow ys,I i,Op o]=some (.int ((i+1+m:Nat):Int)):=(jA (jA rfl rfl) (fF rfl rfl (eM M))).trans (by push_cast;rfl);have C:=Ig (G:=GG) (ρ:=[Ls l,d1,I n,Ow ys,I i,I ((i+1+m:Nat):Int)]) (a:=.var 0) (b:=.pt HD) (c:=.pt 5) (l:=l.map D.int) (lo:=some ((i+1:Nat):Int)) (hi:=some ((i+1+m:Nat):Int)) rfl rfl rfl rfl rfl;rw[pZ,show i+1+m -(i+1)=m by simp_all,<-fD,<-d7] at C;have:aG=16777216:=rfl;refine⟨v,z,.wn (eT (x:=(ys.length:Int)) ?_ rfl (Hw.mpr (by lia))) (.JE H (by cases o<;>rfl) (.app C rfl (by simp;lia) (.JE rfl rfl .nil))) ?_⟩;{show some (D.int ((ys.map D.ints).length:Nat))=_;rw[ak]};.have e:(ys.map D.ints++[D.lst (((l.drop (i+1)).take m).map D.int)])=(ys++[(l.drop (i+1)).take m]).map D.ints:=by{rw[bW];rfl};rw[e];exact B
abbrev P37(l:List Int)(i n:Nat)(xs:List (List Int)):Prop:=l.length<=17000/\n<=3/\∃t,iz n (l.drop i)=some (xs,t)
def k37(l)(i n)(xs)(h:P37 l i n xs):GG.d3 37 [.ints l,.int i,.int n]=some (.rows xs):=kP<|by obtain⟨f,g,t,d⟩:=h;obtain⟨j,k,e⟩:=F8 f (d1:=I i) n i [] xs none d (by simp) g;exact⟨_,.own rfl rfl (.JE rfl rfl (.kF e (.ret rfl)))⟩
def k38(xs):GG.d3 38 [.rows xs]=some (.int (CM.wide xs)):=kP<|by refine⟨_,.ret ((iG (dg (pI (f:=D.ints) (g:=λx=>D.int (((1+x.length:Nat)):Int)) (xs:=xs) (ig rfl) λx _=>⟨_,rfl,(jA rfl (iG (dg rfl) (dr x))).trans (by push_cast;rfl)⟩)) ?_).trans rfl)⟩;have:(xs.map λx=>D.int ((1+x.length:Nat):Int))=((xs.map λx=>1+x.length).map λ(n:Nat)=>(n:Int)).map D.int:=by{rw[aV,aV];rfl};rw[this,sum_ints,Be];rfl
abbrev B39:S:=Ys
def Oj(X:l.length<=17000):∀(x:List (List (List Int))) (f i) (acc:List D) (v o m),jr ji f (l.drop i)=some x->acc.length<=i->i<=l.length->∃(L:Nat) (C M Q:Option D),Ex GG (.wl D9 B39) [Ls l,some (.ow acc),I i,Op v,Op o,Op m] (.nx [Ls l,some (.ow (acc++x.map MQ)),I L,Op C,Op M,Op Q]):=by
 intro x;induction x with
  |nil=>intro f i acc v o m h ha hi;rcases CM.AZ h with⟨_,F⟩|⟨_,_,_,_,_,_,_,_,_,w,_⟩;{rw[List.map_nil,bM];exact⟨i,v,o,m,.wz (eF rfl (iG (dg rfl) (dr l)) (zN.mpr Eg))⟩};.cases w
  |cons c x Z=>intro f i acc v o m h ha hi;rcases CM.AZ h with⟨y,_⟩|⟨f',p,n,k,xs,ds,y,F,h3,w,h5,h6,h7,h8⟩;{cases y};.injection w with w P;subst w P;have hlt:i<l.length:=(aQ.mp y).1;have J:k<=3:=(vK F).1;have hw:1<=i+1+n+CM.wide xs -i:=by{omega};obtain⟨L,a3,a4,a5,R⟩:=Z f' (i+1+n+CM.wide xs) (acc++[MQ ((p::(l.drop (i+1)).take n)::xs)]) (some (.tup [.int n,.int k])) (some (.int ((i+1+n:Nat):Int))) (some (.rows xs)) h8 (by simp;lia) h7;rw[bu,ik] at R;have e1:ev GG (.xH 1 El) [Ls l,some (.ow acc),I i,Op v,Op o,Op m]=some (.tup [.int n,.int k]):=Gy (fF rfl rfl (eM y)) (vK F).2;have e2:ev GG (.bin .add Jm Qb) [Ls l,some (.ow acc),I i,some (.pl (.tup [.int n,.int k])),Op o,Op m]=some (.int ((i+1+n:Nat):Int)):=(jA (jA rfl rfl) (fF rfl rfl rfl)).trans (by push_cast;rfl);have Y:ev GG V0 [Ls l,some (.ow acc),I i,some (.pl (.tup [.int n,.int k])),I ((i+1+n:Nat):Int),Op m]=some (.rows xs):=bj (vr rfl rfl (fF rfl rfl rfl)) (k37 l (i+1+n) k xs ⟨X,J,h6⟩);have U:=Ig (G:=GG) (ρ:=[Ls l,some (.ow acc),I i,some (.pl (.tup [.int n,.int k])),I ((i+1+n:Nat):Int),Rs xs]) (a:=.var 0) (b:=.pt Jm) (c:=.pt 4) (l:=l.map D.int) (lo:=some ((i+1:Nat):Int)) (hi:=some ((i+1+n:Nat):Int)) rfl rfl rfl rfl rfl;rw[pZ,show i+1+n -(i+1)=n by simp_all,<-fD,<-d7] at U;have:aG=16777216:=rfl;refine⟨L,a3,a4,a5,.wn (eT rfl (iG (dg rfl) (dr l)) (Hw.mpr Eg)) (.JE e1 (by cases v<;>rfl) (.JE e2 (by cases o<;>rfl) (.JE Y (by cases m<;>rfl) (.app (qV (vr (fF rfl rfl (eM y)) U rfl)) rfl (by lia) (.JE ((jA rfl (bj (dg rfl) (k38 xs))).trans (by rw[<-pK])) rfl .nil))))) ?_⟩;exact R
abbrev P39(l:List Int)(c:List (List (List Int))):Prop:=l.length<=17000/\jr ji l.length l=some c
def k39(l)(g)(h:P39 l g):GG.d3 39 [.ints l]=some (.lst (g.map MQ)):=kP<|by obtain⟨j,m⟩:=h;obtain⟨n,a,b,c,i⟩:=Oj j g l.length 0 [] none none none (by rw[x5];exact m) (by simp) (by simp);rw[eC] at i;exact⟨_,.own rfl rfl (.JE rfl rfl (.kF i (.ret rfl)))⟩
end
theorem tS:∀(k) (l),k+1<=l.length->l.Nodup->de (k+1) l=(de k l).flatMap λp=>(l.filter λx=>!p.contains x).map λx=>p++[x]
 |0,l,h,m=>by cases l with|nil=>simp at h|cons y r=>unfold de;rw[ax (by simp)];delta de;simp;rw[<-List.map_eq_flatMap,G8.mpr λ_ _=>rfl]
 |k+1,l,h,m=>by have g:¬(l.isEmpty=true):=by{cases l with|nil=>simp at h|cons y r=>simp};rw[de,ax g];(conv=>rhs;rw[de,ax g]);rw[List.flatMap_assoc];apply CM.i6;intro x t;have v:(l.filter λy=>y !=x)=l.erase x:=(m.erase_eq_filter x).symm;rw[tS k (l.filter λy=>y !=x) (by rw[v,List.length_erase_of_mem t];omega) (m.filter _)];rw[nX,nY];apply CM.i6;intro p w;rw[aV,lR];have:(λy=>!p.contains y&&(y !=x))=λy=>!(x::p).contains y:=by{funext y;rw[List.contains_cons,Bool.not_or,Ru];rfl};rw[this];rfl
abbrev Ld:=List Nat×Int
def rk(p:Ld):D:=.tup [.ints (aO p.1),.int p.2]
def ts(row:List Int)(p:Ld)(a:List Nat):List Ld:=(a.filter λx=>!p.1.contains x).map λx=>(p.1++[x],p.2*row.getD x 0)
def ext(a:List Ld)(row:List Int):List Ld:=a.flatMap λp=>ts row p (aj row.length)
def uz(a:List (List Int))(p:List Nat):Int:=((a.zip p).map λq=>q.1.getD q.2 0).foldl (·*·) 1
def KI(h:b.length=p.length)(w:List Int)(x):uz (b++[w]) (p++[x])=uz b p*w.getD x 0:=by unfold uz;rw[List.zip_append h,bW,List.foldl_append];rfl
theorem mT:∀(k) (l),k<=l.length->l.Nodup->∀p∈de k l,p.length=k/\∀x∈p,x∈l|0,l,h,j,p,c=>by rw[de,bB] at c;subst c;exact⟨rfl,λx i=>by cases i⟩|k+1,l,h,j,p,c=>by rw[tS k l h j,ki] at c;obtain⟨q,s,c⟩:=c;obtain⟨x,i,rfl⟩:=bg.mp c;obtain⟨v,t⟩:=mT k l (by lia) j q s;refine⟨by simp[v],λy r=>?_⟩;rcases cz.mp r with z|z;{exact t y z};.rw[bB.mp z];exact(bV.mp i).1
def nodup_range(n):(aj n).Nodup:=MR
def KG(j:d.length+1<=n)(i:w.length=n):ext ((de d.length (aj n)).map λp=>(p,uz d p)) w=(de (d.length+1) (aj n)).map λp=>(p,uz (d++[w]) p):=by unfold ext;rw[nY,tS _ _ (by simpa using j) (nodup_range n),nX];apply CM.i6;intro p m;have k:=(mT _ _ (by simp;lia) (nodup_range n) p m).1;unfold ts;rw[aV,i];apply dS;intro x _;show(p++[x],_)=(p++[x],_);rw[KI k.symm]
def Lb:∀n,n<=5->∀k,k<=5->(de k (aj n)).length<=300:=by decide+kernel
def best{a:Type}(V:a->Int):a->List a->a|m,[]=>m|m,x::r=>best V (if V x<V m then x else m) r
theorem Bo(V):∀(r) (m:f),best V m r=m\/best V m r∈r|[],m=>.inl rfl|x::r,m=>by dsimp only[best];rcases Bo V r (if V x<V m then x else m) with e|e;{rw[e];split;{exact .inr ag};.exact .inl rfl};.exact .inr (af _ e)
theorem wg(V)(f:d->D):∀(r) (m),my (f m,V m) (r.map λx=>(f x,V x))=f (best V m r)|[],m=>rfl|x::r,m=>by rw[aX,my,best];have:(if V x<V m then(f x,V x) else(f m,V m))=(f (if V x<V m then x else m),V (if V x<V m then x else m)):=by{split<;>rfl};rw[<-wg V f r];exact ip (λz=>my z _) this
def Ws{a:Type}(R:a->bP):Option (a×bP)->a->Option (a×bP)|none,p=>some (p,R p)|some y,p=>if bD (R p) y.2=true then some (p,R p) else some y
theorem sY(V)(R):∀(r) (m:o),(∀x∈m::r,∀y∈m::r,(V x<V y↔bD (R x) (R y)=true))->r.foldl (Ws R) (some (m,R m))=some (best V m r,R (best V m r))|[],m,_=>rfl|x::r,m,h=>by rw[cA,best];show r.foldl (Ws R) (if bD (R x) (R m)=true then some (x,R x) else some (m,R m))=_;have k:=h x (by simp) m (by simp);by_cases q:V x<V m;{rw[au (k.mp q),au q];exact sY V R r x λa i b g=>h a (af _ i) b (af _ g)};.rw[ax (mt k.mpr q),ax q];refine sY V R r m λa i b g=>h a ?_ b ?_;{rcases aD.mp i with rfl|i;{exact ag};.exact af _ (af _ i)};.rcases aD.mp g with rfl|g;{exact ag};.exact af _ (af _ g)
def Uk{s:Nat->Int}(m:∀c,c<6->s c<=a0 x c)(l:∀c,c<6->s c<=a0 y c):CM.pw (λc=>(a0 x c -s c).toNat)<CM.pw (λc=>(a0 y c -s c).toNat)↔bD x y=true:=by have j:∀z:bP,∀c,c<6->a0 ((aj 6).map λc=>a0 z c -s c) c=a0 z c -s c:=λz c f=>by{unfold a0;rw[aA,aP,dh f];rfl};have e:bD x y=bD ((aj 6).map λc=>a0 x c -s c) ((aj 6).map λc=>a0 y c -s c):=CM.fZ λc f=>by{rw[j x c f,j y c f];lia};have d:∀z:bP,(∀c,c<6->s c<=a0 z c)->bQ ((aj 6).map λc=>a0 z c -s c)=CM.pw (λc=>(a0 z c -s c).toNat)/\cO ((aj 6).map λc=>a0 z c -s c)=1:=λz hz=>by{rw[CM.gG,CM.i5];refine⟨CM.eD λc f=>by rw[j z c f],?_⟩;have:CM.pw (λc=>(-(a0 ((aj 6).map λc=>a0 z c -s c) c)).toNat)=CM.pw λ_=>0:=CM.eD λc f=>by{rw[j z c f];have:=hz c f;simp_all};rw[this];rfl};rw[e,CM.i9,(d x m).1,(d x m).2,(d y l).1,(d y l).2,kI,kI]
theorem FK(F):∀(xs:List bP) (m) (s:Nat->Int) (v),(∀x∈xs,∀c,c<6->a0 F c<=a0 x c)->(∀c,c<6->s c<=a0 m c)->v=CM.pw (λc=>(a0 m c -s c).toNat)->
  xs.foldl (λv x=>v*bQ (cf x F)) v=CM.pw (λc=>(a0 (xs.foldl rz m) c -(s c+xs.length*a0 F c)).toNat)/\∀c,c<6->s c+xs.length*a0 F c<=a0 (xs.foldl rz m) c
 |[],m,s,v,_,j,p=>by
  refine⟨p.trans (CM.eD λc b=>?_),λc b=>?_⟩
  ·simp
  ·simpa using j c b
 |x::xs,m,s,v,u,j,p=>by
  rw[cA,cA]
  have r:=u x ag
  obtain⟨A,z⟩:=FK F xs (rz m x) (λc=>s c+a0 F c) (v*bQ (cf x F)) (λy w=>u y (af _ w)) (λc b=>by
   rw[CM.zM _ _ b]
   have:=r c b
   have:=j c b
   lia) (by
   rw[p,CM.gG,<-CM.mw]
   apply CM.eD
   intro c b
   rw[CM.gr _ _ b,CM.zM _ _ b]
   have:=r c b
   have:=j c b
   grind)
  have e:∀c:Nat,s c+a0 F c+(xs.length:Int)*a0 F c=s c+((x::xs).length:Int)*a0 F c:=λc=>by
   rw[aI]
   push_cast
   rw[xb]
   lia
  refine⟨A.trans (CM.eD λc _=>by rw[e]),λc b=>?_⟩
  rw[<-e]
  exact z c b
def dst(a b:List bP)(k:Nat):bP:=kX (a.getD (k/b.length) bI) (b.getD (k % b.length) bI)
def mC(a b:List bP):List bP:=(aj (a.length*b.length)).map (dst a b)
def vg(a b:List bP):List (List Int):=(aj a.length).map λi=>((aO (c5 (mC a b))).drop (b.length*i)).take b.length
abbrev J0(a b:List bP):Prop:=1<=a.length/\a.length<=5/\a.length=b.length/\(∀r∈a,az r=true)/\∀r∈b,az r=true
def Kx(g:az x=true)(f:az y=true):(kX x y).length=6/\CM.Bd 16 (kX x y):=by unfold kX;split;{exact⟨CM.bZ ..,pU (CM.cw f) (CM.cw g)⟩};.exact⟨CM.bZ ..,pU (CM.cw g) (CM.cw f)⟩
def getD_mem'{l:List bP}{i}(h:i<l.length):l.getD i bI∈l:=by rw[aA,ai h];exact nV h
def T7(P:J0 a b){k}(h:k<a.length*b.length):(dst a b k).length=6/\CM.Bd 16 (dst a b k):=by obtain⟨i,l,j,g,f⟩:=P;exact Kx (g _ (getD_mem' ((il (by omega)).mpr h))) (f _ (getD_mem' (oF _ (by omega))))
def Gj(P:J0 a b):P8 (mC a b):=by refine⟨λz=>?_,λr j=>?_⟩;{have:=ip mG z;have:1<=a.length*b.length:=kG P.1 (by rw[<-P.2.2.1];exact P.1);dsimp[mC] at*;simp_all};.obtain⟨k,i,rfl⟩:=bg.mp j;obtain⟨p,q⟩:=T7 P (by simpa using i);exact⟨p,q.mono JN⟩
def L4(P:J0 a b){i j}(hi:i<a.length)(l:j<b.length):∃w,(vg a b)[i]?=some w/\w.length=b.length/\w[j]?=some (bQ (cf (kX (a.getD i bI) (b.getD j bI)) (ck (mC a b))):Int):=by have k:b.length*i+j<a.length*b.length:=by{rw[cN a.length];have:b.length*(i+1)<=b.length*a.length:=cW _ hi;rw[xi] at this;omega};have o:b.length*i+b.length<=a.length*b.length:=by{rw[cN a.length];have:b.length*(i+1)<=b.length*a.length:=cW _ hi;rw[xi] at this;simp_all};have m:(aO (c5 (mC a b))).length=a.length*b.length:=by{simp[aO,c5,mC]};refine⟨((aO (c5 (mC a b))).drop (b.length*i)).take b.length,by simp[vg,hi],by rw[kh,cX,m];lia,?_⟩;rw[m9 l,lX];have n:dst a b (b.length*i+j)=kX (a.getD i bI) (b.getD j bI):=by{unfold dst;rw[QC (by lia),NA l,QE,oh l];rfl};simp only[aO,c5,aP,mC,dh k,oe,n];rfl
theorem vJ(f:bP->Nat):∀(xs:List bP) (v:Nat),(xs.map λx=>(f x:Int)).foldl (·*·) (v:Int)=((xs.foldl (λv x=>v*f x) v:Nat):Int)|[],v=>rfl|x::xs,v=>by rw[aX,cA,cA,<-vJ f xs];push_cast;rfl
def P7(P:J0 a b){p}(s:p.length=a.length)(o:∀x∈p,x<b.length):uz (vg a b) p=((((aj a.length).map λi=>kX (a.getD i bI) (b.getD (p.getD i 0) bI)).foldl (λv x=>v*bQ (cf x (ck (mC a b)))) 1:Nat):Int):=by rw[<-vJ];unfold uz;congr 1;apply eW;intro i;by_cases hi:i<a.length;{have f:p[i]?=some (p.getD i 0):=by{rw[aA,ai Eg];rfl};have n:=o _ (cx f);obtain⟨w,r,t,q⟩:=L4 P hi n;have hz:((vg a b).zip p)[i]?=some (w,p.getD i 0):=yX.mpr ⟨r,f⟩;rw[aP,hz,aP,aP,dh hi];simp only[oe];rw[aA,q];rfl};.rw[bF (by simp;grind),bF (by simp;simp_all)]
def HW(P:J0 a b){p q}(u:p.length=a.length/\∀x∈p,x<b.length)(v:q.length=a.length/\∀x∈q,x<b.length):
  uz (vg a b) p<uz (vg a b) q↔bD (iL a b p) (iL a b q)=true:=by
 have h:∀r:List Nat,r.length=a.length/\(∀x∈r,x<b.length)->uz (vg a b) r=(CM.pw (λc=>(a0 (iL a b r) c -(a.length:Int)*a0 (ck (mC a b)) c).toNat):Int)/\∀c,c<6->(a.length:Int)*a0 (ck (mC a b)) c<=a0 (iL a b r) c:=λr s=>by
  obtain⟨A,z⟩:=FK (ck (mC a b)) ((aj a.length).map λi=>kX (a.getD i bI) (b.getD (r.getD i 0) bI)) bI (λ_=>0) 1 (λx B c m=>by
   obtain⟨i,hi,rfl⟩:=bg.mp B
   have hi:i<a.length:=by simpa using hi
   have o:r[i]?=some (r.getD i 0):=by
    rw[aA,ai Eg]
    rfl
   have w:=s.2 _ (cx o)
   refine floor_le ?_ m
   refine bg.mpr ⟨b.length*i+r.getD i 0,?_,?_⟩
   ·rw[gA,cN a.length]
    have:b.length*(i+1)<=b.length*a.length:=cW _ hi
    rw[xi] at this
    lia
   ·unfold dst
    rw[QC (by lia),NA w,QE,oh w]
    rfl) (λc m=>by rw[CM.cT m];decide) (by
   have:CM.pw (λc=>(a0 bI c -0).toNat)=CM.pw λ_=>0:=CM.eD λc m=>by rw[CM.cT m];rfl
   rw[this]
   rfl)
  rw[P7 P s.1 s.2,A]
  simp only[ak,dD,Int.zero_add] at z⊢
  exact⟨rfl,z⟩
 rw[(h p u).1,(h q v).1,uI]
 exact Uk (h p u).2 (h q v).2
def yp(P:J0 a b){f}{ps}(e:de a.length (aj a.length)=f::ps):y8 a b=best (uz (vg a b)) f ps:=by have g:∀p∈f::ps,p.length=a.length/\∀x∈p,x<b.length:=λp q=>by{rw[<-e] at q;obtain⟨t,s⟩:=mT _ _ (by simp) (nodup_range _) p q;exact⟨t,λx l=>by have:=s x l;rw[gA] at this;rw[<-P.2.2.1];exact this⟩};have n:∀F:Option (List Nat×bP)->List Nat->Option (List Nat×bP),(∀m p,F m p=Ws (iL a b) m p)->((f::ps).foldl F none).elim [] (λ(y:List Nat×bP)=>y.1)=best (uz (vg a b)) f ps:=λF r=>by{have:F=Ws (iL a b):=funext λm=>funext λp=>r m p;rw[this,cA];show(ps.foldl (Ws (iL a b)) (some (f,iL a b f))).elim [] _=_;rw[sY (uz (vg a b)) (iL a b) ps f λx l y u=>HW P (g x l) (g y u)];rfl};unfold y8;rw[e];exact n _ λm p=>by cases m<;>rfl
section
def k40(a b:List Int)(i:az a=true)(f:az b=true):GG.d3 40 [.ints a,.ints b]=some (.ints (kX a b)):=kP<|by have l:=CM.bX i;have k:=CM.bX f;have e:=Vh a b (.ints a) (.ints b) rfl rfl l k 8 8 JN (CM.cw i) (CM.cw f);unfold kX;by_cases h:bD a b=true;{rw[au h];exact⟨_,.fH (eT (bj (gd rfl rfl) e) rfl (xk.mpr (zr.mpr h))) (.ret (bj (Bk rfl rfl (oR rfl) rfl) (k4 1 (-1) b a (.ints b) (.ints a) rfl rfl k l uP vB (gy f) (gy i)))) gq⟩};.rw[ax h];exact⟨_,.iff (eF (bj (gd rfl rfl) e) rfl (mR.mpr (mt zr.mp h))) .nil (.ret (bj (Bk rfl rfl (oR rfl) rfl) (k4 1 (-1) a b (.ints a) (.ints b) rfl rfl l k uP vB (gy i) (gy f))))⟩
def k41(a b:List (List Int))(P:J0 a b):GG.d3 41 [.rows a,.rows b]=some (.rows (vg a b)):=kP<|by obtain⟨B,w,N,z,y⟩:=P;have Q:a.length*b.length<=25:=cE w (show b.length<=5 by simp_all);have M:(aO (c5 (mC a b))).length=a.length*b.length:=by{simp[aO,c5,mC]};have J:ev GG Wv [Rs a,Rs b,I b.length,none,none]=some (.rows (mC a b)):=by{show _=some (D.lst (((aj (a.length*b.length)).map (dst a b)).map D.ints));rw[aV];refine pI (Bf (n:=a.length*b.length) (by lia) ((jf (iG (dg rfl) (f6 a)) rfl (cp (by grind)) (cp (by grind))).trans (by push_cast;rfl))) λk t=>⟨_,rfl,?_⟩;have t:k<a.length*b.length:=by{simpa using t};have A:k/b.length<a.length:=(il (by omega)).mpr t;have C:k % b.length<b.length:=oF _ (by omega);have L:a[k/b.length]?=some (a.getD (k/b.length) bI):=by{rw[aA,ai A];rfl};have H:b[k % b.length]?=some (b.getD (k % b.length) bI):=by{rw[aA,ai C];rfl};refine bj (gd (fF rfl (KN rfl rfl (by omega) ?_) (by rw[mM];exact qd L)) (fF rfl (Bh rfl rfl (by omega)) (by rw[pA];exact qd H))) (k40 _ _ (z _ (getD_mem' A)) (y _ (getD_mem' C)));rw[bC];exact aJ ((gj (by lia)).mpr (by omega:b.length<2^3)) JN};refine⟨_,.JE (iG (dg rfl) (f6 b)) rfl (.JE (bj (dg J) (k8 _ (Gj ⟨B,w,N,z,y⟩))) rfl (.ret ?_))⟩;show _=some (D.lst (((aj a.length).map λi=>((aO (c5 (mC a b))).drop (b.length*i)).take b.length).map D.ints));rw[aV];have O:ev GG (.AL (cI 0) Bb 2) [Rs a,Rs b,I b.length,Ls (aO (c5 (mC a b))),none]=some (.lst ((aj a.length).map λ(i:Nat)=>D.int ((b.length*i:Nat):Int))):=by{have F:ev GG Bb [Rs a,Rs b,I b.length,Ls (aO (c5 (mC a b))),none]=some (.int ((a.length*b.length:Nat):Int)):=(iG (dg rfl) (dr _)).trans (by rw[M]);rw[ub rfl F rfl];show o7 0 ((a.length*b.length:Nat):Int) (b.length:Nat)=_;have x:lP 0 ((a.length*b.length:Nat):Int) (b.length:Nat)=a.length:=by{unfold lP;have:1<=a.length*b.length:=kG B (by lia);rw[au (by lia)];have e:((a.length*b.length:Nat):Int) -0 -1=((b.length:Int) -1)+((a.length:Int) -1)*(b.length:Int):=by{rw[Int.sub_mul];push_cast;lia};rw[e,CU _ _ (by omega),CV (by omega) (by lia)];simp_all};have:aG=16777216:=rfl;unfold o7;rw[au (by rw[x];lia),x,pT];congr 2;apply dS;intro i _;show D.int _=D.int _;congr 1;push_cast;rw[lL];simp_all};refine pI O λi hi=>⟨_,rfl,?_⟩;have v:=Ig (G:=GG) (ρ:=[Rs a,Rs b,I b.length,Ls (aO (c5 (mC a b))),I ((b.length*i:Nat):Int)]) (a:=.var 3) (b:=.pt 4) (c:=.pt (.bin .add 4 2)) (l:=(aO (c5 (mC a b))).map D.int) rfl (X5 rfl) (X5 (jA rfl rfl)) rfl rfl;rw[<-pK,pZ,show b.length*i+b.length -b.length*i=b.length by simp_all,<-fD,<-d7] at v;exact v
def xU(p)(i:Nat):(aO p).contains (i:Int)=p.contains i:=by rw[b0];simp[aO,cP];exact⟨λ⟨a,h,e⟩=>by rwa[show i=a by lia],λh=>⟨i,h,rfl⟩⟩
def Hm{i}:GQ (.int (i:Nat)) (.ints (aO p))=some (.bl (!p.contains i)):=by show(match Se ((aO p).map D.int) with|some b=>some (D.bl (!b.contains (i:Int)))|none=>none)=_;rw[eR];dsimp only;rw[xU]
abbrev B42:S:=V9
theorem Ag{row}{p}(v:gZ p.2)(y:∀x∈row,gZ x)(F:p.1.length<=5):∀(f) (acc) (r s),(∀i∈f,i<row.length)->acc.length+f.length<=10000->∃w A,Ex GG (.lp (.tp [5,6]) B42 (f.map λi=>D.tup [.int (i:Nat),.int (row.getD i 0)])) [d0,d1,some (.ow (acc.map rk)),Ls (aO p.1),I p.2,Op r,Op s] (.nx [d0,d1,some (.ow ((acc++ts row p f).map rk)),Ls (aO p.1),I p.2,Op w,Op A])|[],acc,r,s,_,_=>⟨r,s,by show Ex _ _ _ (.nx [d0,d1,some (.ow ((acc++[]).map rk)),_,_,_,_]);rw[bM];exact .lz⟩|i::f,acc,r,s,hi,M=>by rw[aI] at M;have H:=hi i ag;have B:∀j∈f,j<row.length:=λj L=>hi j (af _ L);have C:fO (.tp [5,6]) (.tup [.int (i:Nat),.int (row.getD i 0)]) [d0,d1,some (.ow (acc.map rk)),Ls (aO p.1),I p.2,Op r,Op s]=some [d0,d1,some (.ow (acc.map rk)),Ls (aO p.1),I p.2,I i,I (row.getD i 0)]:=by{cases r<;>cases s<;>rfl};have u:ev GG (.IU 5 3) [d0,d1,some (.ow (acc.map rk)),Ls (aO p.1),I p.2,I i,I (row.getD i 0)]=some (.bl (!p.1.contains i)):=Hm;have N:row.getD i 0∈row:=ju H;rw[aX];cases q:(!p.1.contains i) with|true=>have e:ts row p (i::f)=(p.1++[i],p.2*row.getD i 0)::ts row p f:=by{unfold ts;rw[bU,au q];rfl};obtain⟨a,b,t⟩:=Ag v y F (d0:=d0) (d1:=d1) f (acc++[(p.1++[i],p.2*row.getD i 0)]) (some (.int i)) (some (.int (row.getD i 0))) B (by simp;omega);rw[e];rw[bu,ik] at t;rw[q] at u;have:aG=16777216:=rfl;have J:ev GG V2 [d0,d1,some (.ow (acc.map rk)),Ls (aO p.1),I p.2,I i,I (row.getD i 0)]=some (rk (p.1++[i],p.2*row.getD i 0)):=by{refine(qV (gd (xK rfl (kQ (dg rfl)) (by simp[aO];lia)) (jf rfl rfl v (y _ N)))).trans ?_;show some (D.tup [.lst ((aO p.1).map D.int++[.int (i:Nat)]),_])=some (D.tup [.lst (((p.1++[i]).map cP).map D.int),_]);rw[bW,bW];rfl};refine⟨a,b,.ln C (.Jn u (.app J rfl (by simp;lia) .nil) .nil) ?_⟩;have G:acc.map rk++[rk (p.1++[i],p.2*row.getD i 0)]=(acc++[(p.1++[i],p.2*row.getD i 0)]).map rk:=by{rw[bW];rfl};rw[G];exact t|false=>have e:ts row p (i::f)=ts row p f:=by{unfold ts;rw[bU,ax (by rw[q];decide)]};obtain⟨a,b,t⟩:=Ag v y F (d0:=d0) (d1:=d1) f acc (some (.int i)) (some (.int (row.getD i 0))) B (by omega);rw[e];rw[q] at u;exact⟨a,b,.ln C (.iff u .nil .nil) t⟩
def Hz(row:List Int):gx 0 (row.map D.int)=(aj row.length).map λi=>D.tup [.int (i:Nat),.int (row.getD i 0)]:=by rw[zj D.int row 0];apply eW;intro i;rw[aP,aP,E9];by_cases h:i<row.length;{rw[dh h,ai h];simp[aA,ai h]};.rw[bF (by omega),bF (by simp;omega)];rfl
abbrev P42(a:List Ld)(row:List Int):Prop:=a.length<=300/\row.length<=5/\(∀p∈a,gZ p.2/\p.1.length<=5)/\∀x∈row,gZ x
theorem GH{row}(G:row.length<=5)(H:∀x∈row,gZ x):∀(l acc) (u t j k),(∀p∈l,gZ p.2/\p.1.length<=5)->acc.length+l.length*5<=5000->∃A y z w,Ex GG (.lp (.tp [3,4]) (.fr (.tp [5,6]) (.DW 1) B42 .nil) (l.map rk)) [d0,Ls row,some (.ow (acc.map rk)),Op u,Op t,Op j,Op k] (.nx [d0,Ls row,some (.ow ((acc++ext l row).map rk)),Op A,Op y,Op z,Op w])|[],acc,u,t,j,k,_,_=>⟨u,t,j,k,by show Ex _ _ _ (.nx [d0,_,some (.ow ((acc++[]).map rk)),_,_,_,_]);rw[bM];exact .lz⟩|p::l,acc,u,t,j,k,B,J=>by obtain⟨M,p2⟩:=B p ag;rw[aI] at J;obtain⟨a,b,R⟩:=Ag M H p2 (d0:=d0) (d1:=Ls row) (aj row.length) acc j k (λi hi=>by simpa using hi) (by simp;lia);have P:(ts row p (aj row.length)).length<=5:=by{unfold ts;rw[ak];refine aM (dA _ _) ?_;simpa using G};obtain⟨c,d,e,f,N⟩:=GH G H (d0:=d0) l (acc++ts row p (aj row.length)) (some (.ints (aO p.1))) (some (.int p.2)) a b (λq O=>B q (af _ O)) (by rw[bo];lia);have Q:fO (.tp [3,4]) (rk p) [d0,Ls row,some (.ow (acc.map rk)),Op u,Op t,Op j,Op k]=some [d0,Ls row,some (.ow (acc.map rk)),Ls (aO p.1),I p.2,Op j,Op k]:=by{cases u<;>cases t<;>rfl};have L:ev GG (.DW 1) [d0,Ls row,some (.ow (acc.map rk)),Ls (aO p.1),I p.2,Op j,Op k]=some (.lst ((aj row.length).map λi=>D.tup [.int (i:Nat),.int (row.getD i 0)])):=(R0 rfl rfl).trans (by rw[Hz]);refine⟨c,d,e,f,.ln Q (.fr L R .nil) ?_⟩;have:acc++ts row p (aj row.length)++ext l row=acc++ext (p::l) row:=by{rw[bu];rfl};rw[<-this];exact N
def k42(f)(row)(h:P42 f row):GG.d3 42 [.lst (f.map rk),.ints row]=some (.lst ((ext f row).map rk)):=kP<|by obtain⟨p,n,l,m⟩:=h;obtain⟨a,b,c,d,k⟩:=GH n m (d0:=some (.pl (.lst (f.map rk)))) f [] none none none none l (by dsimp;lia);rw[eC] at k;exact⟨_,.own rfl rfl (.fr (ig rfl) k (.ret rfl))⟩
theorem B5:∀l:List Ld,keyed (l.map rk)=some (l.map λp=>(rk p,p.2))|[]=>rfl|p::l=>by show(keyed (l.map rk)).map _=_;rw[B5 l];rfl
def Pa(P:J0 a b):∀w∈vg a b,w.length=a.length/\∀x∈w,x.natAbs<=2^3001:=λw v=>by obtain⟨i,hi,rfl⟩:=bg.mp v;have hi:i<a.length:=by{simpa using hi};obtain⟨t,p,q,_⟩:=L4 P hi (j:=0) (by rw[<-P.2.2.1];exact P.1);have e:t=((aO (c5 (mC a b))).drop (b.length*i)).take b.length:=by{simp[vg,hi] at p;exact p.symm};rw[<-e];refine⟨by rw[q,P.2.2.1],λx o=>?_⟩;rw[e] at o;have:=qt (Fb o);obtain⟨n,u,rfl⟩:=bg.mp this;obtain⟨r,s,rfl⟩:=bg.mp u;have l:=Gj P;have:=vM (pU (l.2 r s).2 (Cd l).2);show(mj ((_:Nat):Int))<=_;rw[bC];grind
def Pg(k)(B:∀w∈k,∀x∈w,x.natAbs<=2^3001)(p):(uz k p).natAbs<=2^(3001*k.length):=by have j:∀(l:List Int) (v:Int),(∀x∈l,x.natAbs<=2^3001)->(l.foldl (·*·) v).natAbs<=v.natAbs*2^(3001*l.length):=by{intro l;induction l with|nil=>intro v _;simp|cons x l t=>intro v h;rw[cA];refine aM (t (v*x) λy C=>h y (af _ C)) ?_;rw[cZ,aI,xi,kI,gP,cR,cN (2^(3001*l.length))];exact cW _ (aZ _ (h x ag))};unfold uz;refine aM (j _ 1 λx s=>?_) ?_;{obtain⟨q,z,rfl⟩:=bg.mp s;have A:=(df z).1;rw[aA];cases e:q.1[q.2]? with|none=>exact fJ _|some y=>exact B _ A y (cx e)};.rw[show(1:Int).natAbs=1 from rfl,qy];exact dI JN (cW _ (by rw[ak,gc];lia))
theorem FX{n}(t:n<=5):∀(us c) (o),c.length+us.length=n->(∀w∈c++us,w.length=n/\∀x∈w,x.natAbs<=2^3001)->∃l,Ex GG (.lp (.nm 3) (.JE 2 (.cM 42 qK) .nil) (us.map D.ints)) [d0,d1,some (.pl (.lst (((de c.length (aj n)).map λp=>(p,uz c p)).map rk))),Op o,none] (.nx [d0,d1,some (.pl (.lst (((de n (aj n)).map λp=>(p,uz (c++us) p)).map rk))),Op l,none])|[],c,o,h,k=>by rw[kW,lO] at h;rw[bM,h];exact⟨o,.lz⟩|u::us,c,o,h,k=>by rw[aI] at h;have y:=k u (by simp);obtain⟨l,j⟩:=FX (d0:=d0) (d1:=d1) t us (c++[u]) (some (.ints u)) (by simp;lia) (by rw[bu];exact k);rw[bu,ik] at j;have hP:P42 ((de c.length (aj n)).map λp=>(p,uz c p)) u:=by{refine⟨by rw[ak];exact Lb n t _ (by omega),by omega,λp z=>?_,λx j=>l8 (y.2 x j) JN⟩;obtain⟨q,A,rfl⟩:=bg.mp z;have:=Pg c (λw m=>(k w (gg _ m)).2) q;exact⟨l8 (K:=3001*c.length) this (by omega),by rw[(mT _ _ (by simp;lia) (nodup_range n) q A).1];omega⟩};have v:=k42 _ u hP;rw[KG (by lia) y.1] at v;refine⟨l,.ln (i7:=[d0,d1,some (.pl (.lst (((de c.length (aj n)).map λp=>(p,uz c p)).map rk))),Ls u,none]) (by cases o<;>rfl) (.JE (bj (gd rfl rfl) v) rfl .nil) ?_⟩;have e:(c++[u]).length=c.length+1:=by{simp};rw[e] at j;exact j
def k43(a b:List (List Int))(P:J0 a b):GG.d3 43 [.rows a,.rows b]=some (.ints (aO (y8 a b))):=kP<|by have v:(vg a b).length=a.length:=by{simp[vg]};obtain⟨o,t⟩:=FX (d0:=Rs a) (d1:=Rs b) P.2.1 (vg a b) [] none (by simpa using v) (Pa P);rw[eC] at t;obtain⟨h,ps,e⟩:∃h ps,de a.length (aj a.length)=h::ps:=by{have:∀n,n<=5->(de n (aj n)).isEmpty=false:=zv;have:=this a.length P.2.1;cases q:de a.length (aj a.length) with|nil=>rw[q] at this;cases this|cons h ps=>exact⟨h,ps,rfl⟩};rw[yp P e];refine⟨_,.JE (kQ (dg (qV (gd (kQ DN) rfl)))) rfl (.fr (ig (bj (gd rfl rfl) (k41 a b P))) t (.EM (d:=rk (best (uz (vg a b)) h ps,uz (vg a b) (best (uz (vg a b)) h ps))) rfl ?_ rfl (.ret rfl)))⟩;show(match keyed _ with|some (x::r)=>some (my x r)|_=>none)=_;rw[B5,e];have:=wg (λp=>uz (vg a b) p) (λp=>rk (p,uz (vg a b) p)) ps h;simp only[aX,aV];exact ip some this
end
abbrev Pr:=Nat×Nat
def t9(q:Pr):D:=.tup [.int q.1,.int q.2]
def BB(x:bP):Pr:=(CM.nd x,bQ x)
def two(n u p k:Nat):List Pr:=[(n*p^(k+1),u*p^(k+1)),(n*p^(k+1),u)]
def Vt(p most:Nat)(l:List Pr):List Pr:=l++l.flatMap λq=>(CM.ks q.1 p most).flatMap λk=>two q.1 q.2 p k
def NS{j most}(q:j<6){l}(h:∀x∈l,x.length=6/\a0 x j=0):Vt (eQ j) most (l.map BB)=(CM.Vl j most l).map BB:=by delta Vt CM.Vl;rw[bW,nY,nX];congr 1;apply CM.i6;intro x n;unfold CM.BP;rw[nX];apply CM.i6;intro k _;obtain⟨a,b,c,d⟩:=CM.vQ (h x n).1 q (h x n).2 (k+1);show two (CM.nd x) (bQ x) _ k=[(_,_),(_,_)];rw[a,b,c,d];rfl
def K9{ψ most j}(g:j<6):∀x∈CM.gen ψ most j,x.length=6/\a0 x j=0:=λx l=>by obtain⟨⟨k,_⟩,h⟩:=(CM.rR j (by lia) x).mp l;refine⟨k,?_⟩;apply bq;intro z;have:=(h j g z).1;lia
def Lu(ψ most){j}(c:j<6):(CM.gen ψ most (j+1)).map BB=if ψ.testBit j=true then Vt (eQ j) most ((CM.gen ψ most j).map BB) else(CM.gen ψ most j).map BB:=by rw[CM.gen];split;{rw[NS c (K9 c)]};.rfl
theorem v7:∀e:List Nat,(Di e).length<=2^e.length|[]=>by decide|e::r=>by have k:=v7 r;unfold Di;rw[aI,gh];split;{rw[ak];lia};.have:∀l:List bP,(l.flatMap λ(x:bP)=>[(e:Int)::x,-(e:Int)::x]).length=2*l.length:=by{intro l;induction l with|nil=>rfl|cons y l k=>rw[eB,bo,k,aI];dsimp;lia};rw[this];lia
def F5(most:Nat)(g):(CM.Az most g).length<=most*64:=by have hw:∀n,(jx n).length<=64:=λn=>by{unfold jx;dsimp only;split;{rw[(CM.m6 _).1.length_eq];exact v7 _};.simp};unfold CM.Az;have:∀l:List Nat,(l.flatMap λ(i:Nat)=>(jx (i+1)).filter g).length<=l.length*64:=by{intro l;induction l with|nil=>simp|cons i l v=>have u:=dA g (jx (i+1));have t:=hw (i+1);rw[eB,bo,aI];lia};have:=this (aj most);rwa[dD] at this
theorem zx(ψ){most}(i:most<=500):∀d j,j+d=6->(CM.gen ψ most j).length<=32000|0,j,h=>by have:j=6:=by{omega};subst this;rw[(CM.BZ ψ i).length_eq];have:=F5 most (CM.J9 ψ);lia|d+1,j,h=>by have:=zx ψ i d (j+1) (by lia);rw[CM.gen] at this;split at this;{unfold CM.Vl at this;rw[bo] at this;lia};.exact this
def Hu{ψ most j}(l:most<=500)(f:j<=6):∀q∈(CM.gen ψ most j).map BB,1<=q.1/\q.1<=500/\q.2<=500:=λq e=>by obtain⟨x,i,rfl⟩:=bg.mp e;have h:=((CM.rR j f x).mp i).1.2;have k:bQ x<=CM.nd x:=fb _ (CM.JP x);exact⟨CM.vH x,by show CM.nd x<=500;lia,by show bQ x<=500;lia⟩
section
abbrev B44:S:=Xd
def Qv{p most n u:Nat}(P:2<=p)(hp13:p<=13)(Y:most<=500)(B:1<=n)(n5:n<=500)(Z:u<=500):∀(f k) (acc),k+f=most->p^(k+1)<=6500->acc.length+1000<100000+2*k->∃z:Int,Ex GG (.wl Qe B44) [d0,I p,I most,some (.ow (acc.map t9)),I n,I u,I (p^(k+1):Nat)] (.nx [d0,I p,I most,some (.ow ((acc++(((fE k f).filter λk=>decide (n*p^(k+1)<=most)).flatMap λk=>two n u p k)).map t9)),I n,I u,I z]):=by intro f;induction f with|zero=>intro k acc R N M;have X:k+1<p^(k+1):=aJ (Jb (n:=k+1)) (dw P _);have Q:1*p^(k+1)<=n*p^(k+1):=aZ _ B;refine⟨((p^(k+1):Nat):Int),?_⟩;rw[List.range'_zero,List.filter_nil,nZ,bM];exact .wz (eF (jf rfl rfl (cp (by grind)) (cp (by omega))) rfl (OT.mpr (by rw[<-eE];grind)))|succ f J=>intro k acc R N M;have r:gZ (n:Int):=cp (by lia);have H:gZ (u:Int):=cp (by grind);have i:gZ ((p^(k+1):Nat):Int):=cp (by omega);have G:gZ (p:Int):=cp (by grind);have W:aG=16777216:=rfl;by_cases q:n*p^(k+1)<=most;{have v:p^(k+1)<=500:=by{have Q:1*p^(k+1)<=n*p^(k+1):=aZ _ B;lia};have w:p^(k+1+1)<=6500:=by{rw[gh];exact aM (cE v hp13) JN};obtain⟨z,C⟩:=J (k+1) (acc++two n u p k) (by lia) w (by simp[two];grind);have U:ev GG Qe [d0,I p,I most,some (.ow (acc.map t9)),I n,I u,I (p^(k+1):Nat)]=some (.bl true):=eT (jf rfl rfl r i) rfl (Nb.mpr (by rw[<-eE];grind));have F:∀{l:List D},ev GG Rn [d0,I p,I most,some (.ow l),I n,I u,I (p^(k+1):Nat)]=some (t9 (n*p^(k+1),u*p^(k+1))):=(qV (gd (jf rfl rfl r i) (jf rfl rfl H i))).trans (by rw[<-eE,<-eE];rfl);have L:∀{l:List D},ev GG (.tup (A2 L1 5)) [d0,I p,I most,some (.ow l),I n,I u,I (p^(k+1):Nat)]=some (t9 (n*p^(k+1),u)):=(qV (gd (jf rfl rfl r i) rfl)).trans (by rw[<-eE];rfl);have T:∀{l:List D},ev GG (.bin .mul 6 1) [d0,I p,I most,some (.ow l),I n,I u,I (p^(k+1):Nat)]=some (.int ((p^(k+1+1):Nat):Int)):=(jf rfl rfl i G).trans (by rw[<-eE];rfl);refine⟨z,.wn U (.app F rfl (by simp;omega) (.app L rfl (by simp;omega) (.JE T rfl .nil))) ?_⟩;rw[nW,bU,au (by simpa using q),eB,<-bu];have:acc.map t9++[t9 (n*p^(k+1),u*p^(k+1))]++[t9 (n*p^(k+1),u)]=(acc++two n u p k).map t9:=by{rw[bW,bu];rfl};rw[this];exact C};.refine⟨((p^(k+1):Nat):Int),?_⟩;have:((fE k (f+1)).filter λk=>decide (n*p^(k+1)<=most))=[]:=by{apply oA.mpr;intro O x;have:=List.mem_range'_1.mp x;have h3:n*p^(k+1)<=n*p^(O+1):=cW _ (dI (by lia) Eg);dsimp;grind};rw[this,nZ,bM];exact .wz (eF (jf rfl rfl r i) rfl (OT.mpr (by rw[<-eE];grind)))
abbrev P44(l:List Pr)(p most:Nat):Prop:=2<=p/\p<=13/\most<=500/\(∀q∈l,1<=q.1/\q.1<=500/\q.2<=500)/\(Vt p most l).length<=90000
theorem GR{p most}(A:2<=p)(g:p<=13)(F:most<=500):∀(l acc:List Pr) (r o m),(∀q∈l,1<=q.1/\q.1<=500/\q.2<=500)->acc.length+(l.flatMap λq=>(CM.ks q.1 p most).flatMap λk=>two q.1 q.2 p k).length<=90000->∃v w y,Ex GG (.lp (.tp [4,5]) (.JE 6 1 (.kF Qe B44 .nil)) (l.map t9)) [d0,I p,I most,some (.ow (acc.map t9)),Op r,Op o,Op m] (.nx [d0,I p,I most,some (.ow ((acc++l.flatMap λq=>(CM.ks q.1 p most).flatMap λk=>two q.1 q.2 p k).map t9)),Op v,Op w,Op y])|[],acc,r,o,m,_,_=>⟨r,o,m,by rw[nZ,bM];exact .lz⟩|(n,u)::l,acc,r,o,m,C,B=>by obtain⟨J,L,M⟩:=C (n,u) ag;rw[eB,bo] at B;have H:CM.ks n p most=(fE 0 most).filter λk=>decide (n*p^(k+1)<=most):=by{rw[CM.ks,List.range_eq_range']};obtain⟨z,G⟩:=Qv (d0:=d0) A g F J L M most 0 acc Eg (by rw[fA,GX];lia) (by lia);rw[<-H,fA,GX] at G;obtain⟨a,b,c,N⟩:=GR (d0:=d0) A g F l (acc++(CM.ks n p most).flatMap λk=>two n u p k) (some (.int n)) (some (.int u)) (some (.int z)) (λq h=>C q (af _ h)) (by rw[bo];dsimp only at B;lia);refine⟨a,b,c,.ln (i7:=[d0,I p,I most,some (.ow (acc.map t9)),I n,I u,Op m]) (by cases r<;>cases o<;>rfl) (.JE rfl (by cases m<;>rfl) (.kF G .nil)) ?_⟩;rw[eB,<-bu];exact N
def k44(l)(p most)(h:P44 l p most):GG.d3 44 [.lst (l.map t9),.int p,.int most]=some (.lst ((Vt p most l).map t9)):=kP<|by obtain⟨n,m,i,j,f⟩:=h;unfold Vt at f;rw[bo] at f;obtain⟨a,b,c,k⟩:=GR (d0:=some (.pl (.lst (l.map t9)))) n m i l l none none none j f;exact⟨_,.own rfl rfl (.fr (ig rfl) k (.ret rfl))⟩
abbrev Fr:=Int×Int
def m4(p:Fr):D:=.tup [.int p.1,.int p.2]
def B9(x:bP):Fr:=((bQ x:Int),(cO x:Int))
def Tc(ψ j:Nat):fU .eq (RH ((ψ:Int)/2^j) 2) 1=ψ.testBit j:=by rw[Nat.testBit_eq_decide_div_mod_eq,b0,xk,bz];have:((ψ:Int)/2^j)=((ψ/2^j:Nat):Int):=by{rw[Nv];push_cast;rfl};rw[this,show(2:Int)=((2:Nat):Int) from rfl,pA];omega
theorem FZ{ψ most:Nat}(o:most<=500):∀(d j) (l m),j+d=6->∃v u,Ex GG (.lp (.tp [3,4]) Xg ((fE j d).map λj=>D.tup [.int (j:Nat),.int (eQ j:Nat)])) [I most,I ψ,some (.pl (.lst (((CM.gen ψ most j).map BB).map t9))),Op l,Op m,none,none] (.nx [I most,I ψ,some (.pl (.lst (((CM.gen ψ most 6).map BB).map t9))),Op v,Op u,none,none])|0,j,l,m,h=>by have:j=6:=by{omega};subst this;exact⟨l,m,.lz⟩|d+1,j,l,m,h=>by obtain⟨a,b,t⟩:=FZ (ψ:=ψ) o d (j+1) (some (.int j)) (some (.int (eQ j:Nat))) (by lia);have w:j<6:=by{lia};have A:∀i,i<6->2<=eQ i/\eQ i<=13:=JN;have C:=zx ψ o d (j+1) (by lia);have n:=Lu ψ most w;rw[nW,aX];have r:∀{z:Option Ent},ev GG Yj [I most,I ψ,z,I j,I (eQ j:Nat),none,none]=some (.bl (ψ.testBit j)):=λ{z}=>by{have es:ev GG (.bin .shr 1 3) [I most,I ψ,z,I j,I (eQ j:Nat),none,none]=some (.int ((ψ:Int)/2^j)):=by{show(if(0:Int)<=(j:Int) then some (D.int ((ψ:Int)/2^((j:Int)).toNat)) else none)=_;rw[au Eg,bH]};exact(hC (Bh es rfl JN) rfl).trans (by rw[Tc])};have y:fO (.tp [3,4]) (.tup [.int (j:Nat),.int (eQ j:Nat)]) [I most,I ψ,some (.pl (.lst (((CM.gen ψ most j).map BB).map t9))),Op l,Op m,none,none]=some [I most,I ψ,some (.pl (.lst (((CM.gen ψ most j).map BB).map t9))),I j,I (eQ j:Nat),none,none]:=by{cases l<;>cases m<;>rfl};cases q:ψ.testBit j with|true=>rw[au q] at n;have B:=k44 ((CM.gen ψ most j).map BB) (eQ j) most ⟨(A j w).1,(A j w).2,o,Hu o (by grind),by rw[<-n,ak];lia⟩;rw[<-n] at B;rw[q] at r;exact⟨a,b,.ln y (.Jn r (.JE (bj (vr rfl rfl rfl) B) rfl .nil) .nil) t⟩|false=>rw[ax (by rw[q];decide)] at n;rw[n] at t;rw[q] at r;exact⟨a,b,.ln y (.iff r .nil .nil) t⟩
def NU(l:List Fr):wC (l.map λp=>D.tup [.int p.1,.int p.2])=some l:=by induction l with|nil=>rfl|cons p l d=>show(wC (l.map λp=>D.tup [.int p.1,.int p.2])).map _=_;rw[d];rfl
abbrev P45(most ψ:Nat):Prop:=most<=500/\ψ<=63
def k45(most ψ)(h:P45 most ψ):GG.d3 45 [.int most,.int ψ]=some (.lst (((CM.Az most (CM.J9 ψ)).map B9).map m4)):=kP<|by obtain⟨l,H⟩:=h;obtain⟨a,b,t⟩:=FZ (ψ:=ψ) l 6 0 none none rfl;have A:ev GG We [I most,I ψ,none,none,none,none,none]=some (.lst (((CM.gen ψ most 0).map BB).map t9)):=by{refine Cq (hC rfl rfl) (λq=>?_) λq=>?_;{have:1<=most:=by{have:=cGe.mp q;omega};rw[CM.gen,au this];rfl};.have:¬1<=most:=by{have:=TB.mp q;lia};rw[CM.gen,ax this];rfl};have C:ev GG (.DW BI) [I most,I ψ,some (.pl (.lst (((CM.gen ψ most 0).map BB).map t9))),none,none,none,none]=some (.lst ((fE 0 6).map λj=>D.tup [.int (j:Nat),.int (eQ j:Nat)])):=rfl;let o:bP->Fr:=λx=>((CM.nd x:Int),(bQ x:Int));have z:(CM.Az most (CM.J9 ψ)).map o=su ((CM.gen ψ most 6).map o):=by{refine Bx ((CM.BZ ψ l).symm.map o) ?_;rw[mK];refine(CM.Sg l _).imp λ{x y} h=>?_;unfold AE;rw[dM];rcases h with h|⟨F,w⟩;{exact .inl (fC (uI.mpr h))};.refine .inr ?_;rw[aa];exact⟨fC (ip Int.ofNat F),fC (oG.mpr w)⟩};have B:ev GG (.uf (.vG 2)) [I most,I ψ,some (.pl (.lst (((CM.gen ψ most 6).map BB).map t9))),Op a,Op b,none,none]=some (.lst ((CM.Az most (CM.J9 ψ)).map λx=>D.tup [.int (CM.nd x:Nat),.int (bQ x:Nat)])):=by{have G:((CM.gen ψ most 6).map BB).map t9=((CM.gen ψ most 6).map o).map λp=>D.tup [.int p.1,.int p.2]:=by{rw[aV,aV];rfl};have es:ev GG (.vG 2) [I most,I ψ,some (.pl (.lst (((CM.gen ψ most 6).map BB).map t9))),Op a,Op b,none,none]=some (.lst ((CM.Az most (CM.J9 ψ)).map λx=>D.tup [.int (CM.nd x:Nat),.int (bQ x:Nat)])):=by{show(match wC (((CM.gen ψ most 6).map BB).map t9) with|some r=>if r.length<=aG then some (D.lst ((su r).map λ(p:Fr)=>.tup [.int p.1,.int p.2])) else none|none=>none)=_;rw[G,NU];dsimp only;have:=zx ψ l 0 6 rfl;have hz:aG=16777216:=rfl;rw[au (by rw[ak];lia),<-z,aV];rfl};exact ig es};refine⟨_,.JE A rfl (.fr C t (.ret (Eq.trans (b:=some (D.lst ((CM.Az most (CM.J9 ψ)).map λx=>m4 (B9 x)))) ?_ (by rw[aV];rfl))))⟩;refine pI B λx t=>⟨_,rfl,?_⟩;have v:=CM.j3 x;have u:bQ x<=500:=aM (fb _ (CM.JP x)) (aM ((CM.zH l).mp t).1.2 l);refine(qV (gd rfl (KN rfl rfl (by omega) ?_))).trans ?_;{rw[bC];exact aJ ((gj (by lia)).mpr (by omega:bQ x<2^9)) JN};.rw[mM,show CM.nd x=bQ x*cO x from rfl,gF _ v];rfl
def LS(a b:Fr):Bool:=fU .lt (a.1*b.2) (b.1*a.2)
abbrev Bc(a:Fr):Prop:=gZ a.1/\gZ a.2
def zI(x y):LS (B9 x) (B9 y)=bD x y:=by rw[b0,CM.i9,LS,Hw];show(bQ x:Int)*(cO y:Int)<(bQ y:Int)*(cO x:Int)↔_;rw[<-eE,<-eE,uI]
def YS(a b)(fa:Bc a)(c:Bc b):GG.d3 46 [m4 a,m4 b]=some (.bl (LS a b)):=kP<|⟨_,.ret (hC (jf (fF rfl rfl rfl) (fF rfl rfl rfl) fa.1 c.2) (jf (fF rfl rfl rfl) (fF rfl rfl rfl) c.1 fa.2))⟩
def Fp{M}(h:CM.Bd M x)(a:M<=60000):Bc (B9 x):=⟨ma h a,nJ h a⟩
def GW{most}(f:most<=500){g}{x}(e:x∈CM.Az most g):Bc (B9 x):=by have h:=((CM.zH f).mp e).1.2;have j:bQ x<=CM.nd x:=fb _ (CM.JP x);have i:cO x<=CM.nd x:=CT _ (CM.j3 x);exact⟨cp (by show mj (bQ x:Int)<_;omega),cp (by show mj (cO x:Int)<_;omega)⟩
abbrev P47(most ψ:Nat)(b a:List Int):Prop:=P45 most ψ/\az b=true/\az a=true
def k47(most ψ)(b a)(h:P47 most ψ b a):GG.d3 47 [.int most,.int ψ,.ints b,.ints a]=some (.lst (((cG ⟨b,a,most,ψ⟩).map B9).map m4)):=kP<|by obtain⟨h1,h2,h3⟩:=h;have i:=Fp (CM.cw h2) JN;have fh:=Fp (CM.cw h3) JN;refine⟨_,.JE (qV (gd (bj (dg rfl) (k6 b (CM.bX h2) i.1)) (bj (dg rfl) (k7 b (CM.bX h2) i.2)))) rfl (.JE (qV (gd (bj (dg rfl) (k6 a (CM.bX h3) fh.1)) (bj (dg rfl) (k7 a (CM.bX h3) fh.2)))) rfl (.ret ?_))⟩;rw[CM.cands,aV];have k5:=k45 most ψ h1;rw[aV] at k5;refine Ki (ig (bj (gd rfl rfl) k5)) λx q=>⟨_,rfl,?_,λ_=>rfl⟩;have fx:=GW h1.1 q;have a1:=YS (B9 x) (B9 b) fx i;have a2:=YS (B9 a) (B9 x) fh fx;rw[zI] at a1 a2;exact Jo (pB (qk (bj (gd rfl rfl) a1))) λ_=>lI (pB (qk (bj (gd rfl rfl) a2)))
def sf:SM (.lst (d::l)) (.int 0)=some d:=zQ (i:=0) (x:=d) rfl
def uM(a:Int)(x:Fr)(r:List Fr):List Fr:=if a=2 then r.filter (λy=>LS y x) else if a=3 then r.filter (λy=>LS x y) else r
def k48(x)(r)(a)(h:∀y∈x::r,Bc y):GG.d3 48 [.lst ((x::r).map m4),.int a]=some (.lst ((uM a x r).map m4)):=kP<|by have n:=h x ag;have es:=Ig (G:=GG) (ρ:=[some (.pl (.lst ((x::r).map m4))),I a,some (.pl (m4 x)),none]) (a:=.var 0) (b:=.pt (cI 1)) (c:=.np) (l:=(x::r).map m4) (lo:=some ((1:Nat):Int)) (hi:=none) rfl rfl rfl rfl rfl;rw[rW] at es;have es:ev GG Ab [some (.pl (.lst ((x::r).map m4))),I a,some (.pl (m4 x)),none]=some (.lst (r.map m4)):=es;unfold uM;by_cases g:a=2;{rw[au g];refine⟨_,.JE (fF rfl rfl sf) rfl (.fH (eT rfl rfl (xk.mpr g)) (.ret (Ki (ig es) λy m=>⟨_,rfl,?_,λ_=>rfl⟩)) gq)⟩;exact qk (bj (gd rfl rfl) (YS y x (h y (af _ m)) n))};.rw[ax g];by_cases i:a=3;{rw[au i];refine⟨_,.JE (fF rfl rfl sf) rfl (.iff (eF rfl rfl (mR.mpr g)) .nil (.fH (eT rfl rfl (xk.mpr i)) (.ret (Ki (ig es) λy m=>⟨_,rfl,?_,λ_=>rfl⟩)) gq))⟩;exact qk (bj (gd rfl rfl) (YS x y n (h y (af _ m))))};.rw[ax i];exact⟨_,.JE (fF rfl rfl sf) rfl (.iff (eF rfl rfl (mR.mpr g)) .nil (.iff (eF rfl rfl (mR.mpr i)) .nil (.ret es)))⟩
def Yv(l:List Fr):List Int:=l.flatMap λp=>[p.1,p.2]
theorem F2:∀(l) (acc) (o),acc.length+2*l.length<=200000->∃g,Ex GG (.lp (.nm 3) (.ext 2 3 .nil) (l.map m4)) [d0,d1,some (.ow (acc.map D.int)),Op o] (.nx [d0,d1,some (.ow ((acc++Yv l).map D.int)),Op g])|[],acc,o,_=>⟨o,by rw[Yv,nZ,bM];exact .lz⟩|p::l,acc,o,h=>by rw[aI] at h;obtain⟨g,j⟩:=F2 (d0:=d0) (d1:=d1) l (acc++[p.1,p.2]) (some (m4 p)) (by simp;lia);have k:aG=16777216:=rfl;refine⟨g,.ln (i7:=[d0,d1,some (.ow (acc.map D.int)),some (.pl (m4 p))]) (by cases o<;>rfl) (.ext (l:=[.int p.1,.int p.2]) rfl rfl rfl (by simp;lia) .nil) ?_⟩;rw[bu] at j;have:acc.map D.int++[.int p.1,.int p.2]=(acc++[p.1,p.2]).map D.int:=by{rw[bW];rfl};rw[this];exact j
def k49(e)(l)(h:l.length<=90000):GG.d3 49 [.int e,.lst (l.map m4)]=some (.ints (e::(l.length:Int)::Yv l)):=kP<|by obtain⟨o,f⟩:=F2 (d0:=I e) (d1:=some (.pl (.lst (l.map m4)))) l [e,(l.length:Int)] none (by dsimp;lia);refine⟨_,.own (ds:=[.int e,.int (l.length:Nat)]) (kQ (gd rfl (iG (dg rfl) ?_))) rfl (.fr (ig rfl) f (.ret rfl))⟩;show some (D.int ((l.map m4).length:Nat))=_;rw[ak]
def mW:List Fr->List Int->Int×List Fr|l,[]=>(0,l)|[],_::_=>(0,[])|x::r,a::b=>if a=1 then(1,[x]) else((mW (uM a x r) b).1,x::(mW (uM a x r) b).2)
def Py(a)(x)(r:List bP):uM a (B9 x) (r.map B9)=(if a=2 then r.filter (λy=>bD y x) else if a=3 then r.filter (λy=>bD x y) else r).map B9:=by unfold uM;split;{rw[oE];congr 1;apply dC;intro y _;exact zI y x};.split;{rw[oE];congr 1;apply dC;intro y _;exact zI x y};.rfl
theorem Bg:∀(b) (l),mW (l.map B9) b=(((CM.r9 l b).1:Int),(CM.r9 l b).2.map B9)|[],l=>by cases l<;>rfl|a::b,[]=>rfl|a::b,x::r=>by rw[aX,mW,CM.r9];by_cases d:a=1;{rw[au d,au d];rfl};.rw[ax d,ax d,Py,Bg b];rfl
abbrev B50:S:=Wr
def outF(z:Int×List Fr):List Int:=z.1::(z.2.length:Int)::Yv z.2
theorem Gp:∀(k) (b d) (o),(∀y∈d,Bc y)->b.length+d.length<=40000->(∃(t l:List Fr) (J:Option D),t.length+l.length<=40000/\(mW d k).1=0/\b++(mW d k).2=t++l/\Ex GG (.lp (.nm 4) B50 (k.map D.int)) [d0,d1,some (.ow (b.map m4)),some (.pl (.lst (d.map m4))),Op o] (.nx [d0,d1,some (.ow (t.map m4)),some (.pl (.lst (l.map m4))),Op J]))\/(∃m,(mW d k).1=1/\Ex GG (.lp (.nm 4) B50 (k.map D.int)) [d0,d1,some (.ow (b.map m4)),some (.pl (.lst (d.map m4))),Op o] (.rt (.ints (outF (1,b++(mW d k).2))) m))|[],b,d,o,w,u=>.inl ⟨b,d,o,u,by cases d<;>rfl,by cases d<;>rfl,.lz⟩|a::k,b,[],o,w,u=>by refine .inl ⟨b,[],some (.int a),u,rfl,rfl,?_⟩;exact .lb (i7:=[d0,d1,some (.ow (b.map m4)),some (.pl (.lst [])),I a]) (by cases o<;>rfl) (.fH rfl .brk (λm z=>by cases z))|a::k,b,x::r,o,w,u=>by rw[aI] at u;have R:aG=16777216:=rfl;have F:fO (.nm 4) (.int a) [d0,d1,some (.ow (b.map m4)),some (.pl (.lst ((x::r).map m4))),Op o]=some [d0,d1,some (.ow (b.map m4)),some (.pl (.lst ((x::r).map m4))),I a]:=by{cases o<;>rfl};have N:ev GG (.cmp .eq Bb (cI 0)) [d0,d1,some (.ow (b.map m4)),some (.pl (.lst ((x::r).map m4))),I a]=some (.bl false):=eF (iG (dg rfl) rfl) rfl (mR.mpr (by simp;lia));have M:b.map m4++[m4 x]=(b++[x]).map m4:=by{rw[bW];rfl};dsimp only[mW];by_cases B:a=1;{rw[au B];right;have L:=k49 1 (b++[x]) (by simp;lia);rw[<-M] at L;exact⟨_,rfl,.lr F (.iff N .nil (.app (fF rfl rfl sf) rfl (by simp;lia) (.fH (eT rfl rfl (xk.mpr B)) (.ret (bj (gd rfl rfl) L)) gq)))⟩};.rw[ax B];have O:(uM a x r).length<=r.length:=by{unfold uM;split;{exact dA _ _};.split;{exact dA _ _};.exact aB _};have C:∀y∈uM a x r,Bc y:=λy s=>by{refine w y (af _ ?_);unfold uM at s;split at s;{exact(bV.mp s).1};.split at s;{exact(bV.mp s).1};.exact s};have n:Ex GG (.st B50) [d0,d1,some (.ow (b.map m4)),some (.pl (.lst ((x::r).map m4))),I a] (.nx [d0,d1,some (.ow ((b++[x]).map m4)),some (.pl (.lst ((uM a x r).map m4))),I a]):=by{rw[<-M];exact .iff N .nil (.app (fF rfl rfl sf) rfl (by simp;lia) (.iff (eF rfl rfl (mR.mpr B)) .nil (.JE (bj (gd rfl rfl) (k48 x r a w)) rfl .nil)))};rcases Gp (d0:=d0) (d1:=d1) k (b++[x]) (uM a x r) (some (.int a)) C (by simp;lia) with⟨t,l,J,P,H,Q,v⟩|⟨m,H,v⟩;{refine .inl ⟨t,l,J,P,H,?_,.ln F n v⟩;rw[<-Q,bu];rfl};.refine .inr ⟨m,H,.ln F n ?_⟩;rw[bu] at v;exact v
def k50(l)(c)(o:∀y∈l,Bc y)(s:l.length<=32000):GG.d3 50 [.lst (l.map m4),.ints c]=some (.ints (outF (mW l c))):=kP<|by have p:aG=16777216:=rfl;rcases Gp (d0:=some (.pl (.lst (l.map m4)))) (d1:=Ls c) c [] l none o (by simp;lia) with⟨t,m,q,r,j,k,g⟩|⟨i,j,g⟩;{rw[eC] at k;have e:mW l c=(0,t++m):=by{rw[<-j,<-k]};rw[e];have n:=k49 0 (t++m) (by simp;lia);rw[bW] at n;exact⟨_,.own rfl rfl (.JE rfl rfl (.fr (ig rfl) g (.ret (bj (gd rfl (xK rfl rfl (by simp;lia))) n))))⟩};.rw[eC] at g;have e:mW l c=(1,(mW l c).2):=by{rw[<-j]};rw[e];exact⟨i,.own rfl rfl (.JE rfl rfl (.QR (ig rfl) g gq))⟩
end
def mZ{i c:Nat}(h:t[i]?=some c):(aO t)[i]?=some (c:Int):=by unfold aO;rw[aP,h];rfl
def ei(t):(aO t).length=t.length:=ak _
def AJ(t)(i n):((aO t).drop i).take n=aO ((t.drop i).take n):=by unfold aO;rw[d7,fD]
section
def Kv(c:Nat):(fU .eq (c:Int) 32||fU .eq (c:Int) 10)=d9 c:=by unfold d9;rw[b0];simp[fU];lia
def Md(c:Nat):(fU .le 48 (c:Int)&&fU .le (c:Int) 57)=pM c:=by unfold pM;rw[b0];simp[fU];omega
def k80(c:Nat):GG.d3 80 [.int c]=some (.bl (d9 c)):=kP<|⟨_,.ret ((xC (hC rfl rfl) λ_=>lI (hC rfl rfl)).trans (by rw[Kv]))⟩
abbrev C81:E:=Ya
theorem Fo{i:Nat}:∀(f m),m+f=40->Ex GG (.wl C81 JU) [Ls (aO t),I i,I ((i+m:Nat):Int)] (.nx [Ls (aO t),I i,I ((i+m+CM.iR f (t.drop (i+m)):Nat):Int)])|0,m,h=>by rw[CM.yz,lO];refine .wz ((Jo (u:=false) (hC rfl (iG (dg rfl) (dr _))) λ_=>(Jo (u:=false) (eF rfl (jA rfl rfl) (zN.mpr (by push_cast;simp_all))) λz=>absurd z JN).trans rfl).trans ?_);rw[qs]|f+1,m,h=>by rw[CM.mP];cases q:t[i+m]? with|none=>have:t.length<=i+m:=f9.mp q;rw[CM.wa,lO];exact .wz ((Jo (u:=false) (eF rfl (iG (dg rfl) (dr _)) (zN.mpr (by rw[ei];grind))) λz=>absurd z JN).trans rfl)|some c=>have s:=(aQ.mp q).1;have o:ev GG C81 [Ls (aO t),I i,I ((i+m:Nat):Int)]=some (.bl (pM c)):=by{refine(Jo (eT rfl (iG (dg rfl) (dr _)) (Hw.mpr (by rw[ei];grind))) λ_=>Jo (eT rfl (jA rfl rfl) (Hw.mpr (by push_cast;lia))) λ_=>lI (ES rfl (fF rfl rfl (eM (mZ q))) rfl)).trans ?_;rw[Av,Av];exact ip (λz=>some (D.bl z)) (Md c)};by_cases d:pM c=true;{rw[CM.oP d];rw[d] at o;have r:=Fo (t:=t) (i:=i) f (m+1) (by lia);rw[show i+(m+1)=i+m+1 by rfl] at r;refine .wn o (.JE ((jA rfl rfl).trans (show _=some (D.int ((i+m+1:Nat):Int)) by push_cast;rfl)) rfl .nil) ?_;rw[show i+m+(CM.iR f (t.drop (i+m+1))+1)=i+m+1+CM.iR f (t.drop (i+m+1)) by lia];exact r};.rw[CM.rX d,lO];rw[cK.mpr d] at o;exact .wz o
def k81(t)(i:Nat):GG.d3 81 [.ints (aO t),.int i]=some (.int ((i+CM.dk (t.drop i):Nat):Int)):=kP<|by have k:=Fo (t:=t) (i:=i) 40 0 rfl;rw[lO] at k;unfold CM.dk;rw[Nf];by_cases h:t[i]?=some 48;{have g:=(aQ.mp h).1;rw[au h];exact⟨_,.fH ((Jo (eT rfl (iG (dg rfl) (dr _)) (Hw.mpr (by rw[ei];omega))) λ_=>lI (eT (fF rfl rfl (eM (mZ h))) rfl (xk.mpr rfl))).trans (by rfl)) (.ret rfl) gq⟩};.rw[ax h];have n:ev GG Yp [Ls (aO t),I i,none]=some (.bl false):=by{cases q:t[i]? with|none=>have:t.length<=i:=f9.mp q;exact(Jo (u:=false) (eF rfl (iG (dg rfl) (dr _)) (zN.mpr (by rw[ei];simp_all))) λz=>absurd z JN).trans rfl|some c=>have g:=(aQ.mp q).1;have o:c≠48:=λz=>h (by rw[q,z]);exact(Jo (eT rfl (iG (dg rfl) (dr _)) (Hw.mpr (by rw[ei];omega))) λ_=>lI (eF (fF rfl rfl (eM (mZ q))) rfl (mR.mpr (by grind)))).trans rfl};exact⟨_,.iff n .nil (.JE rfl rfl (.kF k (.ret rfl)))⟩
theorem Gz:∀(l) (n:Nat) (o),(∀c∈l,pM c=true)->(n+1)*10^l.length<=10^40->∃i,Ex GG (.lp (.nm 2) XW ((aO l).map D.int)) [d0,I n,Op o] (.nx [d0,I (CM.lH n l:Nat),Op i])|[],n,o,_,_=>⟨o,.lz⟩|c::l,n,o,h,r=>by have q:=CM.tq (h c ag);have s:n<10^40:=by{have:0<10^(c::l).length:=dZ JN;have:=fb (n+1) this;grind};obtain⟨i,p⟩:=Gz (d0:=d0) l (10*n+(c -48)) (some (.int c)) (λd t=>h d (af _ t)) (by refine aM ?_ r;rw[aI,gh,cN (10^l.length),<-cR];exact aZ _ (by grind));have v:gZ (n:Int):=lG (k:=200) JN (by rw[bC];exact gi s CM.Qh);refine⟨i,.ln (i7:=[d0,I n,I c]) (by cases o<;>rfl) (.JE ((xN (jA (jf rfl rfl (cp JN) v) rfl) rfl).trans ?_) rfl .nil) p⟩;congr 2;push_cast [q.1];lia
abbrev Z5(l:List Nat):Prop:=(∀c∈l,pM c=true)/\l.length<=40
def k82(l)(h:Z5 l):GG.d3 82 [.ints (aO l)]=some (.int (CM.lH 0 l:Nat)):=kP<|by obtain⟨o,d⟩:=Gz (d0:=Ls (aO l)) l 0 none h.1 (by rw[fA,qy];exact dI JN h.2);exact⟨_,.JE rfl rfl (.fr (ig rfl) d (.ret rfl))⟩
def k83(t)(i:Nat):GG.d3 83 [.ints (aO t),.int i]=some (.tup [.int ((i+(CM.kn (t.drop i)).1:Nat):Int),.int ((i+(CM.kn (t.drop i)).2:Nat):Int)]):=kP<|by have k1:=k81 t i;have k2:=k81 t (i+CM.dk (t.drop i)+1);have A:t.drop (i+CM.dk (t.drop i)+1)=(t.drop i).drop (CM.dk (t.drop i)+1):=by{rw[jC];rfl};rw[A] at k2;have p:(t.drop i)[CM.dk (t.drop i)]?=t[i+CM.dk (t.drop i)]?:=lX;have v:ev GG Wa [Ls (aO t),I i,I ((i+CM.dk (t.drop i):Nat):Int)]=some (.bl (decide (0<CM.dk (t.drop i)/\(t.drop i)[CM.dk (t.drop i)]?=some 47))):=by{rw[p];generalize CM.dk (t.drop i)=m at*;have e1:ev GG (.Hh .lt .lt 1 2 uT) [Ls (aO t),I i,I ((i+m:Nat):Int)]=some (.bl (fU .lt (i:Int) ((i+m:Nat):Int)&&fU .lt ((i+m:Nat):Int) ((aO t).length:Int))):=ES rfl rfl (iG (dg rfl) (dr _));cases q:t[i+m]? with|none=>have:t.length<=i+m:=f9.mp q;have n:fU .lt ((i+m:Nat):Int) ((aO t).length:Int)=false:=zN.mpr (by rw[ei];lia);rw[n,qs] at e1;refine(Jo (u:=false) e1 λz=>absurd z JN).trans ?_;simp|some c=>have C:=(aQ.mp q).1;refine(Jo e1 λ_=>lI (hC (fF rfl rfl (eM (mZ q))) rfl)).trans ?_;congr 2;rw[b0];simp only[aa,bz,Hw,xk,ei];constructor;{rintro⟨⟨B,_⟩,n⟩;have n:(c:Int)=47:=n;exact⟨by lia,by congr 1;grind⟩};.rintro⟨B,n⟩;have:=bA n;refine⟨⟨by omega,by lia⟩,?_⟩;show(c:Int)=47;simp_all};rcases CM.vq (t.drop i) with⟨e,h⟩|⟨e,h⟩;{rw[nq h] at v;rw[e];exact⟨_,.JE (bj (gd rfl rfl) k1) rfl (.iff v .nil (.ret (qV (gd rfl rfl))))⟩};.rw[fC h] at v;rw[e];refine⟨_,.JE (bj (gd rfl rfl) k1) rfl (.fH v (.ret ((qV (gd rfl (bj (gd rfl (jA rfl rfl)) k2))).trans ?_)) gq)⟩;congr 5;dsimp only;lia
def k84(t)(i:Nat)(hi:i<=t.length):GG.d3 84 [.ints (aO t),.int i,.int ((i+(CM.kn (t.drop i)).1:Nat):Int),.int ((i+(CM.kn (t.drop i)).2:Nat):Int)]=some (.bl (CM.kF (t.drop i))):=kP<|by have o:=CM.Mf (t.drop i);rw[cX] at o;unfold CM.kF;have l:(t.drop i)[(CM.kn (t.drop i)).2]?=t[i+(CM.kn (t.drop i)).2]?:=lX;rw[l];generalize (CM.kn (t.drop i)).1=u at*;generalize (CM.kn (t.drop i)).2=e at*;have n:ev GG Xy [Ls (aO t),I i,I ((i+u:Nat):Int),I ((i+e:Nat):Int)]=some (.bl (decide (e=0\/e=u+1))):=by{refine(xC (hC rfl rfl) λ_=>lI (hC rfl (jA rfl rfl))).trans ?_;congr 2;rw[b0];simp only[dM,bz,xk];lia};by_cases h:e=0\/e=u+1;{rw[au h];rw[fC h] at n;exact⟨_,.fH n (.ret rfl) gq⟩};.rw[ax h];rw[nq h] at n;refine⟨_,.iff n .nil (.ret ?_)⟩;cases q:t[i+e]? with|none=>have:t.length<=i+e:=f9.mp q;exact(xC (u:=true) (eT rfl (iG (dg rfl) (dr _)) (xk.mpr (by rw[ei];grind))) λz=>absurd z JN).trans rfl|some c=>have v:=(aQ.mp q).1;exact(xC (eF rfl (iG (dg rfl) (dr _)) (mR.mpr (by rw[ei];lia))) λ_=>lI (bj (dg (fF rfl rfl (eM (mZ q)))) (k80 c))).trans rfl
def rg(p:Nat×Nat×Nat):D:=.tup [.int p.1,.int p.2.1,.int p.2.2]
def Sr:Option Nat->D|none=>.ie|some p=>.int p
abbrev Za:S:=qq3
theorem zk{t}(ht:t.length<=2000):∀(f i:Nat) (acc:List (Nat×Nat×Nat)) (o3 o4 o5 x:Option D),t.length<i+f->i<=t.length->acc.length<=i->
  match(CM.pk f i (t.drop i)).2 with
  |none=>∃(i':Nat) (o3' o4' o5' o6':Option D),Ex GG (.wl D9 Za) [Ls (aO t),some (.ow (acc.map rg)),I i,Op o3,Op o4,Op o5,Op x] (.nx [Ls (aO t),some (.ow ((acc++(CM.pk f i (t.drop i)).1).map rg)),I i',Op o3',Op o4',Op o5',Op o6'])
  |some p=>∃ρ',Ex GG (.wl D9 Za) [Ls (aO t),some (.ow (acc.map rg)),I i,Op o3,Op o4,Op o5,Op x] (.rt (.tup [.lst ((acc++(CM.pk f i (t.drop i)).1).map rg),.int p]) ρ')
 |0,i,acc,o3,o4,o5,x,hf,hi,ha=>by omega
 |f+1,i,acc,o3,o4,o5,x,hf,hi,ha=>by
  cases q:t[i]? with
  |none=>
   have hl:t.length<=i:=f9.mp q
   rw[om hl]
   show ∃(i':Nat) (o3' o4' o5' o6':Option D),Ex _ _ _ (.nx [_,some (.ow ((acc++[]).map rg)),_,_,_,_,_])
   rw[bM]
   exact⟨i,o3,o4,o5,x,.wz (eF rfl (iG (dg rfl) (dr _)) (zN.mpr (by rw[ei];simp_all)))⟩
  |some c=>
   have hlt:=(aQ.mp q).1
   have hd:t.drop i=c::t.drop (i+1):=by rw[CM.mP,q]
   have hc:∀{a b3 b4 b5 b6:Option Ent},ev GG D9 [Ls (aO t),a,I i,b3,b4,b5,b6]=some (.bl true):=eT rfl (iG (dg rfl) (dr _)) (Hw.mpr (by rw[ei];simp_all))
   have eb:ev GG (.tv (.cM 80 (A1 El))) [Ls (aO t),some (.ow (acc.map rg)),I i,Op o3,Op o4,Op o5,Op x]=some (.bl (d9 c)):=qk (bj (dg (fF rfl rfl (eM (mZ q)))) (k80 c))
   by_cases b:d9 c=true
   ·have ih:=zk ht f (i+1) acc o3 o4 o5 x (by lia) (by assumption) (by lia)
    rw[hd,CM.pk,au b]
    rw[b] at eb
    have e1:ev GG Jm [Ls (aO t),some (.ow (acc.map rg)),I i,Op o3,Op o4,Op o5,Op x]=some (.int ((i+1:Nat):Int)):=(jA rfl rfl).trans (by push_cast;rfl)
    have v:Ex GG (.st Za) [Ls (aO t),some (.ow (acc.map rg)),I i,Op o3,Op o4,Op o5,Op x] (.ct [Ls (aO t),some (.ow (acc.map rg)),I ((i+1:Nat):Int),Op o3,Op o4,Op o5,Op x]):=.fH eb (.JE e1 rfl .cnt) (λρ' z=>by cases z)
    split
    ·next e=>
     rw[e] at ih
     obtain⟨i',a3,a4,a5,a6,hx⟩:=ih
     exact⟨i',a3,a4,a5,a6,.wc hc v hx⟩
    ·next p e=>
     rw[e] at ih
     obtain⟨ρ',hx⟩:=ih
     exact⟨ρ',.wc hc v hx⟩
   ·have hlen:(t.drop i).length=t.length -i:=cX
    rw[hd,CM.pk,ax b,<-hd]
    rw[cK.mpr b] at eb
    have hle:=CM.Mf (t.drop i)
    have k3:=k83 t i
    have k4:=k84 t i hi
    have wn:CM.kF (t.drop i)=true->_:=CM.zX
    have up:CM.sj (t.drop i)=CM.lH 0 ((t.drop i).take (CM.kn (t.drop i)).1):=rfl
    have lo:CM.nH (t.drop i)=if(CM.kn (t.drop i)).1<(CM.kn (t.drop i)).2 then CM.lH 0 (((t.drop i).drop ((CM.kn (t.drop i)).1+1)).take ((CM.kn (t.drop i)).2 -((CM.kn (t.drop i)).1+1))) else 1:=rfl
    have p1:Z5 ((t.drop i).take (CM.kn (t.drop i)).1):=by
     have hu:(CM.kn (t.drop i)).1=CM.dk (t.drop i):=by rcases CM.vq (t.drop i) with⟨e,_⟩|⟨e,_⟩<;>rw[e]
     rw[hu]
     refine⟨CM.D4 _,?_⟩
     have:=(CM.wZ (t.drop i)).2
     rw[kh]
     grind
    have p2:(CM.kn (t.drop i)).1<(CM.kn (t.drop i)).2->Z5 (((t.drop i).drop ((CM.kn (t.drop i)).1+1)).take ((CM.kn (t.drop i)).2 -((CM.kn (t.drop i)).1+1))):=λh=>by
     rcases CM.vq (t.drop i) with⟨e,_⟩|⟨e,_⟩
     ·rw[e] at h
      dsimp only at h
      simp_all
     ·rw[e]
      dsimp only
      rw[CG]
      refine⟨CM.D4 _,?_⟩
      have:=(CM.wZ ((t.drop i).drop (CM.dk (t.drop i)+1))).2
      rw[kh]
      omega
    have dd:∀e:Nat,t.drop (i+e)=(t.drop i).drop e:=λe=>by rw[jC]
    have ih:=λacc' b3 b4 b5 b6=>zk ht f (i+(CM.kn (t.drop i)).2) acc' b3 b4 b5 b6
    simp only[dd] at ih
    generalize (CM.kn (t.drop i)).1=u at*
    generalize (CM.kn (t.drop i)).2=e at*
    have ew:ev GG W9 [Ls (aO t),some (.ow (acc.map rg)),I i,some (.pl (.tup [.int ((i+u:Nat):Int),.int ((i+e:Nat):Int)])),I ((i+u:Nat):Int),I ((i+e:Nat):Int),Op x]=some (.bl (!CM.kF (t.drop i))):=pB (qk (bj (Bk rfl rfl rfl rfl) k4))
    cases w:CM.kF (t.drop i) with
    |false=>
     rw[ax JN]
     rw[w] at ew
     dsimp only
     rw[bM]
     refine⟨_,.wr hc (.iff eb .nil (.JE (bj (gd rfl rfl) k3) (by cases o3<;>rfl) (.JE (fF rfl rfl rfl) (by cases o4<;>rfl) (.JE (fF rfl rfl rfl) (by cases o5<;>rfl) (.fH ew (.ret (qV (gd rfl rfl))) gq)))))⟩
    |true=>
     rw[au rfl]
     rw[w] at ew
     have he:=(wn w).1
     have e1:=Ig (G:=GG) (ρ:=[Ls (aO t),some (.ow (acc.map rg)),I i,some (.pl (.tup [.int ((i+u:Nat):Int),.int ((i+e:Nat):Int)])),I ((i+u:Nat):Int),I ((i+e:Nat):Int),Op x]) (a:=.var 0) (b:=.pt HD) (c:=.pt 5) (l:=(aO t).map D.int) (lo:=some ((i+u+1:Nat):Int)) (hi:=some ((i+e:Nat):Int)) rfl rfl rfl rfl rfl
     rw[pZ,<-fD,<-d7,AJ,show i+u+1=i+(u+1) by rfl,dd,show i+e -(i+(u+1))=e -(u+1) by lia] at e1
     have e6:ev GG Yb [Ls (aO t),some (.ow (acc.map rg)),I i,some (.pl (.tup [.int ((i+u:Nat):Int),.int ((i+e:Nat):Int)])),I ((i+u:Nat):Int),I ((i+e:Nat):Int),Op x]=some (.int (CM.nH (t.drop i):Nat)):=by
      rw[lo]
      refine Cq (hC rfl rfl) (λq=>?_) λq=>?_
      ·have:u<e:=by have:=SG.mp q;lia
       rw[au this]
       exact bj (dg e1) (k82 _ (p2 this))
      ·have:¬u<e:=by have:=NV.mp q;grind
       rw[ax this]
       rfl
     have e2:=Ig (G:=GG) (ρ:=[Ls (aO t),some (.ow (acc.map rg)),I i,some (.pl (.tup [.int ((i+u:Nat):Int),.int ((i+e:Nat):Int)])),I ((i+u:Nat):Int),I ((i+e:Nat):Int),I (CM.nH (t.drop i):Nat)]) (a:=.var 0) (b:=.pt 2) (c:=.pt 4) (l:=(aO t).map D.int) (lo:=some (i:Int)) (hi:=some ((i+u:Nat):Int)) rfl rfl rfl rfl rfl
     rw[pZ,<-fD,<-d7,AJ,CG] at e2
     have e7:=qV (vr (G:=GG) (ρ:=[Ls (aO t),some (.ow (acc.map rg)),I i,some (.pl (.tup [.int ((i+u:Nat):Int),.int ((i+e:Nat):Int)])),I ((i+u:Nat):Int),I ((i+e:Nat):Int),I (CM.nH (t.drop i):Nat)]) (a:=.var 2) (c:=.var 6) rfl (bj (dg e2) (k82 _ p1)) rfl)
     rw[<-up] at e7
     have hs:aG=16777216:=rfl
     have ea:acc.map rg++[rg (i,CM.sj (t.drop i),CM.nH (t.drop i))]=(acc++[(i,CM.sj (t.drop i),CM.nH (t.drop i))]).map rg:=by rw[bW];rfl
     have v:Ex GG (.st Za) [Ls (aO t),some (.ow (acc.map rg)),I i,Op o3,Op o4,Op o5,Op x] (.nx [Ls (aO t),some (.ow ((acc++[(i,CM.sj (t.drop i),CM.nH (t.drop i))]).map rg)),I ((i+e:Nat):Int),some (.pl (.tup [.int ((i+u:Nat):Int),.int ((i+e:Nat):Int)])),I ((i+u:Nat):Int),I ((i+e:Nat):Int),I (CM.nH (t.drop i):Nat)]):=by
      rw[<-ea]
      exact .iff eb .nil (.JE (bj (gd rfl rfl) k3) (by cases o3<;>rfl) (.JE (fF rfl rfl rfl) (by cases o4<;>rfl) (.JE (fF rfl rfl rfl) (by cases o5<;>rfl) (.iff ew .nil (.JE e6 (by cases x<;>rfl) (.app e7 rfl (by simp;lia) (.JE rfl rfl .nil)))))))
     have ih:=ih (acc++[(i,CM.sj (t.drop i),CM.nH (t.drop i))]) (some (.tup [.int ((i+u:Nat):Int),.int ((i+e:Nat):Int)])) (some (.int ((i+u:Nat):Int))) (some (.int ((i+e:Nat):Int))) (some (.int (CM.nH (t.drop i):Nat))) (by omega) (by grind) (by simp;omega)
     rw[bu,ik] at ih
     dsimp only
     split
     ·next q=>
      rw[q] at ih
      obtain⟨i',a3,a4,a5,a6,hx⟩:=ih
      exact⟨i',a3,a4,a5,a6,.wn hc v hx⟩
     ·next p q=>
      rw[q] at ih
      obtain⟨ρ',hx⟩:=ih
      exact⟨ρ',.wn hc v hx⟩
abbrev mN(t:List Nat):List (Nat×Nat×Nat)×Option Nat:=CM.pk (t.length+1) 0 t
def k85(t)(j:t.length<=2000):GG.d3 85 [.ints (aO t)]=some (.tup [.lst ((mN t).1.map rg),Sr (mN t).2]):=kP<|by have d:=zk j (t.length+1) 0 [] none none none none Eg Eg (by simp);rw[x5,eC] at d;cases q:(mN t).2 with|none=>rw[q] at d;obtain⟨l,r,k,m,n,g⟩:=d;exact⟨_,.own rfl rfl (.JE rfl rfl (.kF g (.ret (qV (gd rfl rfl)))))⟩|some p=>rw[q] at d;obtain⟨f,g⟩:=d;exact⟨f,.own rfl rfl (.JE rfl rfl (.Wy g gq))⟩
end
def GV(j:1<=n)(e:n<2^200)(m:1<=d)(h:d<2^200):u6 n d=if CI n=CI d then some (CM.fG n d) else none:=by obtain⟨f,k⟩:=yg j e;obtain⟨g,l⟩:=yg m h;exact CM.B3 k l (by omega) (by lia) e h
def QG(b:bP)(u l:Nat):Option bP:=match u6 u l with|none=>none|some x=>if az x=true/\bD b x=true then some x else none
def dRo:Option bP->D|none=>.ie|some x=>.ints x
def Ly(ns)(e u l a):iA ⟨ns,e,.gap⟩ u l a=match QG (bJ ns) u l with
  |none=>.error a
  |some x=>if ns.length<24 then .ok ⟨ns++[x],a,.gap⟩ else .error a:=by
 unfold iA QG
 cases u6 u l with
 |none=>rfl
 |some x=>
  dsimp only
  by_cases h:az x=true/\bD (bJ ns) x=true
  ·rw[au h]
   dsimp only
   by_cases g:ns.length<24
   ·rw[au g,au ⟨h.1,h.2,g⟩]
   ·rw[ax g,ax λz=>g z.2.2]
  ·rw[ax h,ax λz=>h ⟨z.1,z.2.1⟩]
def JK(h:QG b u l=some x):az x=true:=by unfold QG at h;cases e:u6 u l with|none=>rw[e] at h;cases h|some y=>rw[e] at h;dsimp only at h;split at h;{next q=>cases h;exact q.1};.cases h
def uj(ns)(x:bP):bJ (ns++[x])=x:=by unfold bJ;rw[y4];simp
theorem rK:∀(d) (ns) (b) (e),CM.ky ns b d e=match CM.ky ns b d none with
  |.error p=>.error p
  |.ok r=>match e with
   |none=>.ok r
   |some p=>.error p
 |[],ns,b,e=>by cases e<;>rfl
 |(a,u,l)::d,ns,b,e=>by
  unfold CM.ky
  cases iA ⟨ns,b,.gap⟩ u l a with
  |error p=>rfl
  |ok q=>exact rK d q.notes q.last e
section
abbrev P86(b:List Int)(u l:Nat):Prop:=az b=true/\(1<=u/\u<2^200)/\(1<=l/\l<2^200)
def k86(b)(u l)(h:P86 b u l):GG.d3 86 [.ints b,.int u,.int l]=some (dRo (QG b u l)):=kP<|by obtain⟨B,⟨r,o⟩,y,n⟩:=h;have g:ev GG (.tv (.cM 11 (A2 1 2))) [Ls b,I u,I l,none]=some (.bl (fU .ne (CI u) (CI l))):=qk (bj (gd rfl rfl) (k11 u l r o y n));unfold QG;rw[GV r o y n];by_cases q:CI u=CI l;{rw[au q];dsimp only;rw[Bt.mpr (by rw[q])] at g;have p:=ZJ u l r o y n;generalize F:CM.fG u l=x at*;have H:x.length=6:=by{rw[<-F];exact CM.w9 u l};by_cases s:az x=true;{have G:=Vh x b (.ints x) (.ints b) rfl rfl H (CM.bX B) 8 8 JN (CM.cw s) (CM.cw B);have f:ev GG Te [Ls b,I u,I l,Ls x]=some (.bl (!az x||fU .ne (xR x b) 2)):=xC (pB (qk (bj (dg rfl) (k1 x)))) λ_=>lI (hC (bj (gd rfl rfl) G) rfl);rw[s] at f;by_cases w:bD b x=true;{rw[au ⟨s,w⟩];rw[Bt.mpr (wY.mpr w)] at f;exact⟨_,.iff g .nil (.JE (bj (gd rfl rfl) p) rfl (.iff f .nil (.ret rfl)))⟩};.rw[ax λz=>w z.2];rw[ON.mpr (mt wY.mp w)] at f;exact⟨_,.iff g .nil (.JE (bj (gd rfl rfl) p) rfl (.fH f (.ret rfl) gq))⟩};.rw[ax λz=>s z.1];have f:ev GG Te [Ls b,I u,I l,Ls x]=some (.bl true):=by{refine(xC (u:=true) (pB (qk (bj (dg rfl) (k1 x)))) λz=>?_).trans ?_;{rw[cK.mpr s] at z;cases z};.rw[cK.mpr s];rfl};exact⟨_,.iff g .nil (.JE (bj (gd rfl rfl) p) rfl (.fH f (.ret rfl) gq))⟩};.rw[ax q];rw[ON.mpr (by lia)] at g;exact⟨_,.fH g (.ret rfl) gq⟩
abbrev Z4:S:=V8
theorem F9:∀(w) (ns) (k) (s v y j),(∀p∈w,CM.ZP p)->az (bJ ns)=true->ns.length<=24->
  match CM.ky ns k w none with
  |.ok r=>∃O W R Q,Ex GG (.lp (.tp [4,5,6]) Z4 (w.map rg)) [d0,d1,Ow ns,Ls (bJ ns),Op s,Op v,Op y,Op j,none] (.nx [d0,d1,Ow r.notes,Ls (bJ r.notes),Op O,Op W,Op R,Op Q,none])/\az (bJ r.notes)=true
  |.error p=>∃t,Ex GG (.lp (.tp [4,5,6]) Z4 (w.map rg)) [d0,d1,Ow ns,Ls (bJ ns),Op s,Op v,Op y,Op j,none] (.rt (.tup [.lst [],.int p]) t)
 |[],ns,k,s,v,y,j,T,U,hl=>⟨s,v,y,j,.lz,U⟩
 |(a,u,l)::w,ns,k,s,v,y,j,T,U,hl=>by
  have ok:=T (a,u,l) ag
  have N:∀p∈w,CM.ZP p:=λp hp=>T p (af _ hp)
  have kk:=k86 (bJ ns) u l ⟨U,ok⟩
  have J:fO (.tp [4,5,6]) (rg (a,u,l)) [d0,d1,Ow ns,Ls (bJ ns),Op s,Op v,Op y,Op j,none]=some [d0,d1,Ow ns,Ls (bJ ns),I a,I u,I l,Op j,none]:=by cases s<;>cases v<;>cases y<;>rfl
  have F:ev GG (.cM 86 (A3 3 5 6)) [d0,d1,Ow ns,Ls (bJ ns),I a,I u,I l,Op j,none]=some (dRo (QG (bJ ns) u l)):=bj (vr rfl rfl rfl) kk
  have hn:(Ow ns)=some (Ent.ow (ns.map D.ints)):=rfl
  have el:∀{z:Option Ent},ev GG (.xG 2) [d0,d1,Ow ns,Ls (bJ ns),I a,I u,I l,z,none]=some (.int (ns.length:Nat)):=λ{z}=>by
   show some (D.int ((ns.map D.ints).length:Nat))=_
   rw[ak]
  unfold CM.ky
  rw[Ly,aX]
  cases q:QG (bJ ns) u l with
  |none=>
   rw[q] at F
   exact⟨_,.lr J (.JE F (by cases j<;>rfl) (.fH rfl (.ret rfl) gq))⟩
  |some x=>
   rw[q] at F
   dsimp only
   have G:ev GG WY [d0,d1,Ow ns,Ls (bJ ns),I a,I u,I l,Ls x,none]=some (.bl (false||fU .eq (ns.length:Int) 24)):=xC rfl λ_=>lI (hC el rfl)
   rw[Bool.false_or] at G
   by_cases h:ns.length<24
   ·rw[au h]
    rw[mR.mpr (by omega)] at G
    have H:=F9 (d0:=d0) (d1:=d1) w (ns++[x]) a (some (.int a)) (some (.int u)) (some (.int l)) (some (.ints x)) N (by rw[uj];exact JK q) (by simp;omega)
    rw[uj] at H
    dsimp only
    have Z:ns.map D.ints++[D.ints x]=(ns++[x]).map D.ints:=by rw[bW];rfl
    have hz:aG=16777216:=rfl
    have n:Ex GG (.st Z4) [d0,d1,Ow ns,Ls (bJ ns),I a,I u,I l,Op j,none] (.nx [d0,d1,Ow (ns++[x]),Ls x,I a,I u,I l,Ls x,none]):=by
     refine .JE F (by cases j<;>rfl) (.iff G .nil (.app (d:=.ints x) rfl rfl (by simp;omega) ?_))
     rw[Z]
     exact .JE rfl rfl .nil
    split
    ·next r e=>
     rw[e] at H
     obtain⟨b4,b5,b6,b7,P,hy⟩:=H
     exact⟨b4,b5,b6,b7,.ln J n P,hy⟩
    ·next p e=>
     rw[e] at H
     obtain⟨t,P⟩:=H
     exact⟨t,.ln J n P⟩
   ·rw[ax h]
    rw[xk.mpr (by lia)] at G
    exact⟨_,.lr J (.JE F (by cases j<;>rfl) (.fH G (.ret rfl) gq))⟩
def dRs:Except Nat jY->D|.ok s=>.tup [.rows s,.ie]|.error p=>.tup [.lst [],.int p]
def k87(t)(ht:t.length<=2000):GG.d3 87 [.ints (aO t)]=some (dRs (iE t)):=kP<|by have rc:=CM.tK (t.length+1) 0 t [] 0 Eg;rw[rK,show CM.pk (t.length+1) 0 t=mN t from rfl] at rc;have lp:=F9 (d0:=Ls (aO t)) (d1:=some (.pl (.tup [.lst ((mN t).1.map rg),Sr (mN t).2]))) (mN t).1 [] 0 none none none none (CM.zB _ _ _) rfl JN;have k5:=k85 t ht;have n:ev GG (.cM 85 (A1 0)) [Ls (aO t),none,none,none,none,none,none,none,none]=some (.tup [.lst ((mN t).1.map rg),Sr (mN t).2]):=bj (dg rfl) k5;have l:∀{z:Option Ent},ev GG Kg [Ls (aO t),some (.pl (.tup [.lst ((mN t).1.map rg),Sr (mN t).2])),z,none,none,none,none,none,none]=some (.ints bI):=bj DN k3;have nl:=CM.vI (mN t).1 [] 0;unfold iE;rw[rc];cases q:CM.ky [] 0 (mN t).1 none with|error p=>rw[q] at lp;obtain⟨H,k⟩:=lp;exact⟨H,.JE n rfl (.own rfl rfl (.JE l rfl (.QR (ig (fF rfl rfl rfl)) k gq)))⟩|ok r=>rw[q] at lp;obtain⟨F,B,C,A,k,hsd⟩:=lp;obtain⟨n1,n2⟩:=nl r q;have x:∀{z:Option Ent},ev GG (.xG 2) [Ls (aO t),some (.pl (.tup [.lst ((mN t).1.map rg),Sr (mN t).2])),Ow r.notes,Ls (bJ r.notes),Op F,Op B,Op C,Op A,z]=some (.int (r.notes.length:Nat)):=λ{z}=>by{show some (D.int ((r.notes.map D.ints).length:Nat))=_;rw[ak]};dsimp only;cases c:(mN t).2 with|some p=>dsimp only;rw[c] at n l k;exact⟨_,.JE n rfl (.own rfl rfl (.JE l rfl (.fr (ig (fF rfl rfl rfl)) k (.fH rfl (.ret rfl) gq))))⟩|none=>dsimp only;rw[c] at n l k x;by_cases y:r.notes.isEmpty=true;{rw[au y];have J:r.notes.length=0:=by{rw[km.mp y];rfl};exact⟨_,.JE n rfl (.own rfl rfl (.JE l rfl (.fr (ig (fF rfl rfl rfl)) k (.iff rfl .nil (.fH (eT x rfl (xk.mpr Eg)) (.ret ((qV (gd (kQ DN) (iG (dg rfl) (dr _)))).trans (by rw[ei];rfl))) gq)))))⟩};.rw[ax y];have J:r.notes.length≠0:=λz=>y (by rw[c8 z];rfl);have e5:=Vh (bJ r.notes) gL (.ints (bJ r.notes)) (.tup [.int (-2),.int 0,.int 1,.int 0,.int 0,.int 0]) rfl rfl (CM.bX hsd) rfl 8 8 JN (CM.cw hsd) (CM.cw JN);have ec:ev GG Xa [Ls (aO t),some (.pl (.tup [.lst ((mN t).1.map rg),Sr none])),Ow r.notes,Ls (bJ r.notes),Op F,Op B,Op C,Op A,none]=some (.bl (fU .eq (xR (bJ r.notes) gL) 0)):=hC (bj (gd rfl rfl) e5) rfl;by_cases w:bD (bJ r.notes) gL=true;{rw[au w];rw[xk.mpr (zr.mpr w)] at ec;obtain⟨z,hz⟩:∃z,(mN t).1.getLast?=some z:=by{cases e:(mN t).1.getLast? with|none=>rw[y6.mp e] at n2;exact absurd n2 J|some z=>exact⟨z,rfl⟩};rw[hz] at n1;have e8:ev GG (.ix zf vW) [Ls (aO t),some (.pl (.tup [.lst ((mN t).1.map rg),Sr none])),Ow r.notes,Ls (bJ r.notes),Op F,Op B,Op C,Op A,none]=some (rg z):=fF (fF rfl rfl rfl) rfl (Fz (by rw[JB,hz];rfl));have e9:r.last=z.1:=n1;rw[e9];exact⟨_,.JE n rfl (.own rfl rfl (.JE l rfl (.fr (ig (fF rfl rfl rfl)) k (.iff rfl .nil (.iff (eF x rfl (mR.mpr Eg)) .nil (.fH ec (.JE e8 rfl (.ret rfl)) gq))))))⟩};.rw[ax w];rw[mR.mpr (mt zr.mp w)] at ec;exact⟨_,.JE n rfl (.own rfl rfl (.JE l rfl (.fr (ig (fF rfl rfl rfl)) k (.iff rfl .nil (.iff (eF x rfl (mR.mpr Eg)) .nil (.iff ec .nil (.ret rfl)))))))⟩
def mu(x:bP):Str:=if cO x=1 then txt (bQ x:Int) else lU++txt (bQ x:Int)++aR "/" ++txt (cO x:Int)
def zL(n:Nat):(txt (n:Int)).cps.toList=Ax n:=by unfold txt Ax;rw[oI];show(String.toList (toString ((n:Nat):Int))).map Char.toNat=_;have:toString ((n:Nat):Int)=Nt (Nat.toDigits 10 n):=rfl;rw[this,String.toList_ofList]
def sg(a b:Str):(a++b).cps.toList=a.cps.toList++b.cps.toList:=by show(a.cps++b.cps).toList=_;simp
def u9(x):(mu x).cps.toList=iM x:=by unfold mu iM;split;{rw[zL,bM]};.rw[sg,sg,sg,zL,zL,oI];show[]++_++[47]++_=_;rw[eC,bu];rfl
theorem AK:∀s:List bP,(qI (aR " ") (s.map mu)).cps.toList=iN s|[]=>rfl|[x]=>u9 x|x::y::r=>by show(mu x++aR " " ++qI (aR " ") ((y::r).map mu)).cps.toList=iM x++(32::iN (y::r));rw[sg,sg,AK (y::r),u9,oI,bu];rfl
def yy{n:Nat}(h:n<2^(15*8+1)):((n:Int)).natAbs.log2<1920:=by rw[bC];by_cases z:n=0;{rw[z];decide};.exact aJ ((gj z).mpr h) JN
def k88(x:List Int)(h:az x=true):GG.d3 88 [.ints x]=some (.str (mu x)):=kP<|by have b:=CM.cw h;have l:=CM.bX h;have e:=yy (vM b);have f:=yy (Ac b);refine⟨_,.JE (bj (dg rfl) (k6 x l (ma b JN))) rfl (.JE (bj (dg rfl) (k7 x l (nJ b JN))) rfl (.ret (Cq (hC rfl rfl) (λq=>?_) λq=>?_)))⟩;{have:cO x=1:=by{have:=xk.mp q;lia};show(if((bQ x:Nat):Int).natAbs.log2<1920 then some (D.str (txt (bQ x:Int))) else none)=_;rw[au e,mu,au this]};.have:¬cO x=1:=by{have:=mR.mp q;lia};show(if((bQ x:Nat):Int).natAbs.log2<1920/\((cO x:Nat):Int).natAbs.log2<1920 then some (D.str (lU++txt (bQ x:Int)++aR "/" ++txt (cO x:Int))) else none)=_;rw[au ⟨e,f⟩,mu,ax this]
def strs_map(l):strsOf (l.map D.str)=some l:=by induction l with|nil=>rfl|cons x l d=>show(strsOf (l.map D.str)).map _=_;rw[d];rfl
def F6(h:n<2^(15*8+1)):(Ax n).length<=40:=by unfold Ax;rw[ak];exact Nat.length_toDigits_le_iff JN JN|>.mpr (gi h zv)
def Fh(h:az x=true):(mu x).length<=100:=by have e:(mu x).length=(iM x).length:=by{rw[<-u9];exact(br).symm};have b:=CM.cw h;have l:=F6 (vM b);have m:=F6 (Ac b);rw[e];unfold iM;rw[bo];split;{simp;lia};.simp;lia
def k89(s:List (List Int))(h:∀r∈s,az r=true)(A:s.length<=24):GG.d3 89 [.rows s]=some (.ints (aO (iN s))):=kP<|by have v:ev GG Pd [Rs s,none,none]=some (.lst ((s.map mu).map D.str)):=by{rw[aV];exact pI (f:=D.ints) (ig rfl) λr o=>⟨_,rfl,bj (dg rfl) (k88 r (h r o))⟩};have J:((s.map mu).map (·.length)).sum<=100*s.length:=by{clear v A;induction s with|nil=>simp|cons x s C=>have u:=Fh (h x ag);have w:=C λr o=>h r (af _ o);simp only[aX,rA,aI];lia};have F:kJ (aR " ") (s.map mu)=qI (aR " ") (s.map mu):=StrLaws.glued_eq_join _ _;have B:ev GG (.join " " Pd) [Rs s,none,none]=some (.str (qI (aR " ") (s.map mu))):=by{rw[Sn v];show(match strsOf ((s.map mu).map D.str) with|some r=>if(r.map λ(z:Str)=>z.length).sum+r.length*(aR " ").length<=16777216 then some (D.str (kJ (aR " ") r)) else none|none=>none)=_;rw[strs_map];dsimp only;have:(aR " ").length=1:=zv;rw[au (by rw[this,ak];lia),F]};have k:(qI (aR " ") (s.map mu)).length<=aG:=by{have u:=StrLaws.join_length_le (aR " ") (s.map mu);have w:(aR " ").length=1:=zv;have H:aG=16777216:=rfl;rw[w,ak] at u;lia};have G:ev GG (.uf (.join " " Pd)) [Rs s,none,none]=some (.lst ((iN s).map λc=>D.str ⟨#[c]⟩)):=by{rw[Su B];show(if(qI (aR " ") (s.map mu)).length<=aG then some (D.lst ((qI (aR " ") (s.map mu)).cps.toList.map λc=>.str ⟨#[c]⟩)) else none)=_;rw[au k,AK]};refine⟨_,.ret ?_⟩;show _=some (D.lst (((iN s).map cP).map D.int));rw[aV];exact pI G λc _=>⟨_,rfl,iG (dg rfl) rfl⟩
end
def t6(f)(l):(jZ f l).length=l.length:=by unfold jZ;induction l with|nil=>rfl|cons x l e=>have:∀(x:Nat) (r:List Nat),(Cb.placed f x r).length=r.length+1:=by{intro x r;induction r with|nil=>rfl|cons y r e=>unfold Cb.placed;split;{rw[aI,e,aI]};.rfl};rw[List.foldr_cons,this,e,aI]
def Hl(r:a.length=6)(p:b.length=6):[xR a b]=(if bD a b=true then[0] else if a=b then[1] else[2]):=by unfold xR;by_cases h:bD a b=true;{rw[au h,au h]};.rw[ax h,ax h];have:bQ (cf a b)=cO (cf a b)↔a=b:=by{constructor;{intro e;have:=CM.EO e;exact CM.ej r p λi hi=>by have:=this i hi;rw[CM.gr _ _ hi] at this;lia};.intro e;subst e;rw[CM.gG,CM.i5];exact CM.eD λi hi=>by rw[CM.gr _ _ hi];simp_all};by_cases q:a=b;{rw[au q,au (this.mpr q)]};.rw[ax q,ax (mt this.mp q)]
section
section
variable {ρ:Ev}{e a b:E}{ns row:List Int}{x y:Int}
def Na(h:ev GG e ρ=some (.ints ns))(d:ev GG a ρ=some (.int x))(c:ev GG b ρ=some (.int y)):ev GG (.nt (.tv (.cM 29 (A3 e a b)))) ρ=some (.bl (!ns.all (aW x y))):=pB (qk (bj (vr h d c) (k29 ns x y)))
def Cn(h:ev GG e ρ=some (.ints row)):ev GG (.nt (.tv (.cM 1 (A1 e)))) ρ=some (.bl (!az row)):=pB (qk (bj (dg h) (k1 row)))
def Y6(h:ev GG e ρ=some (.ints row))(c:row.length<=1000):ev GG (.bin .cat za e) ρ=some (.ints (0::row)):=xK (kQ (dg rfl)) h (by have:aG=16777216:=rfl;simp;lia)
end
abbrev wr:E:=.lst (A1 (.jg 7))
def MN:(!b)=true↔¬b=true:=by cases b<;>simp
def Qs{p q}(f:b=true↔p)(e:c=true↔q):(!b||!c)=true↔¬(p/\q):=by rw[<-f,<-e];cases b<;>cases c<;>simp
def tO:Ex GG (.st (.ret wr)) ρ (.rt (.ints cC) (B8 ρ)):=.ret rfl
def jq{ρ}{v}{d}{p}[Decidable p](i:ev GG c ρ=some (.bl v))(g:v=true↔p)(h:¬p->∃a,Ex GG (.st r) ρ (.rt (.ints d) a)):∃a,Ex GG (.st (.ifs c (.ret wr) .nil r)) ρ (.rt (.ints (if p then cC else d)) a):=by cases v with|true=>rw[au (g.mp rfl)];exact⟨_,.fH i tO gq⟩|false=>have:¬p:=λz=>by{have:=g.mpr z;cases this};rw[ax this];obtain⟨a,j⟩:=h this;exact⟨a,.iff i .nil j⟩
def gJ{e}{r}{ρ}{d}{o}(h:ev GG e ρ=some d)(g:sF ρ i=true)(k:∃a,Ex GG (.st r) (ρ.set i (some (.pl d))) (.rt o a)):∃a,Ex GG (.st (.JE i e r)) ρ (.rt o a):=by obtain⟨a,f⟩:=k;exact⟨a,.JE h g f⟩
def k51(n d):GG.d3 51 [.ints [n,d],.rows []]=some (.ints (QF n d)):=kP<|by refine gJ (d:=.int n) (fF rfl rfl rfl) rfl (gJ (d:=.int d) (fF rfl rfl rfl) rfl (jq (Na rfl rfl rfl) ?_ λh=>?_));{simp[aW,Cb.BIGGEST];omega};.have x:¬(n<1\/d<1\/(1000000000000000000:Int)<n\/(1000000000000000000:Int)<d):=h;obtain⟨n,rfl⟩:∃m:Nat,n=m:=⟨n.toNat,by omega⟩;obtain⟨d,rfl⟩:∃m:Nat,d=m:=⟨d.toNat,by omega⟩;have b:(1000000000000000000:Nat)<2^200:=zv;have t:1<=n:=by{omega};have u:n<2^200:=by{omega};have d1:1<=d:=by{omega};have d2:d<2^200:=by{omega};rw[bH,bH,GV t u d1 d2];have i:ev GG (.tv (.cM 11 qK)) [Ls [(n:Int),(d:Int)],Rs [],I n,I d,none]=some (.bl (fU .ne (CI n) (CI d))):=qk (bj (gd rfl rfl) (k11 n d t u d1 d2));by_cases q:CI n=CI d;{rw[au q];rw[Bt.mpr (by rw[q])] at i;have v:ev GG (.cM 12 qK) [Ls [(n:Int),(d:Int)],Rs [],I n,I d,none]=some (.ints (CM.fG n d)):=bj (gd rfl rfl) (ZJ n d t u d1 d2);have o:ev GG K2 [Ls [(n:Int),(d:Int)],Rs [],I n,I d,Ls (CM.fG n d)]=some (.bl (!az (CM.fG n d))):=Cn rfl;dsimp only;by_cases s:az (CM.fG n d)=true;{rw[au s];rw[s] at o;exact⟨_,.iff i .nil (.JE v rfl (.iff o .nil (.ret (Y6 rfl (by rw[CM.w9];decide)))))⟩};.rw[ax s];rw[cK.mpr s] at o;exact⟨_,.iff i .nil (.JE v rfl (.fH o tO gq))⟩};.rw[ax q];rw[ON.mpr (by lia)] at i;exact⟨_,.fH i (.ret rfl) gq⟩
abbrev TP(c:Cb.Call):List Int:=Cb.toldPlain Cb.start c
def k52(x):GG.d3 52 [.ints [],.rows [x]]=some (.ints (TP (.ratio x))):=kP<|by(have e:TP (.ratio x)=if ¬az x=true then cC else[cP (bQ x),cP (cO x)]:=by show(if az x=true then _ else _)=_;by_cases h:az x=true;{rw[au h,ax λz=>z h]};.rw[ax h,au h]);rw[e];refine gJ (d:=.ints x) (fF rfl rfl rfl) rfl (jq (Cn rfl) (by simp) λh=>?_);have h:az x=true:=cV.mp h;have b:=CM.cw h;exact⟨_,.ret (kQ (gd (bj (dg rfl) (k6 x (CM.bX h) (ma b JN))) (bj (dg rfl) (k7 x (CM.bX h) (nJ b JN)))))⟩
def k53(m n)(a b):GG.d3 53 [.ints [m,n],.rows [a,b]]=some (.ints (TP (.sum m n a b))):=kP<|by refine gJ (d:=.ints a) (fF rfl rfl rfl) rfl (gJ (d:=.ints b) (fF rfl rfl rfl) rfl (jq (v:=!([m,n].all (aW (-1000) 1000))||(!az a||!az b)) (xC (Na rfl (oR rfl) rfl) λ_=>xC (Cn rfl) λ_=>lI (Cn rfl)) ?_ λh=>?_));{simp[rb];cases az a<;>cases az b<;>cases aW (-1000) 1000 m<;>cases aW (-1000) 1000 n<;>simp};.simp at h;obtain⟨u,t,x,A⟩:=h;have w:∀z,aW (-rb) rb z=true->z.natAbs<=1000:=λz hz=>by{unfold aW rb at hz;rw[aa,bz,bz] at hz;omega};have y:=k4 m n a b (.ints a) (.ints b) rfl rfl (CM.bX u) (CM.bX t) (cp (by have:=w m x;omega)) (cp (by have:=w n A;omega)) (gy u) (gy t);have p:ev GG K2 [Ls [m,n],Rs [a,b],Ls a,Ls b,Ls (hX m a n b)]=some (.bl (!az (hX m a n b))):=Cn rfl;refine gJ (bj (Bk (fF rfl rfl rfl) rfl (fF rfl rfl rfl) rfl) y) rfl ?_;by_cases s:az (hX m a n b)=true;{rw[au s];rw[s] at p;exact⟨_,.iff p .nil (.ret (Y6 rfl (by rw[CM.bZ];decide)))⟩};.rw[ax s];rw[cK.mpr s] at p;exact⟨_,.fH p (.ret rfl) gq⟩
def k54(a b):GG.d3 54 [.ints [],.rows [a,b]]=some (.ints (TP (.order a b))):=kP<|by refine gJ (d:=.ints a) (fF rfl rfl rfl) rfl (gJ (d:=.ints b) (fF rfl rfl rfl) rfl (jq (v:=!az a||!az b) (xC (Cn rfl) λ_=>lI (Cn rfl)) ?_ λh=>?_));{cases az a<;>cases az b<;>simp};.simp at h;obtain⟨l,j⟩:=h;rw[<-Hl (CM.bX l) (CM.bX j)];exact⟨_,.ret (kQ (dg (bj (gd rfl rfl) (Vh a b (.ints a) (.ints b) rfl rfl (CM.bX l) (CM.bX j) 8 8 JN (CM.cw l) (CM.cw j)))))⟩
def k55(n)(x):GG.d3 55 [.ints [n],.rows [x]]=some (.ints (TP (.steps n x))):=kP<|by refine gJ (d:=.ints x) (fF rfl rfl rfl) rfl (jq (v:=!([n].all (aW 1 100))||!az x) (xC (Na rfl rfl rfl) λ_=>lI (Cn rfl)) ?_ λh=>?_);{show _↔(az x&&aW 1 100 n)=false;simp;cases az x<;>cases aW 1 100 n<;>simp};.have h:¬(az x&&aW 1 100 n)=false:=h;simp at h;obtain⟨j,k⟩:=h;simp[aW] at k;obtain⟨n,rfl⟩:∃m:Nat,n=m:=⟨n.toNat,by grind⟩;rw[bH];exact⟨_,.ret (kQ (gd rfl (bj (gd (fF rfl rfl rfl) rfl) (k20 n x (by omega) (by omega) (CM.bX j) (CM.cw j)))))⟩
def k56(n):GG.d3 56 [.ints [n],.rows []]=some (.ints (TP (.val n))):=kP<|by(have e:TP (.val n)=if ¬aW 1 100 n=true then cC else 0::kD n.toNat:=by show(if aW 1 100 n=true then _ else _)=_;by_cases h:aW 1 100 n=true;{rw[au h,ax λz=>z h];rfl};.rw[ax h,au h]);rw[e];refine jq (Na rfl rfl rfl) (by simp) λh=>?_;have h:aW 1 100 n=true:=cV.mp h;simp[aW] at h;obtain⟨n,rfl⟩:∃m:Nat,n=m:=⟨n.toNat,by lia⟩;rw[bH];exact⟨_,.ret (Y6 (bj (dg (fF rfl rfl rfl)) (k21 n (by omega) (by omega))) (by simp[kD]))⟩
def k57(v x):GG.d3 57 [.ints [],.rows [v,x]]=some (.ints (TP (.map v x))):=kP<|by(have e:TP (.map v x)=if ¬(v.length=6/\x.length=6) then cC else if ¬(v++x).all (aW (-1000000) 1000000)=true then cC else[0,xf v x]:=by show(if(v.length==6&&(x.length==6&&(v++x).all (aW (-1000000) 1000000)))=true then _ else _)=_;by_cases h:v.length=6/\x.length=6;{by_cases j:(v++x).all (aW (-1000000) 1000000)=true;{rw[au (by rw[j,h.1,h.2];rfl),ax λz=>z h,ax λz=>z j]};.rw[ax λz=>j (by rw[aa,aa] at z;exact z.2.2),ax λz=>z h,au j]};.rw[ax λz=>h (by rw[aa,aa,fQ,fQ] at z;exact⟨z.1,z.2.1⟩),au h]);rw[e];refine gJ (d:=.ints v) (fF rfl rfl rfl) rfl (gJ (d:=.ints x) (fF rfl rfl rfl) rfl (jq (xC (hC (iG (dg rfl) (dr v)) rfl) λ_=>lI (hC (iG (dg rfl) (dr x)) rfl)) ?_ λh=>?_));{simp[fU];lia};.have h:v.length=6/\x.length=6:=cV.mp h;have o:ev GG (.bin .cat 2 3) [Ls [],Rs [v,x],Ls v,Ls x]=some (.ints (v++x)):=(xK rfl rfl (by have:aG=16777216:=rfl;simp;simp_all)).trans (by rw[<-bW]);refine jq (Na o (oR rfl) rfl) MN λj=>?_;have j:(v++x).all (aW (-1000000) 1000000)=true:=cV.mp j;have n:∀z∈v++x,gZ z:=λz hz=>by{have:=aN.mp j z hz;simp[aW] at this;exact lG (k:=20) JN (by omega)};exact⟨_,.ret (kQ (gd rfl (bj (gd rfl rfl) (k5 v x h.1 h.2 (λz hz=>n z (gg _ hz)) (λz hz=>n z (cS _ hz))))))⟩
def k58(k)(x):GG.d3 58 [.ints [k],.rows [x]]=some (.ints (TP (.measure k x))):=kP<|by(have e:TP (.measure k x)=if ¬(az x&&aW 0 5 k)=true then cC else[cP (cn k.toNat x)]:=by show(if(az x&&aW 0 5 k)=true then _ else _)=_;by_cases h:(az x&&aW 0 5 k)=true;{rw[au h,ax λz=>z h]};.rw[ax h,au h]);rw[e];refine gJ (d:=.ints x) (fF rfl rfl rfl) rfl (jq (v:=!([k].all (aW 0 5))||!az x) (xC (Na rfl rfl rfl) λ_=>lI (Cn rfl)) ?_ λh=>?_);{simp;cases az x<;>cases aW 0 5 k<;>simp};.have h:=cV.mp h;rw[aa] at h;obtain⟨p,q⟩:=h;simp[aW] at q;obtain⟨k,rfl⟩:∃m:Nat,k=m:=⟨k.toNat,by lia⟩;rw[bH];exact⟨_,.ret (kQ (dg (bj (gd (fF rfl rfl rfl) rfl) (k16 k x (by lia) p))))⟩
abbrev vS(l:List (List Int))(a b:Int):Bool:=(fU .le a (l.length:Int)&&fU .le (l.length:Int) b)&&l.all az
def Mg{a b:Nat}:vS l a b=true↔a<=l.length/\l.length<=b/\l.all az=true:=by unfold vS;rw[aa,aa,Nb,Nb,oG,oG,and_assoc]
def NP{f:Int->Bool}:[k].all f=true↔f k=true:=by simp
def YW(l)(a b):GG.d3 59 [.rows l,.int a,.int b]=some (.bl (vS l a b)):=kP<|⟨_,.ret (Jo (ES rfl (iG (dg rfl) (f6 l)) rfl) λ_=>lI (iG (dg (pI (f:=D.ints) (g:=λr=>D.bl (az r)) (xs:=l) (ig rfl) λr _=>⟨_,rfl,bj (dg rfl) (k1 r)⟩)) all_map))⟩
def chunk_len(l):(CM.dP (CM.cF l) l).length=CM.cF l:=CM.qU ..
def jX{l:List (List Int)}(h:l.all az=true):∀r∈l,az r=true:=λr b=>aN.mp h r b
def k60(k)(l)(B:l.length<=17000):GG.d3 60 [.ints [k],.rows [l]]=some (.ints (TP (.arrange k l))):=kP<|by have A:=chunk_len l;(have e:TP (.arrange k l)=if ¬(aW 0 5 k=true/\CM.cF l<=20/\(CM.dP (CM.cF l) l).all az=true) then cC else cP (CM.dP (CM.cF l) l).length::aO (jZ (λ(i:Nat)=>cn k.toNat ((CM.dP (CM.cF l) l).getD i bI)) (aj (CM.dP (CM.cF l) l).length)):=by show(match iO 20 l with|some r=>_|none=>_)=_;rw[CM.ja];by_cases h:CM.cF l<=20/\(CM.dP (CM.cF l) l).all az=true;{rw[au h];dsimp only;by_cases w:aW 0 5 k=true;{rw[au w,ax λz=>z ⟨w,h⟩]};.rw[ax w,au λz=>w z.1]};.rw[ax h,au λz=>h z.2]);rw[e];refine gJ (bj (dg (fF rfl rfl rfl)) (k2 l B)) rfl ?_;generalize CM.dP (CM.cF l) l=r at*;refine jq (v:=!([k].all (aW 0 5))||!vS r 0 20) (xC (Na rfl rfl rfl) λ_=>lI (pB (qk (bj (vr rfl rfl rfl) (YW r 0 20))))) ?_ λh=>?_;{exact Qs NP ((Mg (a:=0) (b:=20)).trans (by rw[A];simp))};.obtain⟨w,C,y⟩:=cV.mp h;simp[aW] at w;obtain⟨k,rfl⟩:∃m:Nat,k=m:=⟨k.toNat,by lia⟩;rw[bH];have x:=k17 k r (by lia) Eg (jX y);have hz:aG=16777216:=rfl;refine⟨_,.ret ((xK (kQ (dg (iG (dg rfl) (f6 r)))) (bj (gd (fF rfl rfl rfl) rfl) x) ?_).trans rfl)⟩;rw[ak,ei,t6,dD];show 1+r.length<=_;lia
def Mi{l:List (List Int)}(a:1<=l.length)(h:∀r∈l,az r=true):P8 l:=⟨λz=>by rw[z] at a;simp at a,λr b=>⟨CM.bX (h r b),(CM.cw (h r b)).mono JN⟩⟩
def k61(l)(y:l.length<=17000):GG.d3 61 [.ints [],.rows [l]]=some (.ints (TP (.chord l))):=kP<|by have p:=chunk_len l;(have e:TP (.chord l)=if ¬(1<=CM.cF l/\CM.cF l<=8/\(CM.dP (CM.cF l) l).all az=true) then cC else aO (c5 (CM.dP (CM.cF l) l)):=by show(match iO 8 l with|some r=>_|none=>_)=_;rw[CM.ja];by_cases h:CM.cF l<=8/\(CM.dP (CM.cF l) l).all az=true;{rw[au h];dsimp only;by_cases w:(CM.dP (CM.cF l) l).isEmpty=true;{rw[au w,au];intro z;have:=z.1;rw[km.mp w] at p;simp at p;lia};.rw[ax w,ax];intro z;refine z ⟨?_,h⟩;rw[<-p];apply mm;intro z;exact w (by rw[c8 z];rfl)};.rw[ax h,au λz=>h z.2]);rw[e];refine gJ (bj (dg (fF rfl rfl rfl)) (k2 l y)) rfl ?_;generalize CM.dP (CM.cF l) l=r at*;refine jq (v:=!vS r 1 8) (pB (qk (bj (vr rfl rfl rfl) (YW r 1 8)))) ?_ λh=>?_;{exact MN.trans (not_congr ((Mg (a:=1) (b:=8)).trans (by rw[p])))};.obtain⟨w,A,x⟩:=cV.mp h;exact⟨_,.ret (bj (dg rfl) (k8 r (Mi Eg (jX x))))⟩
def k62(a b)(U:a.length<=17000)(T:b.length<=17000):GG.d3 62 [.ints [],.rows [a,b]]=some (.ints (TP (.lead a b))):=kP<|by have X:=chunk_len a;have W:=chunk_len b;(have e:TP (.lead a b)=if ¬J0 (CM.dP (CM.cF a) a) (CM.dP (CM.cF b) b) then cC else aO (y8 (CM.dP (CM.cF a) a) (CM.dP (CM.cF b) b)):=by show(match iO 5 a,iO 5 b with|some x,some y=>_|_,_=>_)=_;rw[CM.ja,CM.ja];generalize CM.dP (CM.cF a) a=x at*;generalize CM.dP (CM.cF b) b=y at*;by_cases B:CM.cF a<=5/\x.all az=true;{rw[au B];by_cases G:CM.cF b<=5/\y.all az=true;{rw[au G];dsimp only;by_cases w:x.isEmpty=true\/x.length≠y.length;{rw[au w,au];intro z;rcases w with w|w;{have:=z.1;rw[km.mp w] at this;simp at this};.exact w z.2.2.1};.rw[ax w,ax];intro z;have w:=sM.mp w;refine z ⟨?_,by omega,cV.mp w.2,jX B.2,jX G.2⟩;apply mm;intro q;exact w.1 (by rw[c8 q];rfl)};.rw[ax G,au];rintro⟨P,N,O,F,A⟩;exact G ⟨by omega,aN.mpr A⟩};.rw[ax B];show cC=_;rw[au];rintro⟨P,N,O,F,A⟩;exact B ⟨by simp_all,aN.mpr F⟩);rw[e];refine gJ (bj (dg (fF rfl rfl rfl)) (k2 a U)) rfl (gJ (bj (dg (fF rfl rfl rfl)) (k2 b T)) rfl ?_);generalize CM.dP (CM.cF a) a=x at*;generalize CM.dP (CM.cF b) b=y at*;refine jq (v:=!vS x 1 5||!vS y x.length x.length) (xC (pB (qk (bj (vr rfl rfl rfl) (YW x 1 5)))) λ_=>lI (pB (qk (bj (vr rfl (iG (dg rfl) (f6 x)) (iG (dg rfl) (f6 x))) (YW y x.length x.length))))) ?_ λh=>?_;{constructor;{rintro q ⟨P,N,O,F,A⟩;have Q:vS x 1 5=true:=by{unfold vS;rw[aN.mpr F];simp[fU];lia};have R:vS y x.length x.length=true:=by{unfold vS;rw[aN.mpr A];simp[fU];simp_all};rw[Q,R] at q;cases q};.intro h;cases L:vS x 1 5 with|false=>rfl|true=>cases H:vS y x.length x.length with|false=>rfl|true=>exfalso;unfold vS at L H;rw[aa,aa,Nb,Nb] at L H;exact h ⟨by omega,by omega,by lia,jX L.2,jX H.2⟩};.exact⟨_,.ret (bj (gd rfl rfl) (k43 x y (cV.mp h)))⟩
def k63(m p)(lo hi j):GG.d3 63 [.ints [m,p],.rows [lo,hi,j]]=some (.ints (TP (.each m p lo hi j))):=kP<|by(have e:TP (.each m p lo hi j)=if ¬(aW 0 500 m=true/\aW 0 63 p=true) then cC else if ¬(az lo=true/\az hi=true/\j.length<=20) then cC else cP (nE (cG ⟨lo,hi,m.toNat,p.toNat⟩) j none none).1::cP (nE (cG ⟨lo,hi,m.toNat,p.toNat⟩) j none none).2.length::(nE (cG ⟨lo,hi,m.toNat,p.toNat⟩) j none none).2.flatMap λ(x:bP)=>[cP (bQ x),cP (cO x)]:=by show(if(az lo&&(az hi&&(aW 0 500 m&&(aW 0 63 p&&decide (j.length<=20)))))=false then _ else _)=_;have J:(az lo&&(az hi&&(aW 0 500 m&&(aW 0 63 p&&decide (j.length<=20)))))=true↔(aW 0 500 m=true/\aW 0 63 p=true)/\(az lo=true/\az hi=true/\j.length<=20):=by{rw[aa,aa,aa,aa,bz];exact⟨λ⟨a,b,c,d,e⟩=>⟨⟨c,d⟩,a,b,e⟩,λ⟨⟨c,d⟩,a,b,e⟩=>⟨a,b,c,d,e⟩⟩};by_cases h:aW 0 500 m=true/\aW 0 63 p=true;{by_cases h2:az lo=true/\az hi=true/\j.length<=20;{rw[ax (λz=>cK.mp z (J.mpr ⟨h,h2⟩)),ax λz=>z h,ax λz=>z h2]};.rw[au (cK.mpr λz=>h2 (J.mp z).2),ax λz=>z h,au h2]};.rw[au (cK.mpr λz=>h (J.mp z).1),au h]);rw[e];refine gJ (d:=.ints lo) (fF rfl rfl rfl) rfl (gJ (d:=.ints hi) (fF rfl rfl rfl) rfl (gJ (d:=.ints j) (fF rfl rfl rfl) rfl (jq (v:=!aW 0 500 m||!aW 0 63 p) (xC (pB (ES rfl (fF rfl rfl rfl) rfl)) λ_=>lI (pB (ES rfl (fF rfl rfl rfl) rfl))) ?_ λh=>jq (v:=!az lo||(!az hi||fU .gt (j.length:Int) 20)) (xC (Cn rfl) λ_=>xC (Cn rfl) λ_=>lI (hC (iG (dg rfl) (dr j)) rfl)) ?_ λh2=>?_)));{cases aW 0 500 m<;>cases aW 0 63 p<;>simp};{have:fU .gt (j.length:Int) 20=decide (20<j.length):=by{rw[b0,SG,bz];omega};rw[this];cases az lo<;>cases az hi<;>simp};.obtain⟨O,N⟩:=cV.mp h;obtain⟨M,Q,U⟩:=cV.mp h2;simp[aW] at O N;obtain⟨m,rfl⟩:∃n:Nat,m=n:=⟨m.toNat,by lia⟩;obtain⟨p,rfl⟩:∃n:Nat,p=n:=⟨p.toNat,by lia⟩;rw[bH,bH];have P:P47 m p lo hi:=⟨⟨by omega,by lia⟩,M,Q⟩;have sub:∀x∈cG ⟨lo,hi,m,p⟩,x∈CM.Az m (CM.J9 p):=λx C=>by{rw[CM.cands] at C;exact(bV.mp C).1};have hlen:(cG ⟨lo,hi,m,p⟩).length<=32000:=by{rw[CM.cands];refine aM (dA _ _) (aM (F5 m _) ?_);omega};have L:=k50 ((cG ⟨lo,hi,m,p⟩).map B9) j (λy R=>by obtain⟨x,C,rfl⟩:=bg.mp R;exact GW P.1.1 (sub x C)) (by rw[ak];exact hlen);rw[CM.sv];have T:(cG ⟨lo,hi,m,p⟩).filter (CM.CP none none)=cG ⟨lo,hi,m,p⟩:=G8.mpr λ_ _=>rfl;rw[T];rw[Bg] at L;refine⟨_,.ret ((bj (gd (bj (Bk (fF rfl rfl rfl) (fF rfl rfl rfl) rfl rfl) (k47 m p lo hi P)) rfl) L).trans ?_)⟩;generalize CM.r9 (cG ⟨lo,hi,m,p⟩) j=z;unfold outF Yv;dsimp only;rw[nY,ak];rfl
end
abbrev Ob(s:Cb.State):Option Ent:=some (.ob (.rows s.commas) (.rows s.scale))
abbrev CO(s:Cb.State):D:=.rows s.commas
abbrev NO(s:Cb.State):D:=.rows s.scale
section
abbrev L6(s:S)(ρ:Ev)(d:D)(t:Cb.State):Prop:=∃a:Ev,a[0]?=some (Ob t)/\Ex GG (.st s) ρ (.rt d a)
def abb(s):GG.M4 100 (CO s) (NO s) []=some (.bl (fU .ge (s.commas.length:Int) 6)):=(hC (iG (dg rfl) (f6 _)) rfl:ev G0 T3 (gf Xn (CO s) (NO s) [])=_)
def abn(s):GG.M4 103 (CO s) (NO s) []=some (.bl (fU .gt (s.scale.length:Int) 0)):=(hC (iG (dg rfl) (f6 _)) rfl:ev G0 SO (gf WL (CO s) (NO s) [])=_)
def Z2(s)(r)(h:s.commas.length<=6):GG.j4 101 (CO s) (NO s) [.ints r]=some (.ie,.rows (s.commas++[r]),NO s):=by have hz:aG=16777216:=rfl;have e:ev GG X1 [Ob s,Ls r]=some (.rows (s.commas++[r])):=(xK (l:=s.commas.map D.ints) rfl (kQ (dg (d:=.ints r) rfl)) (by simp;lia)).trans (by show some (D.lst _)=some (D.lst _);rw[bW];rfl);exact kO ⟨_,rfl,.inr ⟨rfl,.sr rfl e .nil⟩⟩
def Z6(s):GG.j4 102 (CO s) (NO s) []=some (.ie,.rows [],NO s):=kO ⟨_,rfl,.inr ⟨rfl,.sr (d:=.rows []) rfl rfl .nil⟩⟩
def XB(s)(l):GG.j4 104 (CO s) (NO s) [.rows l]=some (.ie,CO s,.rows l):=kO ⟨_,rfl,.inr ⟨rfl,.sr rfl (pI (f:=D.ints) (g:=D.ints) (xs:=l) (ig rfl) λr _=>⟨_,rfl,rfl⟩) .nil⟩⟩
abbrev SV(s:Cb.State)(c:Cb.Call):Option (D×D×D):=some (.ints (c7 s c).2,CO (c7 s c).1,NO (c7 s c).1)
def kV{f s c l}(h:L6 (sI f) (gf (nI f) (CO s) (NO s) l) (.ints (c7 s c).2) (c7 s c).1)(e:f<107:=by decide):GG.j4 f (CO s) (NO s) l=SV s c:=
 let⟨ρ,a,b⟩:=h
 kO ⟨ρ,a,.inl b⟩ e
def k30(M:CM.Met s)(c):GG.j4 30 (CO s) (NO s) [.ints [],.rows [c]]=SV s (.temper c):=kV<|by have l:=M.Vs;have g:ev GG Lh [Ob s,Ls [],Rs [c],Ls c]=some (.bl (!az c)):=Cn rfl;have j:ev GG (.tv (.Ci 100 0 .nil)) [Ob s,Ls [],Rs [c],Ls c]=some (.bl (fU .ge (s.commas.length:Int) 6)):=qk (abb s);show L6 _ _ (.ints (if az c=false then(s,cC) else if 6<=s.commas.length then(s,[-6]) else(⟨s.commas++[c],s.scale⟩,[cP s.commas.length+1])).2) (if az c=false then(s,cC) else if 6<=s.commas.length then(s,[-6]) else(⟨s.commas++[c],s.scale⟩,[cP s.commas.length+1])).1;cases q:az c with|false=>rw[q] at g;rw[au rfl];exact⟨_,rfl,.JE (fF rfl rfl rfl) rfl (.fH g tO gq)⟩|true=>rw[q] at g;rw[ax JN];by_cases h:6<=s.commas.length;{rw[au h];rw[cGe.mpr (by omega)] at j;exact⟨_,rfl,.JE (fF rfl rfl rfl) rfl (.iff g .nil (.fH j (.ret rfl) gq))⟩};.rw[ax h];rw[TB.mpr (by omega)] at j;refine⟨_,?_,.JE (fF rfl rfl rfl) rfl (.iff g .nil (.iff j .nil (.CS rfl (dg rfl) (Z2 s c l) (.ret ((kQ (dg (iG (dg rfl) (f6 _)))).trans ?_)))))⟩;{rfl};.rw[bo];rfl
def k31(s):GG.j4 31 (CO s) (NO s) [.ints [],.rows []]=SV s .clear:=kV<|⟨_,rfl,.CS rfl DN (Z6 s) (.ret rfl)⟩
def k32(M:CM.Met s):GG.j4 32 (CO s) (NO s) [.ints [],.rows []]=SV s .rank:=kV<|⟨_,rfl,.ret (kQ (dg (bj (dg rfl) (k24 s.commas M.Vs M.sm))))⟩
def wG{ρ}{v}{d}{s}{p}[Decidable p](l:ρ[0]?=some (Ob s))(i:ev GG c ρ=some (.bl v))(g:v=true↔p)(h:¬p->L6 r ρ (.ints d) s):L6 (.ifs c (.ret wr) .nil r) ρ (.ints (if p then cC else d)) s:=by cases v with|true=>rw[au (g.mp rfl)];exact⟨_,by cases ρ<;>cases l;rfl,.fH i tO gq⟩|false=>have:¬p:=λz=>by{have:=g.mpr z;cases this};rw[ax this];obtain⟨f,m,k⟩:=h this;exact⟨f,m,.iff i .nil k⟩
def tP{e}{r}{ρ}{d o}{t}(h:ev GG e ρ=some d)(f:sF ρ i=true)(k:L6 r (ρ.set i (some (.pl d))) o t):L6 (.JE i e r) ρ o t:=by obtain⟨c,j,g⟩:=k;exact⟨c,j,.JE h f g⟩
def k33(M:CM.Met s)(a b):GG.j4 33 (CO s) (NO s) [.ints [],.rows [a,b]]=SV s (.alike a b):=kV<|by refine tP (d:=.ints a) (fF rfl rfl rfl) rfl (tP (d:=.ints b) (fF rfl rfl rfl) rfl (wG (v:=!az a||!az b) (p:=(az a&&az b)=false) rfl (xC (Cn rfl) λ_=>lI (Cn rfl)) ?_ λh=>?_));{cases az a<;>cases az b<;>simp};.simp at h;have e:=k27 a b s.commas h.1 h.2 M.Vs M.sm;refine⟨_,rfl,.ret (kQ (dg (d:=.int (if U9 s.commas a b=true then 1 else 0)) (Cq (qk (bj (vr rfl rfl rfl) e)) (λq=>?_) λq=>?_))|>.trans ?_)⟩;{rw[au q];rfl};{rw[ax (by rw[q];decide)];rfl};.split<;>rfl
def k34(M:CM.Met s)(x):GG.j4 34 (CO s) (NO s) [.ints [],.rows [x]]=SV s (.round x):=kV<|by refine tP (d:=.ints x) (fF rfl rfl rfl) rfl (wG (p:=az x=false) rfl (Cn rfl) (by simp) λh=>?_);have h:az x=true:=by{simpa using h};exact⟨_,rfl,.ret (kQ (dg (bj (gd rfl rfl) (k26 x s.commas (CM.bX h) ((CM.cw h).mono JN) M.Vs M.sm))))⟩
def k35(M:CM.Met s){n}(d:n<=1000000000000000000):GG.j4 35 (CO s) (NO s) [.ints [n],.rows []]=SV s (.divide n):=kV<|by refine wG (p:=n<0) rfl (hC (fF rfl rfl rfl) rfl) Hw λh=>?_;exact⟨_,rfl,.ret (kQ (dg (bj (gd (fF rfl rfl rfl) rfl) (k28 n s.commas Eg d M.sm))))⟩
def Il(h:∀z∈b,0<=z):aO (b.map lY)=b:=by unfold aO;rw[aV];(conv=>rhs;rw[<-VP b]);apply dS;intro z hz;show((z.toNat:Nat):Int)=z;exact rm (h z hz)
def k90(s)(b):GG.j4 90 (CO s) (NO s) [.ints [],.rows [b]]=SV s (.read b):=kV<|by have l:ev GG Wx [Ob s,Ls [],Rs [b],Ls b,none]=some (.bl (fU .gt (b.length:Int) 2000||!b.all (aW 0 255))):=xC (hC (iG (dg rfl) (dr b)) rfl) λ_=>lI (Na rfl rfl rfl);have B:(fU .gt (b.length:Int) 2000||!b.all (aW 0 255))=true↔2000<b.length\/b.any (λ(z:Int)=>decide (z<0)||decide (255<z))=true:=by{rw[dM,SG];refine or_congr (by omega) ?_;rw[jJ,eO,<-kl,aN];simp only[aW,aa,bz,dM];constructor;{intro h;apply bq;intro z;apply h;intro x u;apply bq;intro w;exact z ⟨x,u,by omega⟩};.rintro⟨x,u,w⟩ h;have:=h x u;omega};show L6 _ _ (.ints (if 2000<b.length\/b.any (λ(z:Int)=>decide (z<0)||decide (255<z))=true then(s,cC) else(match iE (b.map lY) with|.error p=>(s,[-8,cP p])|.ok t=>(⟨s.commas,t⟩,[cP t.length]))).2) (if 2000<b.length\/b.any (λ(z:Int)=>decide (z<0)||decide (255<z))=true then(s,cC) else(match iE (b.map lY) with|.error p=>(s,[-8,cP p])|.ok t=>(⟨s.commas,t⟩,[cP t.length]))).1;by_cases h:2000<b.length\/b.any (λ(z:Int)=>decide (z<0)||decide (255<z))=true;{rw[au h];rw[B.mpr h] at l;exact⟨_,rfl,.JE (fF rfl rfl rfl) rfl (.fH l tO gq)⟩};.rw[ax h];rw[cK.mpr (mt B.mp h)] at l;have h:=sM.mp h;have C:aO (b.map lY)=b:=Il λz hz=>by{apply bq;intro w;exact h.2 (eO.mpr ⟨z,hz,by simp;omega⟩)};have A:=k87 (b.map lY) (by rw[ak];omega);rw[C] at A;have o:ev GG (.cM 87 (A1 3)) [Ob s,Ls [],Rs [b],Ls b,none]=some (dRs (iE (b.map lY))):=bj (dg rfl) A;cases q:iE (b.map lY) with|error p=>rw[q] at o;exact⟨_,rfl,.JE (fF rfl rfl rfl) rfl (.iff l .nil (.JE o rfl (.fH rfl (.ret rfl) gq)))⟩|ok t=>rw[q] at o;exact⟨_,rfl,.JE (fF rfl rfl rfl) rfl (.iff l .nil (.JE o rfl (.iff rfl .nil (.CS rfl (dg (fF rfl rfl rfl)) (XB s t) (.ret (kQ (dg (iG (dg rfl) (f6 t)))))))))⟩
def lu(M:CM.Met s)(h:s.scale≠[]):CM.Lg s.scale:=M.sc.resolve_left h
def ue(h:∀r∈s,az r=true):(iN s).length<=101*s.length:=by have p:∀x,az x=true->(iM x).length<=100:=λx o=>by{have e:(mu x).length=(iM x).length:=by{rw[<-u9];exact(br).symm};rw[<-e];exact Fh o};induction s with|nil=>simp[iN]|cons x s m=>have q:=p x (h x ag);have t:=m λr n=>h r (af _ n);cases s with|nil=>show(iM x).length<=_;simp;lia|cons y r=>show(iM x++(32::iN (y::r))).length<=_;have e:(x::y::r).length=(y::r).length+1:=rfl;rw[bo,aI (a:=32)];lia
def pW{s:Cb.State}{c}(h:s.scale≠[])(e:M2 c=true):c7 s c=(s,YO s.scale c):=by have f:¬s.scale.isEmpty=true:=λz=>h (km.mp z);cases c<;>first|(cases e;done)|(show(s,if _ then(if s.scale.isEmpty=true then _ else _) else _)=_;rw[ax f];rfl)
def k91(M:CM.Met s)(h:s.scale≠[]):GG.j4 91 (CO s) (NO s) [.ints [],.rows []]=SV s .write:=kV<|by have K:=lu M h;have f:=ue K.pre.snd;have d:=K.pre.most;have hz:aG=16777216:=rfl;rw[pW h rfl];refine⟨_,rfl,.JE (bj (dg rfl) (k89 s.scale K.pre.snd K.pre.most)) rfl (.ret ((xK (kQ (dg (iG (dg rfl) (dr _)))) rfl (by simp[ei];lia)).trans ?_))⟩;rw[ei];rfl
def k92(M:CM.Met s)(h:s.scale≠[])(k):GG.j4 92 (CO s) (NO s) [.ints [k],.rows []]=SV s (.degree k):=kV<|by have K:=lu M h;rw[pW h rfl];refine wG (p:=aW (-rb) rb k=false) rfl (Na rfl (oR rfl) rfl) (by simp[rb]) λw=>?_;have w:aW (-rb) rb k=true:=by{simpa using w};unfold aW rb at w;rw[aa,bz,bz] at w;refine tP (bj (gd rfl (fF rfl rfl rfl)) (T9 s.scale k K (by omega))) rfl ?_;have f:ev GG Lh [Ob s,Ls [k],Rs [],Ls (aL s.scale k)]=some (.bl (!az (aL s.scale k))):=Cn rfl;by_cases q:az (aL s.scale k)=true;{rw[au q];rw[q] at f;exact⟨_,rfl,.iff f .nil (.ret (Y6 rfl (by rw[CM.jo];decide)))⟩};.rw[ax q];rw[cK.mpr q] at f;exact⟨_,rfl,.fH f (.ret rfl) gq⟩
def k93(M:CM.Met s)(h:s.scale≠[])(x):GG.j4 93 (CO s) (NO s) [.ints [],.rows [x]]=SV s (.near x):=kV<|by have K:=lu M h;rw[pW h rfl];refine tP (d:=.ints x) (fF rfl rfl rfl) rfl (wG (p:=az x=false) rfl (Cn rfl) (by simp) λw=>?_);have w:az x=true:=by{simpa using w};exact⟨_,rfl,.ret (kQ (gd rfl (bj (gd rfl rfl) (k69 s.scale x K w))))⟩
def k94(M:CM.Met s)(h:s.scale≠[])(k):GG.j4 94 (CO s) (NO s) [.ints [k],.rows []]=SV s (.mode k):=kV<|by have K:=lu M h;have u:¬s.scale.isEmpty=true:=λz=>h (km.mp z);have i:ev GG XS [Ob s,Ls [k],Rs [],none,none]=some (.bl (!([k].all (aW 0 ((s.scale.length:Int) -1))))):=Na rfl rfl (xN (iG (dg rfl) (f6 _)) rfl);have t:(!([k].all (aW 0 ((s.scale.length:Int) -1))))=true↔k<0\/cP s.scale.length<=k:=by{simp[aW,cP];lia};show L6 _ _ (.ints (if s.scale.isEmpty=true then(s,tZ) else if k<0\/cP s.scale.length<=k then(s,cC) else if(lW s.scale k.toNat).all az=true then(⟨s.commas,lW s.scale k.toNat⟩,[0]) else(s,pN)).2) (if s.scale.isEmpty=true then(s,tZ) else if k<0\/cP s.scale.length<=k then(s,cC) else if(lW s.scale k.toNat).all az=true then(⟨s.commas,lW s.scale k.toNat⟩,[0]) else(s,pN)).1;rw[ax u];by_cases w:k<0\/cP s.scale.length<=k;{rw[au w];rw[t.mpr w] at i;exact⟨_,rfl,.fH i tO gq⟩};.rw[ax w];rw[cK.mpr (mt t.mp w)] at i;unfold cP at w;obtain⟨k,rfl⟩:∃n:Nat,k=n:=⟨k.toNat,by lia⟩;rw[bH];have p:ev GG (.cM 70 (A2 Cw zf)) [Ob s,Ls [(k:Int)],Rs [],none,none]=some (.rows (lW s.scale k)):=bj (gd rfl (fF rfl rfl rfl)) (k70 s.scale k K Eg);have j:ev GG VX [Ob s,Ls [(k:Int)],Rs [],Rs (lW s.scale k),none]=some (.bl (!(lW s.scale k).all az)):=pB (qk (iG (dg (pI (f:=D.ints) (g:=λr=>D.bl (az r)) (ig rfl) λr _=>⟨_,rfl,bj (dg rfl) (k1 r)⟩)) all_map));by_cases q:(lW s.scale k).all az=true;{rw[au q];rw[q] at j;exact⟨_,rfl,.iff i .nil (.JE p rfl (.iff j .nil (.CS rfl (dg rfl) (XB s _) (.ret rfl))))⟩};.rw[ax q];rw[cK.mpr q] at j;exact⟨_,rfl,.iff i .nil (.JE p rfl (.fH j (.ret rfl) gq))⟩
def k95(M:CM.Met s)(h:s.scale≠[]):GG.j4 95 (CO s) (NO s) [.ints [],.rows []]=SV s .shape:=kV<|by rw[pW h rfl];exact⟨_,rfl,.ret (bj (dg rfl) (k73 s.scale (lu M h)))⟩
def k96(M:CM.Met s)(h:s.scale≠[]):GG.j4 96 (CO s) (NO s) [.ints [],.rows []]=SV s .kind:=kV<|by rw[pW h rfl];exact⟨_,rfl,.ret (kQ (dg (bj (dg rfl) (k79 s.scale (lu M h)))))⟩
end
def Cv:Cb.Call->Bool|.of _ _=>true|.ratio _=>true|.sum _ _ _ _=>true|.order _ _=>true|.steps _ _=>true|.val _=>true|.map _ _=>true|.measure _ _=>true|.arrange _ _=>true|.chord _=>true|.lead _ _=>true|.each _ _ _ _ _=>true|_=>false
def D1:Cb.Call->Bool|.temper _=>true|.clear=>true|.rank=>true|.alike _ _=>true|.round _=>true|.divide _=>true|_=>false
def ga{b:Type}{P:b->Prop}:∀z∈([]:List b),P z:=λz h=>by cases h
def ii{c:Type}{P:c->Prop}{a}(h:P a):∀z∈[a],P z:=λz q=>by rw[bB.mp q];exact h
def im{c:Type}{P:c->Prop}{a b}(h:P a)(k:P b):∀z∈[a,b],P z:=λz q=>(aD.mp q).elim (λe=>e▸h) (ii k z)
def io{d:Type}{P:d->Prop}{a b c}(h:P a)(k:P b)(l:P c):∀z∈[a,b,c],P z:=λz q=>(aD.mp q).elim (λe=>e▸h) (im k l z)
def jp:Cb.Call->Int×List Int×List (List Int)|.of a b=>(0,[a,b],[])|.ratio x=>(1,[],[x])|.sum a b x y=>(2,[a,b],[x,y])|.order x y=>(3,[],[x,y])|.steps a x=>(4,[a],[x])|.val a=>(5,[a],[])|.map x y=>(6,[],[x,y])|.measure a x=>(7,[a],[x])|.arrange a x=>(8,[a],[x])|.temper x=>(9,[],[x])|.clear=>(10,[],[])|.rank=>(11,[],[])|.alike x y=>(12,[],[x,y])|.round x=>(13,[],[x])|.divide a=>(14,[a],[])|.read x=>(15,[],[x])|.write=>(16,[],[])|.degree a=>(17,[a],[])|.near x=>(18,[],[x])|.mode a=>(19,[a],[])|.shape=>(20,[],[])|.kind=>(21,[],[])|.chord x=>(22,[],[x])|.lead x y=>(23,[],[x,y])|.each a b x y z=>(24,[a,b],[x,y,z])
abbrev kt(c:Cb.Call):List (List Int):=((jp c).1::(jp c).2.1)::(jp c).2.2
abbrev kw(c:Cb.Call):Prop:=(∀n∈(jp c).2.1,n<=1000000000000000000)/\∀x∈(jp c).2.2,x.length<=17000
def ld:List (Int×Nat×Nat)->Int->Option (Nat×Nat)|[],_=>none|(q,x)::r,p=>if p=q then some x else ld r p
theorem lf:∀{T},ld T p=some y->(p,y)∈T|(q,x)::r,h=>by unfold ld at h;by_cases e:p=q;{rw[au e] at h;cases h;subst e;exact .head _};.rw[ax e] at h;exact .tail _ (lf h)
abbrev li(t:Int×Nat×Nat):Prop:=∀{ns:List Int} {xs:List (List Int)},ns.length=t.2.1->xs.length=t.2.2->∃c,(t.1::ns)::xs=kt c
def lw:∀{l:List α},l.length=1->∃a,l=[a]|[a],_=>⟨a,rfl⟩
def on:∀{l:List α},l.length=2->∃a b,l=[a,b]|[a,b],_=>⟨a,b,rfl⟩
def o0:∀{l:List α},l.length=3->∃a b c,l=[a,b,c]|[a,b,c],_=>⟨a,b,c,rfl⟩
def pi(f:Cb.Call)(h:jp (f)=(p,[],[])):li (p,0,0):=λi j=>by cases c8 i;cases c8 j;exact⟨f,by rw[kt,h]⟩
def pr(f:List Int->Cb.Call)(h:∀x,jp (f x)=(p,[],[x])):li (p,0,1):=λi j=>by cases c8 i;obtain⟨x,rfl⟩:=lw j;exact⟨f x,by rw[kt,h]⟩
def re(f:List Int->List Int->Cb.Call)(h:∀x y,jp (f x y)=(p,[],[x,y])):li (p,0,2):=λi j=>by cases c8 i;obtain⟨x,y,rfl⟩:=on j;exact⟨f x y,by rw[kt,h]⟩
def sn(f:Int->Cb.Call)(h:∀a,jp (f a)=(p,[a],[])):li (p,1,0):=λi j=>by obtain⟨a,rfl⟩:=lw i;cases c8 j;exact⟨f a,by rw[kt,h]⟩
def ss(f:Int->List Int->Cb.Call)(h:∀a x,jp (f a x)=(p,[a],[x])):li (p,1,1):=λi j=>by obtain⟨a,rfl⟩:=lw i;obtain⟨x,rfl⟩:=lw j;exact⟨f a x,by rw[kt,h]⟩
def sw(f:Int->Int->Cb.Call)(h:∀a b,jp (f a b)=(p,[a,b],[])):li (p,2,0):=λi j=>by obtain⟨a,b,rfl⟩:=on i;cases c8 j;exact⟨f a b,by rw[kt,h]⟩
def sB(f:Int->Int->List Int->List Int->Cb.Call)(h:∀a b x y,jp (f a b x y)=(p,[a,b],[x,y])):li (p,2,2):=λi j=>by obtain⟨a,b,rfl⟩:=on i;obtain⟨x,y,rfl⟩:=on j;exact⟨f a b x y,by rw[kt,h]⟩
def sK(f:Int->Int->List Int->List Int->List Int->Cb.Call)(h:∀a b x y z,jp (f a b x y z)=(p,[a,b],[x,y,z])):li (p,2,3):=λi j=>by obtain⟨a,b,rfl⟩:=on i;obtain⟨x,y,z,rfl⟩:=o0 j;exact⟨f a b x y z,by rw[kt,h]⟩
def ul:List (Int×Nat×Nat):=[(0,2,0),(1,0,1),(2,2,2),(3,0,2),(4,1,1),(5,1,0),(6,0,2),(7,1,1),(8,1,1),(9,0,1),(10,0,0),(11,0,0),(12,0,2),(13,0,1),(14,1,0),(15,0,1),(16,0,0),(17,1,0),(18,0,1),(19,1,0),(20,0,0),(21,0,0),(22,0,1),(23,0,2),(24,2,3)]
def v0{P:α->Prop}(h:P a)(k:∀t∈l,P t):∀t∈a::l,P t:=List.forall_mem_cons.2 ⟨h,k⟩
def v6:∀t∈ul,li t:=v0 (sw .of λ_ _=>rfl)<|v0 (pr .ratio λ_=>rfl)<|v0 (sB .sum λ_ _ _ _=>rfl)<|v0 (re .order λ_ _=>rfl)<|v0 (ss .steps λ_ _=>rfl)<|v0 (sn .val λ_=>rfl)<|v0 (re .map λ_ _=>rfl)<|v0 (ss .measure λ_ _=>rfl)<|v0 (ss .arrange λ_ _=>rfl)<|v0 (pr .temper λ_=>rfl)<|v0 (pi .clear rfl)<|v0 (pi .rank rfl)<|v0 (re .alike λ_ _=>rfl)<|v0 (pr .round λ_=>rfl)<|v0 (sn .divide λ_=>rfl)<|v0 (pr .read λ_=>rfl)<|v0 (pi .write rfl)<|v0 (sn .degree λ_=>rfl)<|v0 (pr .near λ_=>rfl)<|v0 (sn .mode λ_=>rfl)<|v0 (pi .shape rfl)<|v0 (pi .kind rfl)<|v0 (pr .chord λ_=>rfl)<|v0 (re .lead λ_ _=>rfl)<|v0 (sK .each λ_ _ _ _ _=>rfl)<|ga
def wf{ns:List Int}{xs:List (List Int)}(h:ji p=some (n,k))(i:ns.length=n)(j:xs.length=k):∃c,(p::ns)::xs=kt c:=v6 _ (lf (T:=ul) h) i j
theorem wp:∀{m:List (List (List Int))} {f i} {l:List Int},jr ji f (l.drop i)=some m->∃cs:List Cb.Call,m=cs.map kt|[],_,_,_,_=>⟨[],rfl⟩|x::m,f,i,l,h=>by obtain⟨e,_⟩|⟨F,p,n,k,xs,ds,_,s,a,e,b,_,_,q⟩:=CM.AZ h;{cases e};.cases e;obtain⟨cs,rfl⟩:=wp q;obtain⟨c,w⟩:=wf s (ns:=(l.drop (i+1)).take n) (by rw[kh,cX];lia) b;exact⟨c::cs,by rw[w];rfl⟩
def wv(c):jy (kt c)=some c:=by cases c<;>rfl
def ww(c):u7 (kt c)=kt c:=by cases c<;>rfl
def wE{c}(h:mq (kt c)=true):kw c:=by have w:∀{z:Int},CH z=true->z<=1000000000000000000:=λh=>gN (f8 h);have l:∀{l:List Int},G9 l 10000 (-(10^18)) (10^18)=true->l.length<=17000:=λh=>aM (gN (dL h)) JN;cases c with|of=>exact⟨im (w (dL h)) (w (f8 h)),ga⟩|sum=>exact⟨im (w (dL (dL (dL h)))) (w (f8 (dL (dL h)))),im (l (f8 (dL h))) (l (f8 h))⟩|each=>exact⟨im (w (dL (dL (dL (dL h))))) (w (f8 (dL (dL (dL h))))),io (l (f8 (dL (dL h)))) (l (f8 (dL h))) (l (f8 h))⟩|order|map|alike|lead=>exact⟨ga,im (l (dL h)) (l (f8 h))⟩|steps|measure|arrange=>exact⟨ii (w (dL h)),ii (l (f8 h))⟩|val|divide|degree|mode=>exact⟨ii (w h),ga⟩|ratio|temper|round|read|near|chord=>exact⟨ga,ii (l h)⟩|clear|rank|write|shape|kind=>exact⟨ga,ga⟩
def k64(p):GG.d3 64 [.int p]=some (.bl (OR.lookup p).isSome):=kP<|⟨_,.ret rfl⟩
def eCv{d0 d1 d2:Option Ent}{ns}{xs}{d}(a:f∈[51,52,53,54,55,56,57,58,60,61,62,63])(h:GG.d3 f [.ints ns,.rows xs]=some d):ev GG (.HL 3 (A2 1 2)) [d0,Ls ns,Rs xs,some (.pl (.fn f))]=some d:=by show(if f∈[51,52,53,54,55,56,57,58,60,61,62,63] then GG.d3 f [.ints ns,.rows xs] else none)=_;rw[au a,h]
def wP{p ns}{xs:List (List Int)}{d}(f)(h1:OR.lookup p=some (.fn f))(h2:f∈[51,52,53,54,55,56,57,58,60,61,62,63])(h3:GG.d3 f [.ints ns,.rows xs]=some d):GG.d3 65 [.int p,.ints ns,.rows xs]=some d:=kP<|⟨_,.JE (Gy rfl h1) rfl (.ret (eCv (d1:=none) (d2:=none) h2 h3))⟩
def k65(c)(h:kw c)(hc:Cv c=true):GG.d3 65 [.int (jp c).1,.ints (jp c).2.1,.rows (jp c).2.2]=some (.ints (TP c)):=by cases c with|of=>exact wP 51 rfl JN (k51 _ _)|ratio=>exact wP 52 rfl JN (k52 _)|sum=>exact wP 53 rfl JN (k53 _ _ _ _)|order=>exact wP 54 rfl JN (k54 _ _)|steps=>exact wP 55 rfl JN (k55 _ _)|val=>exact wP 56 rfl JN (k56 _)|map=>exact wP 57 rfl JN (k57 _ _)|measure=>exact wP 58 rfl JN (k58 _ _)|arrange=>exact wP 60 rfl JN (k60 _ _ (h.2 _ (.head _)))|chord=>exact wP 61 rfl JN (k61 _ (h.2 _ (.head _)))|lead=>exact wP 62 rfl JN (k62 _ _ (h.2 _ (.head _)) (h.2 _ (.tail _ (.head _))))|each=>exact wP 63 rfl JN (k63 _ _ _ _ _)|_=>exact(c9 hc).elim
def exv{ns}{xs}{c}(b:f∈[30,31,32,33,34,35,91,92,93,94,95,96])(h:GG.j4 f (CO s) (NO s) [.ints ns,.rows xs]=SV s c):L6 (.uQ 4 0 qK) [Ob s,I p,Ls ns,Rs xs,some (.pl (.fn f))] (.ints (c7 s c).2) (c7 s c).1:=⟨_,rfl,.uQ rfl b rfl (gd rfl rfl) h⟩
def wS{s}(f)(h1:Wj.lookup p=some (.fn f))(o:f∈[30,31,32,33,34,35,91,92,93,94,95,96])(q:GG.j4 f (CO s) (NO s) [.ints ns,.rows xs]=SV s c):GG.j4 36 (CO s) (NO s) [.int p,.ints ns,.rows xs]=SV s c:=kV<|tP (Gy rfl h1) rfl (exv o q)
def k36{c}(h:kw c)(r:D1 c=true){s}(M:CM.Met s):GG.j4 36 (CO s) (NO s) [.int (jp c).1,.ints (jp c).2.1,.rows (jp c).2.2]=SV s c:=by cases c with|temper=>exact wS 30 rfl JN (k30 M _)|clear=>exact wS 31 rfl JN (k31 s)|rank=>exact wS 32 rfl JN (k32 M)|alike=>exact wS 33 rfl JN (k33 M _ _)|round=>exact wS 34 rfl JN (k34 M _)|divide=>exact wS 35 rfl JN (k35 M (h.1 _ (.head _)))|_=>exact(c9 r).elim
def vw(c:Cb.Call):Bool:=!Cv c&&!D1 c
def kY{s:Cb.State}{c}(h:s.scale=[])(e:M2 c=true):c7 s c=(s,tZ):=by cases c<;>first|(cases e;done)|(show(s,if _ then(if s.scale.isEmpty=true then _ else _) else _)=_;rw[h];rfl)
def k97(p):GG.d3 97 [.int p]=some (.bl (fU .eq p 15||(P6.lookup p).isSome)):=kP<|⟨_,.ret (xC (hC rfl rfl) λ_=>lI rfl)⟩
def wT{s:Cb.State}{c}{xs}(f)(C:p≠15)(z:P6.lookup p=some (.fn f))(h2:f∈[30,31,32,33,34,35,91,92,93,94,95,96])(F:s.scale=[]->c7 s c=(s,tZ))(A:s.scale≠[]->GG.j4 f (CO s) (NO s) [.ints ns,.rows xs]=SV s c):GG.j4 98 (CO s) (NO s) [.int p,.ints ns,.rows xs]=SV s c:=kV<|by have e1:ev GG (.nt (.tv (.Ci 103 0 .nil))) [Ob s,I p,Ls ns,Rs xs,none]=some (.bl (!fU .gt (s.scale.length:Int) 0)):=pB (qk (abn s));have e0:ev GG (.cmp .eq 1 (.jg 35)) [Ob s,I p,Ls ns,Rs xs,none]=some (.bl false):=eF rfl rfl (mR.mpr C);by_cases q:s.scale=[];{rw[F q];rw[q] at e1;exact⟨_,rfl,.iff e0 .nil (.fH e1 (.ret rfl) gq)⟩};.have:0<s.scale.length:=List.length_pos_iff.mpr q;rw[SG.mpr Eg] at e1;obtain⟨ρ',g1,g2⟩:=exv (p:=p) h2 (A q);exact⟨ρ',g1,.iff e0 .nil (.iff e1 .nil (.JE (Gy rfl z) rfl g2))⟩
def k98{c}(B:vw c=true){s:Cb.State}(M:CM.Met s):GG.j4 98 (CO s) (NO s) [.int (jp c).1,.ints (jp c).2.1,.rows (jp c).2.2]=SV s c:=by cases c with|read=>exact kV<|⟨_,rfl,.fH rfl (.rJ rfl (gd rfl rfl) (k90 s _)) gq⟩|write=>exact wT 91 JN rfl JN (λq=>kY q rfl) (λq=>k91 M q)|degree=>exact wT (p:=17) 92 JN rfl JN (λq=>kY q rfl) (λq=>k92 M q _)|near=>exact wT (p:=18) 93 JN rfl JN (λq=>kY q rfl) (λq=>k93 M q _)|mode=>exact wT (p:=19) 94 JN rfl JN (λq=>by show(if s.scale.isEmpty=true then _ else _)=_;rw[q];rfl) (λq=>k94 M q _)|shape=>exact wT 95 JN rfl JN (λq=>kY q rfl) (λq=>k95 M q)|kind=>exact wT 96 JN rfl JN (λq=>kY q rfl) (λq=>k96 M q)|_=>exact(c9 B).elim
def BG{c}(h:Cv c=true):c7 s c=(s,TP c):=by cases c<;>first|(cases h;done)|rfl
def xz(c):(OR.lookup (jp c).1).isSome=Cv c/\(Cv c=false->(fU .eq (jp c).1 15||(P6.lookup (jp c).1).isSome)=vw c):=by cases c<;>exact⟨rfl,λh=>by first|rfl|cases h⟩
def ZU{c}(h:kw c){s}(M:CM.Met s):GG.j4 105 (CO s) (NO s) [.int (jp c).1,.ints (jp c).2.1,.rows (jp c).2.2]=SV s c:=kV<|by have o:=xz c;have k:ev GG (.tv (.cM 64 (A1 1))) [Ob s,I (jp c).1,Ls (jp c).2.1,Rs (jp c).2.2]=some (.bl (Cv c)):=(qk (bj (dg rfl) (k64 _))).trans (by rw[o.1]);cases q:Cv c with|true=>rw[q] at k;rw[BG q];exact⟨_,rfl,.fH k (.ret (bj (vr rfl rfl rfl) (k65 c h q))) gq⟩|false=>rw[q] at k;have l:ev GG (.tv (.cM 97 (A1 1))) [Ob s,I (jp c).1,Ls (jp c).2.1,Rs (jp c).2.2]=some (.bl (vw c)):=(qk (bj (dg rfl) (k97 _))).trans (by rw[o.2 q]);cases w:vw c with|true=>rw[w] at l;exact⟨_,rfl,.iff k .nil (.fH l (.rJ rfl (vr rfl rfl rfl) (k98 w M)) gq)⟩|false=>rw[w] at l;have:D1 c=true:=by{unfold vw at w;rw[q] at w;simpa using w};exact⟨_,rfl,.iff k .nil (.iff l .nil (.rJ rfl (vr rfl rfl rfl) (k36 h this M)))⟩
def Er:∀n,n<=500->(Di (Cb.PRIMES.map λ(p:Nat)=>bp p 20 n)).length<=16:=by decide+kernel
def MD(q)(h:q.most<=500):(cG q).length<=8000:=by have t:∀n,n<=500->(jx n).length<=16:=λn w=>by{unfold jx;dsimp only;split;{rw[(CM.m6 _).1.length_eq];exact Er n w};.simp};unfold cG;have:∀l:List Nat,(∀i∈l,i<500)->(l.flatMap λ(i:Nat)=>(jx (i+1)).filter (Cb.cand q)).length<=l.length*16:=by{intro l;induction l with|nil=>simp|cons i l u=>intro p;have A:=dA (Cb.cand q) (jx (i+1));have z:=t (i+1) (p i ag);have y:=u λj v=>p j (af _ v);rw[eB,bo,aI];lia};have:=this (aj q.most) λi hi=>by{have:i<q.most:=by{simpa using hi};lia};rw[dD] at this;lia
theorem yb:∀(f) (l),(CM.r9 l f).2.length<=l.length|[],l=>by cases l<;>exact aB _|a::f,[]=>aB _|a::f,x::r=>by dsimp only[CM.r9];split;{simp};.dsimp only;rw[aI,aI];refine Nm (aM (yb f _) ?_);split;{exact dA _ _};.split;{exact dA _ _};.exact aB _
def HS(h:u6 n d=some x):x.length=6:=by unfold u6 at h;dsimp only at h;split at h;{obtain rfl:=bA h;rfl};.cases h
def kN(h:iO f l=some e):e.length<=f/\∀r∈e,az r=true:=by rw[CM.ja] at h;split at h;{next q=>obtain rfl:=bA h;exact⟨by rw[chunk_len];exact q.1,jX q.2⟩};.cases h
def Wp{b:Type}(f:b->Int)(g:b->Int)(l:List b):(l.flatMap λx=>[f x,g x]).length=2*l.length:=by induction l with|nil=>rfl|cons x l h=>rw[eB,bo,h,aI];dsimp;lia
def Ol(M:CM.Met s)(c):(c7 s c).2.length<=20000:=by have tp:∀c,Cv c=true->(TP c).length<=20000->(c7 s c).2.length<=20000:=λc h k=>by{rw[BG h];exact k};have Q:∀c,M2 c=true->(CM.Lg s.scale->(YO s.scale c).length<=20000)->(c7 s c).2.length<=20000:=λc h k=>by{by_cases q:s.scale=[];{rw[kY q h];exact(by decide:1<=20000)};.rw[pW q h];exact k (lu M q)};cases c with|of n d=>refine tp _ rfl ?_;show(QF n d).length<=_;unfold QF;split;{decide};.split;{decide};.next x e=>split;{show x.length+1<=_;rw[HS e];decide};.decide|ratio x=>refine tp _ rfl ?_;show(if az x=true then[cP (bQ x),cP (cO x)] else cC).length<=_;split<;>simp[cC]|sum m n a b=>refine tp _ rfl ?_;show(if _ then cC else if az (hX m a n b)=true then Ay (hX m a n b) else pN).length<=_;split;{decide};.split;{show(hX m a n b).length+1<=_;rw[CM.bZ];decide};.decide|order a b=>refine tp _ rfl ?_;show(if _ then cC else if _ then[0] else if _ then[1] else[2]).length<=_;split;{decide};.split;{decide};.split<;>decide|steps n x=>refine tp _ rfl ?_;show(if _ then cC else[0,Ji x n.toNat]).length<=_;split<;>simp[cC]|val n=>refine tp _ rfl ?_;show(if _ then Ay (kD n.toNat) else cC).length<=_;split<;>simp[cC,Ay,kD]|map v x=>refine tp _ rfl ?_;show(if _ then[0,xf v x] else cC).length<=_;split<;>simp[cC]|measure k x=>refine tp _ rfl ?_;show(if _ then[cP (cn k.toNat x)] else cC).length<=_;split<;>simp[cC]|arrange k l=>refine tp _ rfl ?_;show(match iO 20 l with|some G=>if aW 0 5 k=true then cP G.length::aO (jZ (λ(i:Nat)=>cn k.toNat (G.getD i bI)) (aj G.length)) else cC|none=>cC).length<=_;split;{next G e=>have:=(kN e).1;split;{rw[aI,ei,t6,dD];lia};.decide};.decide|temper c=>show(if _ then(s,cC) else if _ then(s,[-6]) else(⟨s.commas++[c],s.scale⟩,[cP s.commas.length+1])).2.length<=_;split;{exact(by decide:1<=20000)};.split<;>simp|clear=>exact(by decide:1<=20000)|rank=>show[cP (Yy s.commas)].length<=_;simp|alike a b=>show(if _ then cC else if _ then[1] else[0]).length<=_;split;{decide};.split<;>decide|round x=>show(if _ then cC else[cP ((Ak s.commas x).getD 0)]).length<=_;split<;>simp[cC]|divide n=>show(if _ then cC else[cP ((Dg s.commas n.toNat).getD 0)]).length<=_;split<;>simp[cC]|read b=>show(if _ then(s,cC) else(match iE (b.map lY) with|.error p=>(s,[-8,cP p])|.ok t=>(⟨s.commas,t⟩,[cP t.length]))).2.length<=_;split;{exact(by decide:1<=20000)};.split<;>simp|write=>refine Q _ rfl λK=>?_;show(cP (iN s.scale).length::aO (iN s.scale)).length<=_;have:=ue K.pre.snd;have:=K.pre.most;rw[aI,ei];lia|degree k=>refine Q _ rfl λK=>?_;show(if _ then cC else if az (aL s.scale k)=true then Ay (aL s.scale k) else pN).length<=_;split;{decide};.split;{show(aL s.scale k).length+1<=_;rw[CM.jo];decide};.decide|near x=>refine Q _ rfl λK=>?_;show(if _ then cC else[0,Cb.near s.scale x]).length<=_;split<;>simp[cC]|mode k=>show(if s.scale.isEmpty=true then(s,tZ) else if k<0\/cP s.scale.length<=k then(s,cC) else if(lW s.scale k.toNat).all az=true then(⟨s.commas,lW s.scale k.toNat⟩,[0]) else(s,pN)).2.length<=_;split;{exact(by decide:1<=20000)};.split;{exact(by decide:1<=20000)};.split<;>simp[pN]|shape=>refine Q _ rfl λK=>?_;show(cP _::aO (Aw s.scale)).length<=_;have:=K.pre.most;rw[aI,ei];unfold Aw;dsimp only;rw[ak,jT];lia|kind=>exact Q _ rfl λK=>by show[cP (Cb.kind s.scale)].length<=_;simp|chord l=>refine tp _ rfl ?_;show(match iO 8 l with|some G=>if G.isEmpty=true then cC else aO (c5 G)|none=>cC).length<=_;split;{next G e=>have:=(kN e).1;split;{decide};.rw[ei];unfold c5;dsimp only;rw[ak];lia};.decide|lead a b=>refine tp _ rfl ?_;show(match iO 5 a,iO 5 b with|some x,some y=>if x.isEmpty=true\/x.length≠y.length then cC else aO (y8 x y)|_,_=>cC).length<=_;split;{next x y e1 e2=>split;{decide};.next w=>have w:=sM.mp w;have h1:=kN e1;have h2:=kN e2;have P:J0 x y:=⟨mm λq=>w.1 (by rw[c8 q];rfl),h1.1,cV.mp w.2,h1.2,h2.2⟩;rw[ei];cases e:de x.length (aj x.length) with|nil=>unfold y8;rw[e];exact(by decide:0<=20000)|cons p0 ps=>rw[yp P e];have hm:best (uz (vg x y)) p0 ps∈de x.length (aj x.length):=by{rw[e];rcases Bo (uz (vg x y)) ps p0 with q|q;{rw[q];exact ag};.exact af _ q};rw[(mT _ _ (by simp) (nodup_range _) _ hm).1];lia};.decide|each m p lo hi as=>refine tp _ rfl ?_;show(if(az lo&&(az hi&&(aW 0 500 m&&(aW 0 63 p&&decide (as.length<=20)))))=false then cC else cP (nE (cG ⟨lo,hi,m.toNat,p.toNat⟩) as none none).1::cP (nE (cG ⟨lo,hi,m.toNat,p.toNat⟩) as none none).2.length::(nE (cG ⟨lo,hi,m.toNat,p.toNat⟩) as none none).2.flatMap λ(x:bP)=>[cP (bQ x),cP (cO x)]).length<=_;split;{decide};.next w=>have hm:m.toNat<=500:=by{cases q:aW 0 500 m with|false=>rw[q] at w;simp at w|true=>simp[aW] at q;simp_all};have h1:=MD ⟨lo,hi,m.toNat,p.toNat⟩ hm;rw[CM.sv];have h2:=yb as ((cG ⟨lo,hi,m.toNat,p.toNat⟩).filter (CM.CP none none));have h3:=dA (CM.CP none none) (cG ⟨lo,hi,m.toNat,p.toNat⟩);rw[aI,aI,Wp];lia
abbrev ZT:S:=V6
theorem FG:∀(h:List Cb.Call) (s) (acc) (m l o k),CM.Met s->(∀c∈h,kw c)->acc.length+20001*h.length<=16000000->∃(u:Cb.State) (y z w x:Option D),Ex GG (.lp (.tp [3,4,5]) ZT ((h.map kt).map MQ)) [d0,Ob s,some (.ow (acc.map D.int)),Op m,Op l,Op o,Op k] (.nx [d0,Ob u,some (.ow ((acc++uJ (qJ gk s (h.map kt))).map D.int)),Op y,Op z,Op w,Op x])|[],s,acc,m,l,o,k,M,v,A=>⟨s,m,l,o,k,by show Ex _ _ _ (.nx [d0,Ob s,some (.ow ((acc++[]).map D.int)),_,_,_,_]);rw[bM];exact .lz⟩|c::h,s,acc,m,l,o,k,M,v,A=>by rw[aI] at A;have R:=Ol M c;have es:gk s (kt c)=c7 s c:=by{unfold gk;rw[wv]};have B:=ZU (v c ag) M;obtain⟨u,P,F,O,N,L⟩:=FG (d0:=d0) h (c7 s c).1 (acc++(((c7 s c).2.length:Int)::(c7 s c).2)) (some (.int (jp c).1)) (some (.ints (jp c).2.1)) (some (.rows (jp c).2.2)) (some (.ints (c7 s c).2)) (CM.LL M c) (λc q=>v c (af _ q)) (by simp;lia);have hz:aG=16777216:=rfl;have Q:fO (.tp [3,4,5]) (MQ (kt c)) [d0,Ob s,some (.ow (acc.map D.int)),Op m,Op l,Op o,Op k]=some [d0,Ob s,some (.ow (acc.map D.int)),I (jp c).1,Ls (jp c).2.1,Rs (jp c).2.2,Op k]:=by{cases m<;>cases l<;>cases o<;>rfl};refine⟨u,P,F,O,N,.ln Q (.D2 rfl (vr rfl rfl rfl) B (by cases k<;>rfl) JN (.app (iG (dg rfl) (dr _)) rfl (by simp;lia) (.ext rfl rfl rfl (by simp;lia) .nil))) ?_⟩;have G:uJ (qJ gk s (kt c::h.map kt))=(((c7 s c).2.length:Int)::(c7 s c).2)++uJ (qJ gk (c7 s c).1 (h.map kt)):=by{show uJ ((gk s (kt c)).2::qJ gk (gk s (kt c)).1 (h.map kt))=_;rw[es];rfl};rw[aX,G,<-bu];have J:acc.map D.int++[D.int ((c7 s c).2.length:Nat)]++(c7 s c).2.map D.int=(acc++(((c7 s c).2.length:Int)::(c7 s c).2)).map D.int:=by{rw[bW,bu];rfl};show Ex _ _ [d0,Ob (c7 s c).1,some (.ow (acc.map D.int++[D.int ((c7 s c).2.length:Nat)]++(c7 s c).2.map D.int)),I (jp c).1,Ls (jp c).2.1,Rs (jp c).2.2,Ls (c7 s c).2] _;rw[J];exact L
abbrev abj(l:List Int):Prop:=l.length<=17000/\x8 l=true
def aab(l)(h:abj l):GG.d3 106 [.ints l]=some (.ints (sE l)):=kP<|by obtain⟨w,j⟩:=h;unfold x8 at j;unfold sE;unfold PyWqaaax.calls at*;cases e:jr ji l.length l with|none=>rw[e] at j;cases j|some m=>rw[e] at j;obtain⟨m,rfl⟩:=wp (i:=0) (l:=l) e;have u:(m.map kt).map u7=m.map kt:=by{rw[aV];exact dS λc _=>ww c};dsimp only at j⊢;rw[u] at j⊢;rw[aa] at j;have G:m.length<=400:=by{have:=j.1;unfold PyFlat.atMost at this;simpa using this};have y:∀c∈m,kw c:=by{have:=j.2;unfold CbNeutral.asked at this;rw[aa] at this;exact λc x=>wE (aN.mp this.1 _ (cU x))};obtain⟨F,z,C,H,A,r⟩:=FG (d0:=Ls l) m Cb.start [] none none none none CM.Hi y (by simp;lia);rw[eC] at r;exact⟨_,.Ef rfl (.own rfl rfl (.fr (ig (bj (dg rfl) (k39 l _ ⟨w,e⟩))) r (.ret rfl)))⟩
open PySem.W (WData Codec OpenSpec Well WellAll ReadsW ReadsAllW)
def Hc(a:List aE)(H:Hp):Hp:=λb=>if b∈a then some (.rf #[]) else H b
def zo(K:ah):Bool:=K.all λp=>match p.2.cls with|.type x=>x !="list"|_=>true
def HU{K}(h:zo K=true){b}{o}(e:K.lookup b=some o):o.cls≠.type "list" :=λz=>by unfold zo at h;have t:(b,o)∈K:=by{unfold ah at K;clear h;induction K with|nil=>cases e|cons p K x=>obtain⟨c,q⟩:=p;rw[nU] at e;cases m:b==c with|true=>rw[m] at e;have u:q=o:=bA e;have v:b=c:=fQ.mp m;rw[u,v];exact ag|false=>rw[m] at e;exact af _ (x e)};have:=aN.mp h _ t;dsimp only at this;rw[z] at this;simp at this
abbrev Rj(K:ah)(h:Heap)(b:List aE):Prop:=∀P∈b,h.get? P=some (oD #[])/\K.lookup P=none/\∃c,jO K c P=true
def Ej{K}{mg mb}{k}{fa:aE}{fd}{ps:List Str}{j:Shared}{B}{ns out}{R:G4}{cl}{a}{d3} (KX:K.In j.heap) (hns:j.heap.Ns cD mg) (hb:j.heap.Ns vj mb) (hbb:∀x:Str,x≠"__name__" ->mb x=iq x) (hlim:j.heap.NoLimit) (hg:j.gens=#[]) (hbm:∃bm ob,mg "__builtins__" =some (.ref bm)/\bm≠vj/\j.heap.get? bm=some ob/\ob.cls=.type "module" /\ob.dict=some vj/\ob.data=.plain) (hwl:WellAll w.params j.heap B [.list (ns.map WData.int)]) (hpl:uO [.list (ns.map WData.int)]=true) (hwt:∀d∈[WData.list (ns.map WData.int)],d.weight<=1048576) (hr:gH k Va) (hT:Rj K j.heap (a.tabs.map (·.1))) (hnl:zo K=true) (F:∀Q:Heap,K.In Q->Q.Ns cD mg->(∀q∈a.tabs,Q.BuiltinsAt mg q.1)->gm P w K mg Q nM k fa fd ps (Mr K a 1 d3)) (hbind:∀(s:Shared) (us:List Value),us.length=ps.length->UK s fd ⟨us,[]⟩ (ps.zip us)) (hlen:ps.length=1) (hf:d3 [.ints ns]=some (.ints out)):iI (aT P w) Va (.call (.ref fa) ⟨B,[]⟩) (λr s'=>∃u as,r=.ok (.ret u)/\ReadsW R cl s'.heap u (.list (out.map WData.int)) as/\OldK j.heap s'.heap/\s'.os=j.os/\xo s'.gens) j:=by obtain⟨A,ho,ar⟩:=rO _ B hwl hpl hwt;have hO:QO (mz K j.heap A):=Iw ar;have hok0:rh P w (mz K j.heap A) j.heap:=OB ar;have hS:=zw KX ar _ B hwl hpl ho;have hV:=mV ho;have hK0:∀b u,mz K j.heap A b=some u->K.lookup b=none:=λb u q=>(vf ar q).1;have O:∀{b:aE} {u:HO},mz K j.heap A b=some u->∃o vs n,j.heap.get? b=some o/\o.data=.seq vs n:=λ{b u} q=>by{obtain⟨_,vs,_,_,⟨X,_⟩|⟨X,_⟩⟩:=vf ar q;{exact⟨_,_,_,X,rfl⟩};.exact⟨_,_,_,X,rfl⟩};have hRp:bN K a.fa (mz K j.heap A) (B.map toV) [.ints ns]:=by{have l1:=hS;generalize B.map toV=xs at l1⊢;cases l1 with|cons h1 h2=>cases h2;cases h1 with|lst hs ha=>rw[L2.Gk ns _ ha] at hs;refine .cons (.lst ?_ (.ofInts ns)) .nil;rcases hs with hs|hs;{exact hs};.exfalso;obtain⟨o,its,n,e1,X,_⟩:=hs;exact HU hnl e1 X};have noT:∀b∈a.tabs.map (·.1),mz K j.heap A b=none:=λb m=>by{cases q:mz K j.heap A b with|none=>rfl|some u=>obtain⟨o,vs,n,e,d⟩:=O q;rw[(hT b m).1] at e;obtain rfl:=bA e;cases d};generalize hS0:mz K j.heap A=S at hO hok0 hS hK0 O noT hRp;have same:eY S (Hc (a.tabs.map (·.1)) S):=λb o e=>by{unfold Hc;rw[ax];{exact e};.intro m;rw[noT b m] at e;cases e};have N:∀b∈a.tabs.map (·.1),Hc (a.tabs.map (·.1)) S b=some (.rf #[]):=λb m=>au m;have C:∀{b:aE} {u:HO},Hc (a.tabs.map (·.1)) S b=some u->(b∈a.tabs.map (·.1)/\u=.rf #[])\/S b=some u:=λ{b u} e=>by{unfold Hc at e;split at e;{next m=>obtain rfl:=bA e;exact .inl ⟨m,rfl⟩};.exact .inr e};generalize hH:Hc (a.tabs.map (·.1)) S=H at same N C;have fR:rh P w H j.heap:=λb u q=>by{rcases C q with⟨m,rfl⟩|q;{exact(hT b m).1};.exact(hok0 b u q).wR (λc v _ e=>e) (λc e=>same _ _ e) λc xs e=>same _ _ e};have hK:∀b u,H b=some u->K.lookup b=none:=λb u q=>by{rcases C q with⟨m,_⟩|q;{exact(hT b m).2.1};.exact hK0 b u q};have noA:∀{b:aE} {o:Obj} {es:Array DictEntry} {ep:Nat},j.heap.get? b=some o->o.data=.dict es ep->H b=none:=λ{b o es ep} e d=>by{cases q:H b with|none=>rfl|some u=>rcases C q with⟨m,_⟩|q;{rw[(hT b m).1] at e;cases e;cases d};.obtain⟨o',vs,n,X,d2⟩:=O q;rw[X] at e;obtain rfl:=bA e;rw[d2] at d;cases d};have pY:∀{b:aE} {o:Obj},j.heap.get? b=some o->H b=none->(xD j.heap H).get? b=some o:=λe n=>J3 e n;have nsK:∀{b:aE} {m:Str->Option Value},j.heap.Ns b m->(xD j.heap H).Ns b m:=λ{b m} ⟨o,es,ep,e,d,r⟩=>⟨o,es,ep,pY e (noA e d),d,r⟩;have nK:∀b o,K.lookup b=some o->H b=none:=λb o e=>by{cases q:H b with|none=>rfl|some u=>rw[hK b u q] at e;cases e};have hKb:K.In (xD j.heap H):=λb o e=>pY (KX b o e) (nK b o e);have hM:Mod K mg (xD j.heap H):=⟨hKb,nsK hns,⟨mb,nsK hb,hbb⟩,let⟨mc,h1,h2⟩:=hlim;⟨mc,nsK h1,h2⟩⟩;have e0:DD P w K mg (xD j.heap H) Va [] j H:=⟨rfl,hM,λb o e=>Pt e,uD (Ik _ _),trivial,λb hb=>absurd (show b∈([]:List aE) from hb) (by simp),fR,.of_eq hg⟩;have hl:B.length=ps.length:=by{rw[l5 hwl];exact hlen.symm};have tab:jz a S H:=by{refine⟨λq hq=>⟨noT _ (cU hq),.inl (N _ (cU hq))⟩,λp ps hp=>?_⟩;rcases C hp with⟨m,_⟩|z;{obtain⟨q,hq,e⟩:=bg.mp m;exact⟨q,hq,e⟩};.rcases hO p with y|⟨o,u,y⟩<;>rw[y] at z<;>cases z};have hBb:∀q∈a.tabs,(xD j.heap H).BuiltinsAt mg q.1:=λq hq=>by{obtain⟨bm,ob,b1,b2,b3,b4,b5,b6⟩:=hbm;refine⟨bm,ob,b1,b2,λz=>?_,λz=>?_,pY b3 ?_,b4,b5,b6⟩;{obtain⟨o,es,ep,e,d,_⟩:=hns;rw[z,e] at b3;obtain rfl:=bA b3;rw[d] at b6;cases b6};{rw[z,(hT _ (cU hq)).1] at b3;obtain rfl:=bA b3;cases b6};.cases q2:H bm with|none=>rfl|some u=>rcases C q2 with⟨m,_⟩|q2;{rw[(hT bm m).1] at b3;obtain rfl:=bA b3;cases b6};.obtain⟨o',vs,n,X,d2⟩:=O q2;rw[X] at b3;obtain rfl:=bA b3;rw[d2] at b6;cases b6};refine mH ((F _ hKb (nsK hns) hBb).run Va [] j H ⟨B,[]⟩ B (B.map toV) (λv H'=>Dw K H' v (.list (out.map WData.int))) (λ_ _ _=>False) hr e0 (hbind j B hl) hV ⟨S,_,_,same,tab,hRp,rfl,hf,λv S' H' st r=>?_⟩) λr s' x=>?_;{cases r with|lst q r2=>have e:=bN.ints r2;subst e;exact .lst (.inl (Rd.mono st.h q)) (L2.GF _)};.cases r with|error e=>exact x.elim|ok fl=>cases fl with|next=>exact eK x|brk=>exact eK x|cont=>exact eK x|ret u=>obtain⟨v,H',os,bare,un,Y,r',q⟩:=x;have Z:∀b o,j.heap.get? b=some o->b∉a.tabs.map (·.1)->s'.heap.get? b=some o:=λb o e nm=>by{cases q2:H b with|none=>exact un.keep b o e q2 (by intro z;exact absurd (show b∈([]:List aE) from z) (by simp)) (by simp)|some u2=>rcases C q2 with⟨m,_⟩|z0;{exact absurd m nm};.rcases hO b with z|⟨ob,u3,z⟩;{rw[z0] at z;cases z};.have z2:=un.EY b ob _ (same _ _ z);obtain⟨e1,_⟩:=fR b _ (same _ _ z);obtain⟨X,_⟩:=Y b _ z2;rw[e] at e1;obtain rfl:=bA e1;exact X};have U:∀b∈a.tabs.map (·.1),∃L,s'.heap.get? b=some {cls:=.none,data:=.fields (#[]++L)}:=λb m=>by{obtain⟨L,e⟩:=un.DA b _ (N b m);exact⟨L,Y b _ e⟩};have KX':K.In s'.heap:=λb o e=>Z b o (KX b o e) λm=>by{rw[(hT b m).2.1] at e;cases e};obtain⟨as,hrd⟩:=Dw.reads (R:=R) (cl:=cl) Y KX' _ v u q r';refine⟨u,as,rfl,hrd,⟨λb o e=>?_,λb o e=>?_⟩,os,bare⟩;{by_cases m:b∈a.tabs.map (·.1);{obtain⟨h1,_,c,hc⟩:=hT b m;rw[h1] at e;obtain rfl:=bA e;obtain⟨L,g⟩:=U b m;obtain⟨o,vs,_,_,_,_,_,_,_,f1,f2,f3,f4,_⟩:=CF KX hc;exact .inr (.inl ⟨⟨c,o,vs,f1,f2,f3,f4⟩,rfl,#[],L,rfl,g⟩)};.exact .inl (Z b o e m)};.by_cases m:b∈a.tabs.map (·.1);{obtain⟨L,g⟩:=U b m;exact⟨_,g⟩};.exact⟨o,Z b o e m⟩
abbrev Xz:Stmt:=stI 99
def aak:j5 ["self"] ["self"] (cB Xz):=⟨rfl,rfl,rfl,by decide+kernel,rfl,by decide+kernel,by decide+kernel⟩
def put2(c b):mr "notes" b (mr "commas" c [])=FC c b:=by show(if("commas" :Str)="notes" then _ else _)=_;rw[ax zv];rfl
def OO{K}{Y:Str->Option Value}{n}{x m}{f C}{N}(F:M8 K x m Xz f N)(cl:AA K C)(X:iy K C "commas")(W:iy K C "notes"):gm P w K Y n nM 1 f N ["self"] (zF C):=by refine F.ok aak (λvs H Q E h=>?_) (λU A outer s H vs Q E Z h=>?_);{obtain⟨p,B,rfl,_⟩:=h;rfl};.obtain⟨p,B,rfl,L,k⟩:=h;refine⟨_,wA (Es (pv 0) (DK hF) rfl) (Fy (Es (pv 0) (DK hF) rfl)),?_⟩;refine⟨fJ _,λq G=>?_⟩;have y:p≠q:=aY L G;refine⟨_,rfl,p,C,B,[],rfl,by rw[aS y];exact L,cl,X,(by show 0<1000;decide),?_⟩;refine⟨fJ _,λl t=>?_⟩;have v:l≠p:=λz=>by{rw[z,bh] at t;cases t};have r:IZ H q (.lst []) l=none:=by{rw[aS v] at t;exact t};have u:l≠q:=λz=>by{rw[z,bh] at r;cases r};have M:H l=none:=by{rw[aS u] at r;exact r};refine⟨_,rfl,p,C,B,_,rfl,by rw[aS (dQ v)];exact bh,cl,W,(by show 1<1000;decide),?_⟩;refine k _ q l (by rw[bh,put2]) G M ?_ ?_ (dQ u) (λb o e T=>?_) λb ps e=>?_;{rw[aS (dQ y),aS (dQ u),aS (dQ y),bh]};{rw[aS v,bh]};{rw[aS T,aS (aY e M),aS T,aS (aY e G)];exact e};.by_cases J:b=p;{rw[J,bh] at e;cases e};.rw[aS J] at e;by_cases R:b=l;{rw[R,bh] at e;cases e};.rw[aS R,aS J] at e;by_cases O:b=q;{rw[O,bh] at e;cases e};.rw[aS O] at e;exact e
def JR(f:Nat):Str:=if 99<=f/\f<=104 then aR "Book." ++ZX f else ZX f
def isRef:Option (Option Value)->aE->Bool|some (some (.ref b)),a=>b==a|_,_=>false
def pH(h:isRef o a=true):o=some (some (.ref a)):=by unfold isRef at h;split at h;{rw[fQ.mp h]};.cases h
def o8:List Value->List D->Bool|[],[]=>true|.int i _::us,.int j::ds=>i==j&&o8 us ds|_,_=>false
def OU(K:ah)(fa:Nat->aE):Value->D->Bool|.int i _,.int j=>i==j|.ref f,.fn i=>f==fa i|.ref p,.tup ds=>(match K.lookup p with|some ⟨.type "tuple",_,.seq its _,_⟩=>decide (its.size<=1000)&&o8 its.toList ds|_=>false)|_,_=>false
def Hf{K}{fa}{S}{us}:∀{ds},o8 us ds=true->∃xs:List V,cu xs us/\bN K fa S xs ds:=by
 induction us with
  |nil=>intro ds h;cases ds with|nil=>exact⟨[],.nil,.nil⟩|cons d ds=>cases h
  |cons u us p=>
   intro ds h;cases ds with
    |nil=>cases u<;>cases h
    |cons d ds=>
     cases u with
      |int i tk=>cases d with|int j=>have h:(_&&_)=true:=h;rw[aa] at h;obtain⟨xs,r,q⟩:=p h.2;have e:i=j:=fQ.mp h.1;subst e;exact⟨.int i::xs,.cons ⟨tk,rfl⟩ r,.cons (.int i) q⟩|_=>cases h
      |_=>cases h
def yh{K}{fa}{u}{d}(h:OU K fa u d=true):∃v,Sk v u/\∀S,Rp K fa S v d:=by unfold OU at h;split at h;{next i tk j=>have e:i=j:=fQ.mp h;subst e;exact⟨.int i,⟨tk,rfl⟩,λS=>.int i⟩};{next f i=>have e:f=fa i:=fQ.mp h;subst e;exact⟨.ref (fa i),rfl,λS=>.fn i⟩};{next p ds=>refine⟨.ref p,rfl,λS=>?_⟩;split at h;{next d its n t e=>rw[aa] at h;obtain⟨xs,q,r⟩:=Hf (K:=K) (fa:=fa) (S:=S) h.2;exact .tup (.inr ⟨_,its,n,e,rfl,rfl,aM (gN h.1) JN,q⟩) r};.cases h};.cases h
def Qg(K:ah)(fa:Nat->aE):List DictEntry->List (Int×D)->Bool|[],[]=>true|e::es,p::l=>uW p.1 e.key&&(e.hash==hashInt p.1)&&OU K fa e.val p.2&&Qg K fa es l|_,_=>false
def TK(K:ah)(fa:Nat->aE)(q:aE)(l:List (Int×D)):Bool:=!(q==CW)&&(match K.lookup q with|some ⟨.type "dict",none,.dict es _,b⟩=>b.isEmpty&&Qg K fa es.toList l|_=>false)
theorem LO{K}{fa}:∀{es} {l},Qg K fa es l=true->∃vs:List (Int×Value),Pairs (intKind prog w) es vs/\(∀e∈es,∃k,(intKind prog w).is k e.key=true/\e.hash=(intKind prog w).hash k)/\vs.map (·.1)=l.map (·.1)/\(∀i d,l.lookup i=some d->∃u v,valueAt vs i=some u/\Sk v u/\∀S,Rp K fa S v d)/\∀i,l.lookup i=none->valueAt vs i=none|[],[],_=>⟨[],.nil,(λe h=>by cases h),rfl,(λi d h=>by cases h),λi _=>rfl⟩|[],_::_,h=>by cases h|_::_,[],h=>by cases h|e::es,(k,d)::l,h=>by dsimp only[Qg] at h;rw[aa,aa,aa] at h;obtain⟨⟨⟨z,O⟩,N⟩,P⟩:=h;obtain⟨vs,Q,F,J,L,H⟩:=LO (prog:=prog) (w:=w) P;obtain⟨v,G,M⟩:=yh N;refine⟨(k,e.val)::vs,.cons z rfl Q,λx y=>?_,by rw[aX,aX,J],λi d' s=>?_,λi hi=>?_⟩;{rcases aD.mp y with rfl|y;{exact⟨k,z,fQ.mp O⟩};.exact F x y};{rw[nU] at s;by_cases q:i=k;{subst q;rw[Dj] at s;cases s;refine⟨e.val,v,?_,G,M⟩;unfold valueAt;rw[oH];simp};.rw[YQ.mpr q] at s;obtain⟨u,C,A,B⟩:=L i d' s;refine⟨u,C,?_,B⟩;unfold valueAt at A⊢;rw[oH];simp[dQ q];simpa using A};.rw[nU] at hi;by_cases q:i=k;{subst q;rw[Dj] at hi;cases hi};.rw[YQ.mpr q] at hi;have c:=H i hi;unfold valueAt at c⊢;rw[oH];simp[dQ q];simpa using c
def Kj{K}{a}{q}{l}(p:(l.map (·.1)).Nodup)(h:TK K a.fa q l=true):rY prog w K a q l:=by unfold TK at h;rw[aa] at h;refine⟨by simpa using h.1,?_⟩;have f:=h.2;split at f;{next es u B e=>rw[aa] at f;obtain⟨vs,v,r,y,z,t⟩:=LO (prog:=prog) (w:=w) f.2;refine⟨vs,λA s=>⟨_,es,u,s _ _ e,⟨rfl,rfl,?_⟩,rfl,λx o=>r x (by simpa using o),v,by rw[y];exact p⟩,z,t⟩;exact Array.isEmpty_iff.mp f.1};.cases f
def Ri(K:ah)(a:Ad)(i:Nat):Bool:=(match K.lookup (a.fa i) with
 |some ⟨_,_,.func c,_⟩=>lg K c.code (JR i)
 |_=>false)&&b8 K (.ref (a.fa i))&&(if T0.kd i=0\/T0.kd i=1 then isRef (nF K cD (T0.xJ i)) (a.fa i)
  else if T0.kd i=4 then true else isRef (da K (.ref a.C) (T0.xJ i)) (a.fa i)&&nr K (.ref (a.fa i)))
def Q0(K:ah)(a:Ad)(j:Nat):Bool:=match nF K cD (T0.gn j),Pz[j]? with|some (some u),some d=>OU K a.fa u d|_,_=>false
def Xv(K:ah)(a:Ad)(dq:Nat->aE)(j:Nat):Bool:=isRef (nF K cD (T0.dn j)) (dq j)&&TK K a.fa (dq j) (Oh j)
def Zf(K:ah)(C:aE)(x:Str):Bool:=match da K (.ref C) x with|some none=>true|_=>false
def V7(K:ah)(C f:aE):Bool:=jM K C lU&&lT K C&&rn K C&&(match da K (.ref C) "__setattr__" with|some (some (.builtin x))=>x=="object.__setattr__"|_=>false)&&Zf K C "commas" &&Zf K C "notes" &&isRef (nF K cD "Book") C&&uC K C&&isRef (da K (.ref C) "__init__") f&&nr K (.ref f)&&b8 K (.ref C)
def Xm(K:ah)(b:List aE):Bool:=b.all (λP=>cD !=P&&(K.lookup P).isNone)
def Xt(K:ah):Bool:=(["len","abs","max","min","sum","all","any","ord","list","range","zip","enumerate","sorted","set"]:List String).all λx=>match nF K cD (aR x) with|some none=>true|_=>false
def LF(K:ah)(st:Stmt)(f:aE)(q:Str):Prop:=∃(x:Str) (g:Value) (od:Option aE) (kV c i:Value) (h:Option aE) (b e:Value) (d:Array (Option Value)),K.lookup f=some ⟨g,od,.func (fg x q (kT st) (gu st) (cB st) .none kV c i h b e),d⟩
def RV(K:ah)(P:aE):Value->Bool|.ref c=>jO K c P|_=>false
def IE(K:ah)(f P:aE):Bool:=match K.lookup f with|some ⟨_,_,.func b,_⟩=>RV K P b.code|_=>false
structure Hd(K:ah)(a:Ad)(dq:Nat->aE)(t1 t2:aE):Prop where
 l:∀f,f<107->LF K (stI f) (a.fa f) (JR f)
 fn:(aj 107).all (Ri K a)=true
 co:(aj 40).all (Q0 K a)=true
 di:(aj 4).all (Xv K a dq)=true
 cl:V7 K a.C (a.fa 99)=true
 bl:Xm K (a.tabs.map (·.1))=true
 no:Xt K=true
 m17:IE K (a.fa 17) t1=true
 m43:IE K (a.fa 43) t2=true
 tb:a.tabs=([(t1,⟨76,40,76,69⟩,"arranged.<locals>.<lambda>"),(t2,⟨236,29,236,55⟩,"least_leading.<locals>.<lambda>")]:List (aE×Pos×Str))
 ne:t1≠t2
section
variable {P:Program}{w:World}{K:ah}{mg:Str->Option Value}{h base:Heap}{a:Ad}{dq:Nat->aE}{t1 t2:aE}
def Hd.at(B:Hd K a dq t1 t2){i}(hi:i<107):Ri K a i=true:=aN.mp B.fn i (by simpa using hi)
abbrev Eb(q:Str)(st:Stmt)(ps:List Str):Prop:=∀(x:Str) (kV c f:Value) (e:Option aE) (a d:Value) (us:List Value),us.length=ps.length->xr (fg x q (kT st) (gu st) (cB st) .none kV c f e a d) ⟨us,[]⟩=pure (ps.zip us)
def Hd.fun(B:Hd K a dq t1 t2){i}(hi:i<107){st}{ps}(l:LF K st (a.fa i) (JR i))(s:Eb (JR i) st ps):∃x n,M8 K x (JR i) st (a.fa i) n/\AR K n ps []:=by have f:=B.at hi;unfold Ri at f;rw[aa,aa] at f;obtain⟨x,t,od,kV,d,k,o,b,m,q,e⟩:=l;have c:=f.1.1;rw[e] at c;have F:=DY (st:=st) e c f.1.2;exact⟨x,_,F,F.binds λkV d k o b m us r=>s x kV d k o b m us r⟩
def Hd.kp(B:Hd K a dq t1 t2){i}(hi:i<107):b8 K (.ref (a.fa i))=true:=by have f:=B.at hi;unfold Ri at f;rw[aa,aa] at f;exact f.1.2
def Hd.nm(B:Hd K a dq t1 t2)(X:K.In h)(G:h.Ns cD mg){i}(hi:i<107)(e:T0.kd i=0\/T0.kd i=1):mg (T0.xJ i)=some (.ref (a.fa i)):=by have f:=B.at hi;unfold Ri at f;rw[aa,au e] at f;exact qu X G (pH f.2)
def Hd.me(B:Hd K a dq t1 t2){i}(hi:i<107)(d:¬(T0.kd i=0\/T0.kd i=1))(e:¬T0.kd i=4):uN K a.C (T0.xJ i) (a.fa i):=by have f:=B.at hi;unfold Ri at f;rw[aa,aa,ax d,ax e,aa] at f;exact⟨pH f.2.1,f.2.2,f.1.2⟩
def JX(h:Zf K C x=true):iy K C x:=by unfold Zf at h;split at h;{next e=>exact e};.cases h
def Hd.cls(B:Hd K a dq t1 t2)(X:K.In h)(G:h.Ns cD mg):(AA K a.C/\iy K a.C "commas" /\iy K a.C "notes")/\Mk K a.C (a.fa 99)/\mg "Book" =some (.ref a.C):=by have f:=B.cl;unfold V7 at f;simp only[aa] at f;obtain⟨⟨⟨⟨⟨⟨⟨⟨⟨⟨s,u⟩,r⟩,g⟩,t⟩,q⟩,v⟩,w⟩,p⟩,m⟩,j⟩:=f;have e:da K (.ref a.C) "__setattr__" =some (some (.builtin "object.__setattr__")):=by{split at g;{next x e=>rw[e,fQ.mp g]};.cases g};exact⟨⟨⟨s,u,r,e⟩,JX t,JX q⟩,⟨w,pH p,m,j⟩,qu X G (pH v)⟩
def Hd.blt(B:Hd K a dq t1 t2):∀q∈a.tabs,cD≠q.1/\K.lookup q.1=none:=λq d=>by have f:=B.bl;unfold Xm at f;have t:=aN.mp f q.1 (cU d);rw[aa] at t;exact⟨bne_iff_ne.mp t.1,xB.mp t.2⟩
def Kd{f P}(h:IE K f P=true):∃c,jO K c P=true:=by unfold IE at h;split at h;{next j _ _=>unfold RV at h;split at h;{exact⟨_,h⟩};.cases h};.cases h
def Gd(P:Program)(w:World)(K:ah)(mg:Str->Option Value)(base:Heap)(a:Ad)(f:Nat):Prop:=(T0.kd f=0->∃b ps,gm P w K mg base nM (T0.lv f) (a.fa f) b ps (Mr K a (T0.ar f) (GG.d3 f))/\AR K b ps []/\mg (T0.xJ f)=some (.ref (a.fa f))/\b8 K (.ref (a.fa f))=true)/\(T0.kd f=1->∃b ps,gm P w K mg base nM (T0.lv f) (a.fa f) b ps (Jl K a (T0.ar f) (GG.j4 f))/\AR K b ps []/\mg (T0.xJ f)=some (.ref (a.fa f))/\b8 K (.ref (a.fa f))=true)/\(T0.kd f=2->∃b ps,gm P w K mg base nM (T0.lv f) (a.fa f) b ps (Jl K a (T0.ar f) (GG.j4 f))/\AR K b ps []/\uN K a.C (T0.xJ f) (a.fa f))/\(T0.kd f=3->∃b ps,gm P w K mg base nM (T0.lv f) (a.fa f) b ps (Wz K a 1 (GG.M4 f))/\AR K b ps []/\uN K a.C (T0.xJ f) (a.fa f))/\(T0.kd f=4->∃g b,Mk K a.C g/\gm P w K mg base nM (T0.lv f) g b ["self"] (zF a.C)/\AR K b ["self"] []/\mg (T0.xJ f)=some (.ref a.C))
abbrev TX(P:Program)(w:World)(K:ah)(mg:Str->Option Value)(base:Heap)(a:Ad)(k:Nat):Prop:=Tx P w K mg base a GG T0 (Fk k)
def jb{p:Prop}(h:T0.kd i=j){k}(n:(j==k)=false):T0.kd i=k->p:=λz=>by rw[h] at z;rw[z,Dj] at n;cases n
def Z7(b:T0.kd i=0)(B:Hd K a dq t1 t2)(X:K.In h)(G:h.Ns cD mg)(hi:i<107)(k:∃d ps,gm P w K mg base nM (T0.lv i) (a.fa i) d ps (Mr K a (T0.ar i) (GG.d3 i))/\AR K d ps []):Gd P w K mg base a i:=by obtain⟨d,ps,g,f⟩:=k;exact⟨λ_=>⟨d,ps,g,f,B.nm X G hi (.inl b),B.kp hi⟩,jb b rfl,jb b rfl,jb b rfl,jb b rfl⟩
def gd1(b:T0.kd i=1)(B:Hd K a dq t1 t2)(X:K.In h)(G:h.Ns cD mg)(hi:i<107)(k:∃d ps,gm P w K mg base nM (T0.lv i) (a.fa i) d ps (Jl K a (T0.ar i) (GG.j4 i))/\AR K d ps []):Gd P w K mg base a i:=by obtain⟨d,ps,g,f⟩:=k;exact⟨jb b rfl,λ_=>⟨d,ps,g,f,B.nm X G hi (.inr b),B.kp hi⟩,jb b rfl,jb b rfl,jb b rfl⟩
def gd2(b:T0.kd i=2)(B:Hd K a dq t1 t2)(hi:i<107)(k:∃d ps,gm P w K mg base nM (T0.lv i) (a.fa i) d ps (Jl K a (T0.ar i) (GG.j4 i))/\AR K d ps []):Gd P w K mg base a i:=by obtain⟨d,ps,h,g⟩:=k;exact⟨jb b rfl,jb b rfl,λ_=>⟨d,ps,h,g,B.me hi (by rw[b];decide) (by rw[b];decide)⟩,jb b rfl,jb b rfl⟩
def gd3(b:T0.kd i=3)(B:Hd K a dq t1 t2)(hi:i<107)(k:∃d ps,gm P w K mg base nM (T0.lv i) (a.fa i) d ps (Wz K a 1 (GG.M4 i))/\AR K d ps []):Gd P w K mg base a i:=by obtain⟨d,ps,h,g⟩:=k;exact⟨jb b rfl,jb b rfl,jb b rfl,λ_=>⟨d,ps,h,g,B.me hi (by rw[b];decide) (by rw[b];decide)⟩,jb b rfl⟩
def MO(t:TX P w K mg base a k)(l):Tx P w K mg base a GG {T0 with lm:=l} (Fk k):=⟨t.fu,t.fo,t.fm,t.fq,t.fi,t.cl,t.cv,t.Hn,t.gl,t.YZ,t.di,t.bn⟩
def L0(B:Hd K a dq t1 t2)(X:K.In h)(G:h.Ns cD mg)(Xb:∀q∈a.tabs,base.BuiltinsAt mg q.1){i k n}(hi:i<107){st}{N ps}{s}{d3}{A}{lq}(l:LF K st (a.fa i) (JR i))(m:IE K (a.fa i) A=true)(j:(A,lq.1,lq.2)∈a.tabs) (R:(JR i++".<locals>.")++"<lambda>" =lq.2) (Sc:j5 N ps (cB st)) (t:TX P w K mg base a k) (hc:j7 {T0 with lm:=some lq} (Fk k) N k (cB st) s (gu st)=true) (hn:ps.length=n) (W:Eb (JR i) st ps) (hE:∀ds d,d3 ds=some d->∃v,Ex GG (.st s) (i7 N ds) (.rt d v)):∃M ps,gm P w K mg base nM (k+1) (a.fa i) M ps (Mr K a n d3)/\AR K M ps []:=by have f:=B.at hi;unfold Ri at f;rw[aa,aa] at f;obtain⟨x,oc,od,kV,r,J,L,g,H,Q,e⟩:=l;have c:=f.1.1;rw[e] at c;unfold IE at m;rw[e] at m;have m:RV K A g=true:=m;have F:=DY (st:=st) e c f.1.2;cases g with|ref c'=>have T:=Xb _ j;have Y:=(B.blt _ j).1;have U:(a.tabs.map (·.1)).Nodup:=by{rw[B.tb];exact ia.mpr ⟨λz=>B.ne (bB.mp z),ia.mpr ⟨by simp,.nil⟩⟩};exact⟨_,ps,OY e c m T j U Y R rfl Sc (MO t _) hc hn λds d _ q=>hE ds d q,F.binds λkV r J L g H us O=>W x kV r J L g H us O⟩|_=>cases m
def xp{P:List Value->Prop}(h:P []):∀us,us.length=0->P us:=λus e=>by cases c8 e;exact h
def xL{P:List Value->Prop}(h:∀a,P [a]):∀us,us.length=1->P us:=λus e=>by obtain⟨a,rfl⟩:=lw e;exact h a
def qq0{P:List Value->Prop}(h:∀a b,P [a,b]):∀us,us.length=2->P us:=λus e=>by obtain⟨a,b,rfl⟩:=on e;exact h a b
def qq1{P:List Value->Prop}(h:∀a b c,P [a,b,c]):∀us,us.length=3->P us:=λus e=>by obtain⟨a,b,c,rfl⟩:=o0 e;exact h a b c
def qq2{P:List Value->Prop}(h:∀a b c d,P [a,b,c,d]):∀us,us.length=4->P us|[a,b,c,d],_=>h a b c d
def qq4:Nat->Prop|0=>True|n+1=>Eb (JR n) (stI n) (Zg n)/\qq4 n
theorem qq5:∀{n},qq4 n->∀f,f<n->Eb (JR f) (stI f) (Zg f)|n+1,h,f,q=>by rcases Nat.lt_succ_iff_lt_or_eq.1 q with q|rfl;{exact qq5 h.2 f q};.exact h.1
def qq7:qq4 107:=by
 iterate 107
  refine⟨λ_ _ _ _ _ _ _=>?_,?_⟩
  ·first|exact xL λ_=>rfl|exact qq0 λ_ _=>rfl|exact qq1 λ_ _ _=>rfl|exact qq2 λ_ _ _ _=>rfl|exact xp rfl
 exact trivial
def qq8:∀f,f<107->(cB (stI f)).kind=.function/\(cB (stI f)).isCoroutine=false/\(cB (stI f)).isGenerator=false/\(nI f).Nodup/\(nI f).take (Zg f).length=Zg f/\(∀x∈Zg f,(cB (stI f)).names.lookup x=some .local\/(cB (stI f)).names.lookup x=some .cell)/\∀y∈(cB (stI f)).names,y.2≠.free:=by decide+kernel
def Me:∀f,f<107->j5 (nI f) (Zg f) (cB (stI f))/\Eb (JR f) (stI f) (Zg f):=λf h=>by obtain⟨a,b,c,d,e,g,i⟩:=qq8 f h;exact⟨⟨a,b,c,d,e,g,i⟩,qq5 qq7 f h⟩
def TN:∀f,f<107->(Zg f).length=T0.ar f/\((T0.kd f=0\/T0.kd f=1\/T0.kd f=2)/\f≠99/\f≠100/\f≠103/\(Y7 f).isNone=true\/f=17\/f=43\/f=99\/f=100\/f=103):=by decide+kernel
def S0(B:Hd K a dq t1 t2)(X:K.In h)(G:h.Ns cD mg)(Xb:∀q∈a.tabs,base.BuiltinsAt mg q.1)(f)(g:f<107)(t:TX P w K mg base a (T0.lv f -1)):Gd P w K mg base a f:=by obtain⟨v,H⟩:=Me f g;obtain⟨x,u,F,b⟩:=B.fun g (B.l f g) H;have J:T0.lv f -1+1=T0.lv f:=by{have:=(DS f g).1;simp_all};have r:=Mp f g;obtain⟨n,⟨p,R,Q,n3,z⟩|rfl|rfl|rfl|rfl|rfl⟩:=TN f g;{have r:=((r.resolve_left R).resolve_left Q).resolve_left n3;have z:=xB.mp z;have o:=λh=>SY (T:=Tl f) (j4:=GG.j4 f) F v (MO t _) r n z h;rw[J] at o;rcases p with p|p|p;{have q:=B7 (T:=Tl f) (d3:=GG.d3 f) F v (MO t _) r n z λds d _ q=>hP g q;rw[J] at q;exact Z7 p B X G g ⟨u,_,q,b⟩};{exact gd1 p B X G g ⟨u,_,o λc m ds d O m' _ q=>hO g q,b⟩};.exact gd2 p B g ⟨u,_,o λc m ds d O m' _ q=>hO g q,b⟩};{refine Z7 rfl B X G g (L0 B X G Xb g (B.l 17 g) B.m17 (lq:=(Y7 17).get rfl) ?_ zv v t (r.resolve_left JN|>.resolve_left JN|>.resolve_left JN) rfl H λds d q=>hP g q);rw[B.tb];exact ag};{refine Z7 rfl B X G g (L0 B X G Xb g (B.l 43 g) B.m43 (lq:=(Y7 43).get rfl) ?_ zv v t (r.resolve_left JN|>.resolve_left JN|>.resolve_left JN) rfl H λds d q=>hP g q);rw[B.tb];exact af _ ag};{obtain⟨c,m,n⟩:=B.cls X G;exact⟨jb rfl rfl,jb rfl rfl,jb rfl rfl,jb rfl rfl,λ_=>⟨_,u,m,OO F c.1 c.2.1 c.2.2,b,n⟩⟩};{exact gd3 rfl B g ⟨u,_,QK (s:=T3) F v t rfl zv rfl λc m ds d _ q=>q,b⟩};.exact gd3 rfl B g ⟨u,_,QK (s:=SO) F v t rfl zv rfl λc m ds d _ q=>q,b⟩
def mD:f∈Fk k↔f<107/\T0.lv f<=k:=by unfold Fk;rw[bV,gA,bz]
def QH (B : Hd K a dq t1 t2) (X : K.In h) (G : h.Ns cD mg) {k} (g : ∀ f, f < 107 -> T0.lv f <= k -> Gd P w K mg base a f) : TX P w K mg base a k := by
  refine ⟨λf m => (g f (mD.mp m).1 (mD.mp m).2).1, λf m => (g f (mD.mp m).1 (mD.mp m).2).2.1, λf m => (g f (mD.mp m).1 (mD.mp m).2).2.2.1, λf m => (g f (mD.mp m).1 (mD.mp m).2).2.2.2.1, λf m => (g f (mD.mp m).1 (mD.mp m).2).2.2.2.2, (B.cls X G).1, rfl, rfl, λj d e => ?_, λj => ?_, λj _ => ?_, λx J => ?_⟩
  · have F : j < 40 := (aQ.mp (show Pz[j]? = some d from e)).1
    have c := aN.mp B.co j (by simpa using F)
    unfold Q0 at c
    split at c
    · next u d' N U =>
      have e : Pz[j]? = some d := e
      rw [U] at e
      obtain rfl:=bA e
      obtain ⟨v, O, T⟩ := yh c
      exact ⟨v, u, qu X G N, O, T⟩
    · cases c
  all_goals first
    | (have H : ∀ j, ∃ q, mg (T0.dn j) = some (.ref q) /\ rY P w K a q (GG.del j) := λj => by
        have R : ∀ j, j < 4 -> ((Oh j).map (·.1)).Nodup := by decide +kernel
        have n : ∀ j, j < 4 -> ∃ q, mg (T0.dn j) = some (.ref q) /\ rY P w K a q (Oh j) := λj F => by
          have c := aN.mp B.di j (by simpa using F)
          unfold Xv at c
          rw [aa] at c
          exact ⟨dq j, qu X G (pH c.1), Kj (R j F) c.2⟩
        match j with
        | 0 => exact n 0 JN
        | 1 => exact n 1 JN
        | 2 => exact n 2 JN
        | 3 => exact n 3 JN
        | j + 4 => exact n 1 JN
       exact H j)
    | skip
  have c := B.no
  unfold Xt at c
  have J : x ∈ (["len", "abs", "max", "min", "sum", "all", "any", "ord", "list", "range", "zip", "enumerate", "sorted", "set"] : List String).map aR := J
  obtain ⟨y, Q, rfl⟩ := bg.mp J
  have c := aN.mp c y Q
  split at c
  · next e => exact PySem.W.mg_none_of X G e
  · cases c
theorem z9(B:Hd K a dq t1 t2)(X:K.In h)(G:h.Ns cD mg)(m:∀q∈a.tabs,base.BuiltinsAt mg q.1):∀k f,f<107->T0.lv f<=k->Gd P w K mg base a f|0,f,l,n=>by have:∀f,f<107->1<=T0.lv f:=zv;have:=this f l;simp_all|k+1,f,l,n=>by by_cases q:T0.lv f<=k;{exact z9 B X G m k f l q};.have e:T0.lv f -1=k:=by{lia};refine S0 B X G m f l ?_;rw[e];exact QH B X G λg p o=>z9 B X G m k g p o
end
def B2{K}{m}{h}{a}{dq}{t1 t2}(B:Hd K a dq t1 t2)(X:K.In h)(G:h.Ns cD m):∃n,(∀(s) (us),us.length=(["calls"]:List Str).length->UK s n ⟨us,[]⟩ ((["calls"]:List Str).zip us))/\∀b:Heap,(∀q∈a.tabs,b.BuiltinsAt m q.1)->gm P w K m b nM 11 (a.fa 106) n ["calls"] (Mr K a 1 (GG.d3 106)):=by have f:=B.at (i:=106) JN;unfold Ri at f;rw[aa,aa] at f;obtain⟨x,H,od,kV,p,A,C,v,J,r,e⟩:=B.l 106 JN;have c:=f.1.1;rw[e] at c;have F:=DY (st:=stI 106) e c f.1.2;exact⟨_,λs us t=>match us,t with|[_],_=>.of_eq rfl,λb y=>B7 (N:=nI 106) (ps:=Zg 106) F (Me 106 JN).1 (QH B X G λf z u=>z9 B X G y 10 f z u) (Mp 106 JN|>.resolve_left JN|>.resolve_left JN|>.resolve_left JN) rfl rfl λds d _ q=>hP JN q⟩
def R7{YP}{d}{K:Params->ah}{a}{dq}{t1 t2}(p:en.wellSaid=true) (hY:∀(w) (h),YP w h->(K w.params).In h/\∀P∈[t1,t2],h.get? P=some (oD #[])) (hB:∀P,Hd (K P) a dq t1 t2) (Z:∀P,zo (K P)=true) (hdn:d.name=T0.xJ 106):PySem.W.WalkOS q Q XP YP en d [] (λf vs=>PySem.call f vs):=by intro w yR y mg mb G Y fa o pm cd doc dV kV ho hd hcd hD hmg hg A vals as J H hrd hwl hlo;obtain⟨x,e1,e2⟩:=PySem.W.os_pre_some J;obtain⟨e3,C⟩:=Codec.encAll_of_decAll _ A x e1;subst e3;obtain⟨O,hT⟩:=hY w _ Y;have B:=hB w.params;have N:fa=a.fa 106:=by{have e4:=B.nm O G.T.g (i:=106) JN (.inl rfl);rw[<-hdn,hmg] at e4;cases e4;rfl};subst N;obtain⟨fd,hb,F⟩:=B2 (P:=en.prog) (w:=w) B O G.T.g;have v:Rj (K w.params) y.heap (a.tabs.map (·.1)):=by{rw[B.tb];intro P hP;have m:P∈[t1,t2]:=hP;have nk:(K w.params).lookup P=none:=by{have z:∃q∈a.tabs,q.1=P:=by{rw[B.tb];rcases aD.mp m with rfl|m;{exact⟨_,ag,rfl⟩};.exact⟨_,af _ ag,(bB.mp m).symm⟩};obtain⟨q,t,rfl⟩:=z;exact(B.blt q t).2};refine⟨hT P m,nk,?_⟩;rcases aD.mp m with rfl|m;{exact Kd B.m17};.rw[bB.mp m];exact Kd B.m43};have t:((Codec.inLen 0 17000 x.1&&x.1.all (Codec.inInt (-1000000000000000000) 1000000000000000000))&&true)=true:=C;rw[aa,aa] at t;have hf:=aab x.1 ⟨(Codec.inNat_iff.mp t.1.1).2,e2⟩;refine PySem.W.enter_call (mH (Ej (R:=[]) (cl:=classAt yR.heap) (ns:=x.1) (out:=sE x.1) (a:=a) (d3:=GG.d3 106) (ps:=["calls"]) O G.T.g G.T.b G.T.builtins G.T.nolimit hg G.T.bmain hwl (yM en.args x) (wj H) ⟨rfl,by decide,by decide⟩ v (Z _) (λL _ _ Xb=>F L Xb) hb rfl hf) λr' s' t=>?_);obtain⟨u,X,rfl,h1,h2,h3,h4⟩:=t;exact⟨.inl ⟨u,_,X,rfl,λ_=>rfl,h1,(OpenSpec.post_iff p C _ _).mpr rfl,λz=>cY (show false=true from z)⟩,h2,h3,h4⟩
def faL : List Nat := [22, 27, 32, 37, 42, 47, 54, 59, 64, 71, 78, 85, 90, 97, 102, 107, 112, 117, 124, 131, 138, 143, 150, 155, 160, 167, 174, 181, 186, 191, 198, 205, 212, 219, 226, 233, 241, 275, 280, 287, 294, 299, 306, 313, 320, 325, 332, 337, 342, 349, 356, 363, 370, 377, 384, 391, 398, 405, 412, 417, 424, 431, 438, 445, 453, 460, 467, 474, 481, 488, 493, 498, 503, 508, 513, 518, 523, 528, 533, 540, 548, 555, 562, 569, 576, 583, 590, 597, 604, 609, 616, 623, 630, 637, 642, 649, 656, 664, 671, 685, 692, 699, 706, 713, 718, 732, 739]
def adC : Ad := ⟨λi => faL.getD i 0, 721, [(114, ⟨76, 40, 76, 69⟩, "arranged.<locals>.<lambda>"), (308, ⟨236, 29, 236, 55⟩, "least_leading.<locals>.<lambda>")]⟩
def dqC (j : Nat) : aE := ([234, 242, 446, 657] : List Nat).getD j 0
def lf_mk {K : ah} {st : PySem.Stmt} {f : aE} {q x : PySem.Str} {oc kV doc pm cdv ct : PySem.Value} {od an : Option aE} {osl : Array (Option PySem.Value)}
    (e : K.lookup f = some ⟨oc, od, .func (fg x q (L2.kT st) (L2.gu st) (L2.cB st) .none kV doc pm an cdv ct), osl⟩) : LF K st f q := ⟨x, oc, od, kV, doc, pm, an, cdv, ct, osl, e⟩
def AllL (p : Nat -> Nat -> Prop) : Nat -> List Nat -> Prop
  | _, [] => True
  | i, x :: r => p i x /\ AllL p (i + 1) r
theorem allL_get {p} : ∀ {i l}, AllL p i l -> ∀ j, j < l.length -> p (i + j) (l.getD j 0)
  | _, _ :: _, h, 0, _ => h.1
  | i, x :: r, h, j + 1, q => by
    have := allL_get h.2 j (Nat.lt_of_succ_lt_succ q)
    rwa [U5, VO 1 j] at this
def lf_all {K} (h : AllL (λi x => LF K (stI i) x (JR i)) 0 faL) : ∀ f, f < 107 -> LF K (stI f) (adC.fa f) (JR f) := λf q => by
  have := allL_get h f q
  rwa [fA] at this
end DL
set_option maxHeartbeats 0 in
theorem PySem.Challenge.cw_commabook_s01_answers_holds : PySem.Challenge.rw_commabook_s01_answers.Holds := by
  refine DL.headR.2 ⟨?_⟩
  refine DL.R7 (a := DL.adC) (dq := DL.dqC) (t1 := 114) (t2 := 308) DL.hdWs (λw h Y => ⟨PySem.W.km_in_of Y, PySem.W.km_tabs_of Y⟩) ?hB ?hN rfl
  case hN =>
    intro P
    kernel_rfl
  case hB =>
    intro P
    refine' ⟨DL.lf_all ?l, by kernel_rfl, by kernel_rfl, by kernel_rfl, by kernel_rfl, by kernel_rfl, by kernel_rfl, by kernel_rfl, by kernel_rfl, rfl, by decide⟩
    iterate 107
      show _ /\ _
      refine' ⟨DL.lf_mk ?e, ?_⟩
      (case e => k_is)
    exact trivial
