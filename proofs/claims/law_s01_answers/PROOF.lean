import PyProof.Rows.All
import Wide.All
import OpenK.AllK
import Wide.FinOn
import WaSpec
import PyProof.StationsW
import OpenK.KCls
import PyProof.ExcBaseAll.Exception
import PyProof.RulesAs
import PyProof.InstStoreFacts
import PyProof.ExcArgs
import PyProof.ExcAttrAll.Exception
import PyProof.EqAt
import PyProof.EqKinds
import PyProof.TupleCall
import KE.BitLaws
import Open.SpecLaws
import KE.OsHead
import KE.OsGo
import PySem.Challenge.RW_pipewater_s01_answers
import PyFlatLaws
set_option maxHeartbeats 0
set_option linter.all false
set_option maxRecDepth 100000
set_option Elab.async false
open List renaming getElem?_eq_some_iff->aB,length_map->au,mem_cons_of_mem->aV,mem_of_getElem?->bc,getElem?_eq_getElem->bo,getElem?_append_left->bN,mem_cons->aH,mem_cons_self->bf,length_cons->bB,length_append->bS,replicate->bq,mem_filter->bJ,getElem?_map->b8,size_toArray->b9,mem_append_left->dF,mem_append->bZ,range->a8,map_cons->bP,mem_append_right->eP,getElem?_of_mem->fh,getElem?_set_ne->fQ,getElem?_set_self->gI,append_nil->dR,length_filter_le->ft,getElem?_eq_none->fu,mem_map->b6,all_eq_true->eC,mem_range->dU,map_map->c8,length_set->fz,map_append->fB,getElem?_eq_none_iff->kG,take_length->gr,find?_cons_of_neg->jB,nodup_cons->gu,mem_flatMap->gP,getElem?_modify->jC,getD->cM,length_take->ie,replicate_succ->jD,append_assoc->iR,length_drop->iS,mem_zipIdx_iff_getElem?->qA,length_range->kH,filter_sublist->lS,filterMap_cons->lT,find?_cons->jE,foldl_cons->jF,length_singleton->nX,filterMap_eq_map->nY,filter_append->lU,length_eq_zero_iff->qB,flatMap_append->nZ,take_of_length_le->qC,filter_cons->lV,lookup_cons->lW,getElem?_append_right->ui,drop_eq_getElem_cons->uj,nil_append->lX,nodup_append->n6,flatten_cons->n8,all_map->jG,map_congr_left->qD,not_mem_nil->n9,getElem_inj->oa,getElem?_replicate->uk,getElem?_dropLast->ul,length_nil->og,range_succ->oh,all_cons->lY,any_cons->lZ,dropLast_sublist->um,take_append_drop->uo,lookup->kI,zipIdx_cons->qE,map_nil->l3,length_pos_iff->uq,length_erase_of_mem->yD,set_cons_succ->ur,contains_cons->uu,length->l4,findIdx?_eq_some_iff_getElem->Er,take_succ_eq_append_getElem->Es,filter_eq_nil_iff->yE,flatMap_cons->uv,ext_getElem?->uw,range_succ_eq_map->yF,getElem_mem->ux,drop_length->uy,sum_cons->qF,mem_erase_of_ne->yG,length_dropLast->yH,count_cons->uz,dropLast_concat_getLast->Et,map_eq_nil_iff->yI,getElem?_range->yJ,getElem?_concat_length->Eu,mem_singleton->yK,find?_eq_none->yL,findSome?_eq_none_iff->Ew,mem_filterMap->yM,forIn_nil->uA,drop_zero->uB,pairwise_iff_getElem->Ex,range'->qG,filter_congr->yN,foldl_append->yO,reverse_cons->yP,length_pos_of_mem->Ey,map_set->uC,drop_eq_nil_of_le->Ez,of_mem_zip->yQ,forIn_cons->yR,count_cons_of_ne->EA,length_replicate->EB,range_eq_range'->EC,count_cons_self->ED,getElem?_zipIdx->EE,pairwise_append->EF,drop_drop->yS,take_succ_cons->EG,toList_toArray->EH,countP_eq_zero->EI,length_modify->EJ,getElem?_drop->EK,pairwise_cons->EL,getElem?_take->EM,filterMap_map->EN,findIdx?_cons->EO,count_append->EQ,map_dropLast->ER,countP_cons->ES,getElem_map->ET,zipIdx_nil->EU,head?_cons->EV,head?_drop->EW,foldl->yT,take_left->EX,drop_left->EY,tail_drop->EZ,map_drop->E2,map_id->BV,head?->BW,tail->BX
open PySem.W renaming Frag->ah,fnOf->c9,findIn->fD,emptyDict->jH,keepIn->jI,instObj->kJ,callWith_K->qH,hasDictIn->qI,specialIn->qJ,plainGet->qK,methodCall_KW->yU,length_le_weightAllW->E3,hideAll_get->yV,plainGet_of->yW,callWith_K0->yX,lookIn->uD,methodObj->yY,plainOver->yZ,isFn->uE,cellsFrom_some->E4,takerIn->y3,makesIn->y4,readsIn->y6,findCls->y8,hideAll_none->E5,typeIn->y9,codeIn->zb,findObj_own->E6,of_hideAll->E7,mg_none_of->E8,handedIn->E9,WRecords->Fb,hideAll->Fc,WalkOS->Fd,clsIn->Fe
open PySem.Heap renaming get?_push_of_some->aY,lt_size->aZ,get?_push_size->cY,get?_update_other->gJ,size_push->dB,get?_update_self->l6,SameBut->kK,get?_none_of_le->Ff,get?_update_ne->Fg,ExtBut->BZ
open Option.some renaming inj->aI,injEq->Fh
open Nat renaming le_refl->aG,zero_le->bj,le_trans->bK,lt_of_lt_of_le->eQ,ne_of_lt->cy,not_lt_zero->ig,lt_irrefl->gQ,lt_succ_of_lt->kM,ne_of_gt->gR,le_of_not_lt->kN,lt_succ_self->l7,le_of_eq->jJ,zero_add->kO,lt_of_not_le->qM,lt_of_le_of_lt->uF,le_of_succ_le->uG,le_of_lt->uH,lt_or_ge->uI,lt_trans->uJ,min_eq_left->zc,add_comm->zd,le_add_right->Fi,mul_le_mul->Fj,succ_mul->Fk,mul_comm->Fm,le_succ->B0
open Pipe renaming Bytes->aE,Sys->aM,Joint->bv,Hand->bg,wayOf->bD,nameForm->cZ,turnOf->bT,Len->bz,parted->cz,Run->bH,opposite->fT,named->eD,intForm->gv,wordIn->gS,linesFrom->jK,numForm->iT,isDigit->jM,At->eM,DIRWORDS->l8,ENDWORDS->l9,Line->ip,BLANK->kP,lineOf->mh,faulty->mn,mm->gU,sysOf->oo,stepOf->qN,dot->mq,NEW->qO,inBounds->Fn
open Classical renaming byContradiction->eJ
open Bool renaming and_eq_true->cn,false_ne_true->cX,noConfusion->gw,eq_iff_iff->mr,true_and->kQ,and_eq_true_iff->uK,and_true->oq,or_eq_true->qP,false_and->qQ,false_or->qR,false_eq_true->ze,not_eq_true'->zf,and_false->zg,or_true->zh
open Ne renaming symm->aF
open Int renaming neg_mul_neg->cq,toNat_natCast->iU,mul_assoc->iq,mul_comm->iV,mul_nonneg->kR,add_comm->ou,mul_pos_of_neg_of_neg->Fo,sub_mul->qS,natAbs_mul_self'->Fp,add_right_neg->Fq,mul_lt_mul'->Fs,mul_le_mul->Ft,not_le->zi,le_trans->Fu,le_of_lt->Fv,le_refl->Fw,add_mul->Fx,mul_pos->Fy
open WaNeutral renaming nats->cf,numbers->fE,whole->fU,whole32->ir,callOf->iW,ofNats->kS,step->jN,asked1->mw,byteRow->Fz,start->FA,asked->LW
open Sum renaming inr->aK,inl->aU
open PipeWater renaming reachNow->dX,valves->eE,rowsOf->fG,step->eY,rising->iX,fewest->mx,start->oy,counted->FB,Answer->LX,TEXT->LY,Call->LZ
open PySem.F renaming plainAttrs_list->fV,slot_list_append->gz,type_list_append->gW,slot_tuple_iterator_next->uL,slot_list_getattribute->zj,excBase_Exception->zk,slot_list_extend->zm,slot_str_split->uM,args_tuple_iterator_next_1->FG,slot_zip_next->uN,slot_list_pop->zo,entry_tuple_iterator_next->FH,args_str_split_2->zp,slot_dict_getitem->FI,entry_str_split->zq,type_list_extend->FJ,type_list_pop->FK,slot_list_insert->FN,args_zip_next_1->FP,entry_zip_next->FQ,slot_int_rmul->FR
open PySem.Value renaming ref->br,none->dC,builtin->oz,type->my,bool->oB,int->oE,str->uO,isStrOf->FT,isInt->FU,bytes->FV,float->FW
open PySem.PassesOwn renaming never->dc,leaving->FX
open PySem renaming mem_of_lookup->fH,boot_len->mz,Within->oF,intText?->zr,wpAt_of_wpAny->FY,wpAt_bind->FZ,call->B1
open PySem.Builtin.SmallTypes renaming nextOf->iY,ownedTupleIsFree->uP,ownedTupleHandOut->F1
open PySem.Builtin.Str renaming strSliceIndices->jO,strKind->iu,occurrences->zt,partsBetween->F5
open Array renaming getElem?_eq_getElem->jP,getElem?_eq_some_iff->oG,getD->fI,getElem?_setIfInBounds->zu,length_toList->zw,append_assoc->zx,getElem?_replicate->F7,getElem?_eq_none->F8,replicate->zy,toList->zF,toList_inj->Ga
open False renaming elim->de
open PySem.Challenge renaming rw_pipewater_s01_answers->uQ,pw_pipewater_s01_answers->N6
open Option renaming map_some->i9,bind_some->jQ,map_eq_some_iff->oI,getD_some->kT,isSome_iff_exists->uR,isSome_map->qT,none->uS,isSome_some->Gb,getD_none->Gc
open PySem.Str renaming ofString->gB,empty->oK,join->wI,length->B2
open PySem.StrLaws renaming sliceText->oM,strSliceIndices_plain->N7,sliceText_nat->N8,found_one->N9,subAt_eq->Oa
open PySem.Obj renaming mapFields->iw,data_mapFields->mB,isFreed_of_fields->uT,mapSeq->qU,data->B4
open Pipe.Hand renaming first->jb,line->Gd
open PyProof.Rows renaming callWith_type1->uU,callWith_builtin1->Ob,join_tuple->Oc,join_list->Od,iadd_int->Oe,split_le->Of,in_str->L7
open PySem.PyData renaming eqv->gX,canLayAll0->uV,depthAll->uW,canLay0->zG,eqvAll->zH,depth->zI
open UInt8 renaming le_iff_toNat_le->qV,toNat->oN,toNat_inj->zJ
open PySem.Builtin.List renaming listTooLong->uX,listFitsIndex->zK
open PySem.Txt renaming split->gY,join->kU,startswith->uY
open PySem.SeqAt renaming shaped->kW,EqAt->B9
open True renaming intro->jR
open PySem.NameKind renaming free->oO,cell->zL
open PyFlat renaming played->oQ,told->oU
open PySem.W.Looks renaming here->mC,ld->uZ,of_pure->Ge
open PySem.Calls renaming callWith_builtin->zM,Name_function_global->Gf,evalArgs_plain->Gg,spliced_cons->Gh,spliced_nil->Gi
open PySem.W.Codec renaming encAll->oV,denoteAll->u0,app->qW,withinAll->Gj
open Pipe.Sys renaming kind->jS,bare_->u5,with_->u6,find->u7,height->u9,bare->zN,wetOf->Gk,leaves->Ca,levelOf->L8,mk->L9
open ForInStep renaming yield->vb
open PySem.W.WData renaming weightAll->vd,int->Cb
open PySem.EntryCells renaming newEntry->zO
open Iff renaming rfl->jT
open Sum.inl renaming inj->qX
open Sum.inr renaming inj->qY
open PySem.Paired renaming length->ve,snoc->zP
open PySem.Builtin.Range renaming rangeSize->Gm,small->Ma
open PySem.Builtin.Dict renaming updateFrom->Gn,addKeywords->Og,selfAndRest->Oh,pairItems->Oi
open PyWqakcc renaming answers_asked->Gp,whole->zQ,answers->Gq,calls->Gr,shape->Mb
open List.cons renaming injEq->zR
open List.Sublist renaming count_le->Gs,refl->Mc,map->Md
open PySem.Builtin renaming bitXor->zS
open PySem.Around renaming under_plainId->Gu,under->zT
open Pipe.Line renaming size->zU
open Pipe.Run renaming across->zV
open PySem.Heap.SameBut renaming update->Gv
open PySem.AutoSeq1 renaming list_insert_list_int_val_1->Oj,list_extend_list_list_0->Ol
open PySem.Code renaming quiet_builtin->Gw,isFrame->zW,frames->Cc
open PySem.SeqAt.EqAt renaming int_str->Gx,str_int->Gy,none_bool->Me,bool_none->Mf,bool_bool->Mg,none_int->Mh,none_str->Mi,bool_int->Mj,bool_str->Ml,int_none->Mm,int_bool->Mn,str_none->Mp,str_bool->Mq,int_int->Mr,str_str->Ms,same->Mt
open Or renaming inl->kX,inr->qZ
open PySem.AutoListH renaming list___mul___list_int_3->Om
open PySem.Heap.Ns1 renaming of_empty->Gz
open Pipe.Len renaming sub->zX,add->GG,times->Mu
open PySem.Heap.DictOf renaming new->GI
open PySem.Within renaming cons->GK
open PySem.Data renaming seq->vf,dict->Cd
open PySem.Value.type renaming inj->GQ
open PySem.EqNone renaming eq_none_none->On,eq_none_bool->Oo,eq_bool_none->Oq,ne_none_none->Ot,ne_none_bool->Ou,ne_bool_none->Ov,eq_none_int->Ow,eq_none_str->Ox,eq_int_none->Oy,eq_str_none->Oz,ne_none_int->OA,ne_none_str->OB,ne_int_none->OC,ne_str_none->OD
open PySem.EqMixed renaming eq_bool_str->OE,eq_str_bool->OG,ne_bool_str->OH,ne_str_bool->OI,eq_int_str->OJ,eq_str_int->OL,ne_int_str->OM,ne_str_int->ON
open List.Nodup renaming not_mem_erase->OO,sublist->Mv
open PySem.NumText renaming digitsVal->OP
open PySem.MeetsSeq renaming list_pop_last->OQ
open PySem.W.KIN renaming call_text->OS
open Prod renaming fst->zY,snd->zZ
open PySem.CmpOp renaming NotIn->Ce,In->Cf
open PySem.Shared renaming heap->Cg
open PySem.SC renaming startswith->Mw
open PySem.Heap.IsSliceOf renaming new->Mx
open PySem.W.OpenSpec renaming post_iff->My
open PySem.DictEntry renaming refKey->Mz
open PySem.IsL renaming update->MA
open PySem.W.ReadsAllW renaming cons->MB,nil->MC
open PySem.ReadsAll renaming cons->MD,nil->ME
open Nat.succ renaming inj->MF
set_option hygiene false
local macro_rules|`(.e)=>`(List Nat)|`(.h)=>`(by omega)|`(.D)=>`(Inv X pins σ H s)|`(.ac)=>`(Value->.aT)|`(.ap)=>`(if_neg<|by decide +kernel)|`(.aa)=>`(Str->.br)|`(.U)=>`(List (Addr×Obj))|`(.af)=>`(model X.prog X.w)|`(.V)=>`(aw .j rfl)|`(.u)=>`(List Value)|`(.ad)=>`(model prog w)|`(.cm)=>`(.ey=(false,.bA)::starEach es X.env)|`(.m)=>`(by simp)|`(.bi)=>`({ cls:=.type "dict",data:=.dict #[] })|`(.aq)=>`(by decide +kernel)|`(.dq)=>`(⟨h.sys.joints++[.do],h.sys.runs++[.cI]⟩)|`(.bD)=>`(gN K cR cS cJ cP H0 H rA sA di dE L h i c)|`(.B)=>`(List Addr)|`(.s)=>`(by rfl)|`(.Y)=>`(⟨_,rfl⟩)|`(.ab)=>`(Option Int)|`(.aY)=>`(cU hk<|by decide +kernel)|`(.O)=>`(by decide)|`(.bc)=>`((x == ("__debug__":Str))=false)|`(.i)=>`(some o)|`(.bp)=>`(kept.filter λx=>decide (x≠v))|`(.eG)=>`((h.push { cls:=.bz,data:=.seq rest.toArray }).push { cls:=.I,data:=.fields #[.ref h.objs.size,.none,.none,.none,.bool false,.none] })|`(.j)=>`(pv 0)|`(.bj)=>`(Raw K cS cJ cP H0 H sA L jd rs)|`(.an)=>`(List (Key×V))|`(.Q)=>`(Same H H')|`(.L)=>`(List Str)|`(.bL)=>`(if_neg<|cU hk<|by decide +kernel)|`(.aC)=>`(if_neg<|by omega)|`(.ee)=>`(⟨h.sys.joints.dropLast,h.sys.runs.modify .cz λ(r:Run)=>.bW⟩)|`(.aW)=>`(s.heap.objs.size+1)|`(.ah)=>`(if_pos rfl)|`(.c8)=>`({ h.sys with joints:=h.sys.joints++[.do] })|`(.I)=>`(.ref C)|`(.ba)=>`(.ref s.heap.objs.size)|`(.o)=>`(pv 1)|`(.r)=>`(List V)|`(.cI)=>`(⟨j,h.sys.joints.length,d,n,h.radius⟩)|`(.dr)=>`(⟨λz=>absurd z<|by decide,λz=>absurd z<|by decide⟩)|`(.Z)=>`(Hp->Prop)|`(.E)=>`(.ref a)|`(.bE)=>`({ s with toks:=s.toks+1 })|`(.cX)=>`((h.here.map λ(x:Nat×Bool)=>x.1).getD 0)|`(.ax)=>`(Same.refl _)|`(.c9)=>`(aX X.prog X.w X.K X.mg X.base CX k f fd ps sp)|`(.b8)=>`(by show 2<=sizeLine;decide)|`(.az)=>`(List (Str×V))|`(.aA)=>`(pH K cS cJ cP)|`(.v)=>`(some x)|`(.cY)=>`(λ(j:Nat)=>((aU (j:Int):Key),V.bl true))|`(.ef)=>`(ap<|aL<|sF .s R.yc R.ga R.rd R.fc R.kp R.ok g R.bd aP<|ae .j<|ae aD ak)|`(.ae)=>`(["self"])|`(.cJ)=>`(absurd (show false=true from hs) cX)|`(.bF)=>`(eZ K cS cJ cP H sA s L)|`(.a7)=>`(j<s.joints.length)
local macro_rules|`(.ag)=>`(if_neg c)|`(.ds)=>`({ cls:=.bz,data:=.seq vs.toArray })|`(.eg)=>`({ cls:=.type "range",data:=.fields #[.int lo t,.int hi u,.int 1 v] })|`(.aD)=>`(Hp->VK->Prop)|`(.am)=>`(some none)|`(.dt)=>`({ cls:=.bB,data:=.seq vs.toArray })|`(.ak)=>`(List Int)|`(.a8)=>`(List (Str×Addr))|`(.eX)=>`(⟨_,rfl,rA,dx,_,rfl,p,rfl,_,rfl,wA,_,1,_,rfl,rfl,j,g (n:=1) rfl,rA,sA,di,dE,H0,L,h,i,c,nm,rfl,R,O,m,s,k⟩)|`(.bG)=>`(by intro z;cases z)|`(.be)=>`(if_neg<|by decide)|`(.bf)=>`(sd<|kept.getD i 0)|`(.aI)=>`(g (n:=0) rfl)|`(.b9)=>`(L.js.map λj=>V.ref j.a)|`(.cx)=>`(X.env.cells.lookup x=some c)|`(.dX)=>`(X.fn x=true\/X.env.scope.names.lookup x=some .local)|`(.al)=>`(.ref sA)|`(.cK)=>`(backTo pos<|starEach es X.env)|`(.aZ)=>`(some (.lst xs))|`(.eY)=>`(([r.from_,r.to_].filter λ(j:Nat)=>!shut.contains j).flatMap λ(j:Nat)=>(netOf s).ends.getD j [])|`(.aE)=>`(Array Value)|`(.b_)=>`(gp<|by decide +kernel)|`(.cL)=>`(by show 1<=sizeLine;decide)|`(.bb)=>`(["self","name"])|`(.M)=>`(pv 2)|`(.bH)=>`(λp=>rm.getD p 0)|`(.bx)=>`(s.heap.get? b=.i)|`(.ar)=>`(.inl rfl)|`(.eH)=>`(cellsFrom (s3.heap.objs.size+1) a.names<|eK X.env.cells a.names [])|`(.dY)=>`(l.setIfInBounds m<|some<|higher x<|s.height m)|`(.aT)=>`(Shared->Prop)|`(.eh)=>`({ h.sys with joints:=h.sys.joints++[⟨a,0,some n⟩] })|`(.dZ)=>`({ cls:=.bB,data:=.seq its.toArray n })|`(.bU)=>`(λx=>decide (x∉S))|`(.cM)=>`(decide_eq_true<|by omega)|`(.cN)=>`(gw<|show false=true from p)|`(.d0)=>`((.bT).filter λq=>decide (m[q]?=.am))|`(.by)=>`(C8 K cR cS cJ cP)|`(.bg)=>`(some (.dK kvs))|`(.ca)=>`(some (.ins C dx fs))|`(.aX)=>`(λ_ _=>rfl)|`(.a2)=>`(aK<|T<|sg n)|`(.cy)=>`(.type "BaseException")|`(.eI)=>`(g x σ H' λσ2 H2=>tb { D with nx:=N,ct:=N,bk:=D.nx } σ2 H2)|`(.bq)=>`(by simp;omega)|`(.a3)=>`(h.sys.find n)|`(.c_)=>`({ s with heap:=h',toks:=tk })|`(.bW)=>`({ r with to_:=k })|`(.dF)=>`(.Call (.Name x p) (e::es) [] pos)|`(.as)=>`(List .ab)|`(.cz)=>`(h.sys.runs.length-1)|`(.bX)=>`(if_pos<|by omega)|`(.fg)=>`(λ(y:List Nat×Array Bool) (m:Nat)=>if y.2.getD m true=true then y else(m::y.1,y.2.setIfInBounds m true))|`(.ei)=>`(.Call (.Attribute o m apos) (e::es) [] pos)|`(.aw)=>`(Option V)|`(.d1)=>`(backToKw pos (keywordEach [] X.env))|`(.au)=>`(if_pos c)|`(.ej)=>`(∀vs H Q E,sp vs H Q E->vs.length=ps.length)|`(.bM)=>`(List (Int×Int))|`(.cA)=>`(h.sys.joints[j]?=.v)
local macro_rules|`(.eJ)=>`(max (HT.lu z.length 0 lo) (HT.lu z.length z.length hi))|`(.fh)=>`(K.lookup f=some ⟨oc,od,.func<|c9 "__init__" q (fk st) (dZ st) .a1 .none kV doc pm an cdv ct,osl⟩)|`(.ek)=>`(notedBy .ad A env λe s'=>R (.error e) s')|`(.cZ)=>`(["self","holds","kind"])|`(.fi)=>`(σ=[some (.ref J),some (.ref rA),some (.int t),some (.ref cA),some .I,some (.int (done:Nat)),G,D,none])|`(.da)=>`(by rw[sizeLine_eq];omega)|`(.bI)=>`(endsAt h.sys j)|`(.du)=>`(x.name.isSome&&x.kind != 1)|`(.cb)=>`(EP X pins σ Q)|`(.bz)=>`(.type "tuple")|`(.el)=>`(some (some<|.builtin "object.__setattr__"))|`(.ai)=>`(some u)|`(.fj)=>`((b∈X.ex\/X.wL.heap.objs.size<=b)/\b≠X.env.locals/\(∀x c,.cx->c≠b)/\∀p∈X.pn++pins,p.1≠b)|`(.br)=>`(Option Value)|`(.bY)=>`(["one","other"])|`(.aj)=>`(pv 3)|`(.db)=>`(Int->Option (Option Nat))|`(.eK)=>`(by cases hp;exact⟨rfl,by simp[PyFlat.putRows]⟩)|`(.cc)=>`(s.heap.push .bi)|`(.bN)=>`(.type "type")|`(.eZ)=>`((s.joints.zipIdx.map λ(x:Joint×Nat)=>shut.contains x.2).toArray)|`(.dv)=>`(cenv.cells.lookup y=some c)|`(.bA)=>`(eval e X.env)|`(.em)=>`(.Call (.Attribute o m apos) [] [] pos)|`(.cn)=>`(["self","number"])|`(.dc)=>`(by show 6<1000;decide)|`(.cp)=>`(s.runs[k]?=some r)|`(.bB)=>`(.type "list")|`(.dd)=>`((a == sysModules)=false)|`(.bt)=>`(List (κ×V))|`(.aQ)=>`(h'.get? b)|`(.cd)=>`(k<s.runs.length)|`(.eL)=>`(t { nx:=λ_ H'=>Q .non H',rt:=Q } (start N vs) H)|`(.dG)=>`(by show 3<=sizeLine;decide)|`(.aF)=>`(s.kind j)|`(.bO)=>`(2*kept.length)|`(.cO)=>`({ s with heap:=h' })|`(.aG)=>`(.ref f)|`(.dH)=>`({ s with heap:=h',toks:=t' })|`(.aU)=>`(List Expr)|`(.bC)=>`(.int (i:Nat))|`(.e0)=>`(["self","begin","finish","direction","millimetres","radius"])|`(.bP)=>`(some (some a))|`(.aJ)=>`(Nat->Int)|`(.aK)=>`(pG P w)|`(.bm)=>`(wipe σ vs)|`(.cP)=>`(List (List Key×V))|`(.cQ)=>`(Tp P w K mg base h)|`(.cR)=>`(λφ q=>by cases q)|`(.fk)=>`((fi.zipIdx.filter λ(x:Option Len×Nat)=>x.1.isSome).map λ(x:Option Len×Nat)=>x.2)|`(.cB)=>`(s.height r.from_)|`(.fP)=>`(⟨J.ok.mod,J.ok.kind,J.ok.glob,J.ok.blt,J.ok.above,J.ok.inj,J.ok.has,J.ok.cab,J.ok.hd,J.ok.frames,J.ok.stk,J.ok.XD,J.ok.bs,J.ok.Kw,J.ok.o7,J.ok.Hj,J.ok.qu,J.ok.Pj⟩)|`(.bJ)=>`([90,135,180])|`(.c1)=>`(ae (bG .o aD) ak)|`(.bK)=>`(h.get? b=.i)|`(.cC)=>`(by simpa using c)|`(.c2)=>`(some (some<|.ref f))|`(.ao)=>`(some y)|`(.d2)=>`(a9 fo (bG .o aD) eU .aN)|`(.cS)=>`(by simpa using h1)
local macro_rules|`(.fm)=>`(∀(s:Shared) (us:.u),us.length=ps.length->BindsTo s fd ⟨us,[]⟩ (ps.zip us))|`(.cq)=>`(L.js[i]?=some j)|`(.cr)=>`(["self","shut"])|`(.fo)=>`(if pre S (c::r)=true then acc::spl S (S.length-1) [] r else spl S 0 (acc++[c]) r)|`(.eM)=>`(∀i m,s.find m=some i->s'.kind i=s.kind i)|`(.en)=>`(by have:=of_decide_eq_true c;omega)|`(.a4)=>`(foot sA L)|`(.fp)=>`(h.here.isNone||(!h.sys.bare .cX||!(h.here.map λ(x:Nat×Bool)=>x.2).getD false))|`(.de)=>`(List (Str×NameKind))|`(.bQ)=>`(h.sys.find m)|`(.fq)=>`((∃o,g.get? e=.i/\o.cls=.type "StopIteration")->E .a_ .dQ)|`(.aH)=>`(.ref l)|`(.aR)=>`(H b=none)|`(.d3)=>`(List (List Key×Addr×Value))|`(.ft)=>`(eq_of_beq<|show((_:.u) == [.type "Exception",.cy,.type "object"])=true from e)|`(.fu)=>`({ a with heap:=a.heap.push { cls:=.type "slice",data:=.fields #[c,d,.none] } })|`(.dI)=>`(Ji h j d n<|x.at_.go d n)|`(.cs)=>`(kept.getD i 0)|`(.cT)=>`(λj=>[j.pL,j.lL])|`(.eN)=>`(⟨[],trivial,λa m=>absurd m<|by simp⟩)|`(.e1)=>`(A.under<|.builtin "type.__call__" ⟨ .I::us,a⟩)|`(.aV)=>`(List .e)|`(.eo)=>`(aX P w K mg base CX k f fd ps sp)|`(.ep)=>`(some (h.sys.joints.length,false))|`(.bZ)=>`(B.get? b=.i)|`(.df)=>`(Inv X pins σ H' s')|`(.d4)=>`(["valves","sides","target"])|`(.b0)=>`(by simp at h)|`(.e2)=>`(by simp[PyFlat.putRow] at dl;unfold cf;rw[au];omega)|`(.dh)=>`(max n (ks.getD m 0))|`(.e3)=>`(nH (K:=K) (n:=2) rfl rfl (eG (bX 1) (eG (bX 2) lG)))|`(.a9)=>`(some true)|`(.fv)=>`(upd (upd H2 T<|.tup [.bC,.ref ta]) cA<|.dK<|putK kvs (aU u)<|.int (i:Nat))|`(.dJ)=>`(by show 1<1000;decide)|`(.fQ)=>`(⟨_,rfl,a,_,_,_,rfl,rfl,c,rfl,_,rfl,b,_,_,_,rfl,rfl,d,rfl,_,_,rfl,rfl,_,rfl,a,_,_,_,rfl,rfl,c,rfl,_,rfl,b,_,_,_,rfl,rfl,d,rfl,_,_,rfl,rfl,.b8,k⟩)|`(.bR)=>`(Option Len)|`(.er)=>`(λv=>(mk (pr v).1,mk (pr v).2))|`(.fw)=>`(show eV f v ((k,x)::r)=(if k=f then(k,v)::r else(k,x)::eV f v r) from rfl)|`(.av)=>`(some v)|`(.e4)=>`((tab.zip d).map λp=>((aK p.1.1:Key),V.ref p.2))|`(.aB)=>`(.ref x)|`(.fR)=>`({ s with heap:=(s.heap.push { cls:=.bz,data:=.seq us.toArray }).push { cls:=.I,data:=.fields #[.ba,.none,.none,.none,.bool false,.none] } })|`(.d5)=>`(1024<=h.sys.joints.length)|`(.bS)=>`(Option Addr)|`(.fS)=>`(["enumerate","zip","dict_itemiterator","dict_reverseitemiterator","odict_iterator","itertools.zip_longest","itertools.pairwise"].contains n)|`(.dw)=>`(by exact_mod_cast jT)|`(.c3)=>`(by simpa using z)|`(.fx)=>`(∃S:.e,S.Nodup/\(∀v,v∈S->v∈K)/\S.length=m/\Sep (K.filter .bU))|`(.fy)=>`((k₀ == oO&&a.kind == .function&&a.names.lookup n == .b7)=true)|`(.aL)=>`((j:Nat))|`(.cD)=>`(PA X (e::es) t)|`(.cU)=>`(h.sys.with_ j f)|`(.e5)=>`(∀m,s'.find m=if m=n then some j else s.find m)|`(.cg)=>`(⟨rfl,rfl⟩)|`(.cu)=>`(eval o X.env)|`(.bn)=>`(valves s)|`(.a0)=>`(List Env)|`(.fz)=>`(c9 "__init__" q (fk st) (dZ st) .a1 .none kV doc pm an cdv ct)|`(.fT)=>`(endsAt .dq i=endsAt h.sys i++((if j=i then [h.sys.runs.length] else [])++(if .eb then [h.sys.runs.length] else [])))|`(.b1)=>`(s.height i)
local macro_rules|`(.eO)=>`(["self","joint","pipe","direction"])|`(.b2)=>`(bh K H a xs)|`(.di)=>`(jt h.here=V.non)|`(.dx)=>`(xs.length<=sizeLine)|`(.dy)=>`(λw=>V.str<|T<|sg w)|`(.es)=>`(∀f,lF (fs.lookup f)<|mA f)|`(.fU)=>`(⟨ok.mod,ok.kind,ok.glob,ok.blt,ok.above,ok.inj,ok.has,ok.cab,ok.hd,ok.frames,ok.stk,ok.XD,ok.bs,ok.Kw,ok.o7,ok.Hj,ok.qu,ok.Pj⟩)|`(.et)=>`(by rw[au,sizeLine_eq];omega)|`(.fA)=>`(kvs.length<=sizeLine/\.dd/\∃vs,KV kvs vs/\h.DictOf (dk P w) a vs)|`(.ch)=>`((aB.mp hi).1)|`(.bT)=>`(endsAt s j)|`(.a5)=>`(h.get? a)|`(.eu)=>`(some<|higher x<|s.height m)|`(.aO)=>`(.ref p)|`(.aP)=>`(List α)|`(.eP)=>`(Post K c ls H H1 wA cA dx nA l s d)|`(.e6)=>`(∀j,j<done->Shut ps .bH found j ps.length)|`(.ev)=>`(by intros;intro z;cases z)|`(.d6)=>`(by show 2<1000;decide)|`(.dj)=>`(by simpa using g)|`(.cV)=>`(some (.ref wA))|`(.d7)=>`((L.ps.map V.ref).length)|`(.e7)=>`((s.joints.map λ(x:Joint)=>x.at_.z).toArray)|`(.d8)=>`(H l=none->.Q->Q .aH H')|`(.ce)=>`(X.calm=true)|`(.eQ)=>`(λe H' s=>by rw[<-e];exact k H' s)|`(.aM)=>`(.ref b)|`(.dL)=>`(Inv X pins σ' H' s')|`(.dM)=>`(X.blk s3 H3 a ce d)|`(.dN)=>`(X.wL.heap.get? b=.i)|`(.dO)=>`(if_neg<|h _<|by simp)|`(.dP)=>`(some (V.int (i:Nat)))|`(.c4)=>`(s.height r.to_)|`(.fV)=>`(s.joints.zipIdx.map λ(x:Joint×Nat)=>if(x.1.kind == 4||x.1.kind == 2)=true/\x.2∉shut then some x.1.at_.z else none)|`(.fB)=>`(upd (upd H d<|.lst []) x<|.ins cH dx<|eV "rising" (.ref d) [])|`(.e8)=>`(upd H7 l<|.lst<|bW<|M.set j<|some (n:Nat))|`(.e9)=>`(["system","first","barred","mark","marks"])|`(.ay)=>`(pv 4)|`(.fC)=>`(λσ2 H2=>tb { D with nx:=b<|i+1,ct:=b<|i+1,bk:=D.nx } σ2 H2)|`(.fW)=>`(decide_eq_false<|not_not_intro ⟨λh=>by first|exact x2|exact absurd h x1,λh=>by first|exact x1|exact absurd h x2⟩)|`(.ew)=>`(vs=[.ref rA,.str<|T<|sg n])|`(.fX)=>`(((l.zipIdx o).flatMap λ(y:Run×Nat)=>(if y.1.from_=j then [y.2] else [])++(if y.1.to_=j then [y.2] else [])).count x)|`(.fD)=>`((backToKw cpos (keywordEach [] X.env)).all (λx=>x.1.isSome))|`(.fY)=>`(H e=some (px e C none)/\Ep K C cd/\bM K C "number"/\∀d,d≠e->H d=none->Q .non (excPut H e C d [("number",.int n)]))|`(.d9)=>`(["self","kind","line"])|`(.fE)=>`({ cls:=.type "list_iterator",data:=.fields #[.aH,.int 0 0] })|`(.eR)=>`(∃m,W 0 m<|upd H1 D<|.lst [])|`(.e_)=>`(l.all λo=>decide (turnOf o.1 d∈ .bJ))|`(.b3)=>`(Bare h j x)|`(.dz)=>`(List (Key×Value))|`(.b4)=>`(Vals xs us)|`(.b6)=>`(o6 P w H h)|`(.eS)=>`(s.heap.get? c=.i->g.get? c=.i)|`(.b7)=>`(some .cell)|`(.eT)=>`(λz=>by rw[<-z,ai] at d;cases d)|`(.fF)=>`(∀b o,s1.heap.get? b=.i->H1 b=none->b∉frs X.stack->.bZ)|`(.fb)=>`(show ([k,sg nm]:.aV).headD []=k from rfl)|`(.fd)=>`(show(rs++[r]).length-1=rs.length by simp)|`(.fG)=>`((.cc).update x λo=>{ o with dict:=some s.heap.objs.size })|`(.c5)=>`(A.handled=none)
local macro_rules|`(.d_)=>`(d pins s σ H _ I h)|`(.fZ)=>`(∃(o:Obj) (its:.aE) (n:Nat),K.lookup a=.i/\o.cls=.bz/\o.data=.seq its n/\its.size<=sizeLine/\Vals xs its.toList)|`(.cv)=>`(s.height j)|`(.f1)=>`(σ=[some (.ref J),some (.ref rA),some (.int t),some (.ref cA),some .I,some (.int (done:Nat)),some (Nr r),D,.cV])|`(.fe)=>`([V.int (r.from_:Nat),V.int (r.to_:Nat)])|`(.bu)=>`(cG kvs k)|`(.ea)=>`(h.get? b=.ai->.aQ=.ai)|`(.eb)=>`(h.sys.joints.length=i)|`(.fH)=>`((if s.kind i=0 then _ else _)=if s'.kind i=0 then _ else _)|`(.f2)=>`(aL (mL fV gz gW fP .aj (ae (kq (ae (bG (nE hu .o .ay .aX) aD) (ae (bG (nE hu .o .ay .aX) aD) ak))) ak)))|`(.cw)=>`(ae .o ak)|`(.a1)=>`(ao st)|`(.fI)=>`(cG ((l.zip as).map λp=>((aK p.1:Key),V.ref p.2)) (aK x))|`(.f3)=>`(((a8 l.length).filter λj=>p<|(l[j]?.map λ(x:Joint)=>x.kind).getD 0).length=(l.filter λx=>p x.kind).length)|`(.ff)=>`(["self","number","direction","radius"])|`(.cf)=>`(hS.same s1)|`(.bo)=>`(if_neg e)|`(.ey)=>`(starEach (e::es) X.env)|`(.dQ)=>`({ s with heap:=g })|`(.ez)=>`(⟨_,cY _ rfl,rfl,rfl⟩)|`(.fJ)=>`((mQ sA di dE h i).lookup ("stand":Str)=some (V.int .aL))|`(.a6)=>`(St->.Z)|`(.dA)=>`(["self","place"])|`(.cE)=>`(env::outer)|`(.cF)=>`(fJ sd kept)|`(.dB)=>`(s.joints[i]?=.v)|`(.fK)=>`(s∈["size","from","at","go","node","valve","to","end"])|`(.f4)=>`(λx xs H Q=>∃a b,x=.str a/\xs=[.str b]/\(b.length == 0)=false/\a.length+2<=sizeLine/\AO (gY a b) H Q)|`(.a_)=>`(.ref e)|`(.eA)=>`(compEnvC a cl C X.env)|`(.dC)=>`(sg k::r.map sg)|`(.fL)=>`(some (some<|.builtin "BaseException.__getattribute__"))|`(.f5)=>`(∀(i q:Nat) (p:Nat×Nat),(jv rs j)[i]?=some q->(et rs j)[i]?=some p->(rs[q]?.map λr=>r.radius)=some p.2)|`(.f6)=>`(Aa s shut z.2/\(∀f k,f∈z.1\/Done s shut z.2 f k)/\z.1.length+ji s z.2.toList<=d.length+ji s l.toList)|`(.aN)=>`(a0 _)|`(.dR)=>`(by simpa using h)|`(.dk)=>`(h.sys.leaves j)|`(.f7)=>`(((z.cps.toList.drop<|HT.lu z.length 0 lo).take<|HT.lu z.length z.length hi-HT.lu z.length 0 lo).toArray)|`(.eB)=>`((b.take i).foldl thr rm)|`(.f8)=>`((if r.from_=j then [(r.dir,r.radius)] else [])++(if r.to_=j then [(opposite r.dir,r.radius)] else []))|`(.c6)=>`(Nat->Int×Int)|`(.bv)=>`(["word"])|`(.eU)=>`(if_neg (by simp[fU];exact I))|`(.ec)=>`(j=r.from_\/j=r.to_)|`(.c7)=>`(jX K cP H r p)|`(.eC)=>`(pB X.prog X.w X.K a kvs)|`(.fM)=>`(typeOf (.builtin id)=pure (.type "method_descriptor"))|`(.eD)=>`((show False from r).elim)|`(.dS)=>`(by simpa using e)|`(.cW)=>`(h.sys.kind j)|`(.dm)=>`(some (.ref bA))|`(.do)=>`(⟨a,0,none⟩)|`(.ci)=>`(.fields vs)|`(.bw)=>`(.ref D)|`(.dU)=>`(H b=.i->H' b=.i)|`(.cj)=>`(List WData)|`(.dV)=>`(["self","system"])|`(.eV)=>`(aR .s hW (v:=.int 0) .Y)|`(.cG)=>`(ae .M ak)|`(.dW)=>`(i<s.joints.length)
local macro_rules|`(.aS)=>`(some d)|`(.ck)=>`(xs[i]?=.v)|`(.f9)=>`(σ=[some (.ref O),some .al,some (.int t),some (.ref d),R,some (.ref rA),some (.int (ways:Nat)),.cV,I])|`(.eE)=>`(dz B.len<|aw .j rfl)|`(.eF)=>`(hi pins s σ H _ I h)|`(.fN)=>`(["self","begin","direction","millimetres","radius"])|`(.dD)=>`(["self","pipe"])|`(.eW)=>`(["system","heights","shut"])|`(.cH)=>`(gm K H a xs)|`(.fO)=>`(i.row k (d+1+1+r.length) T U (o:=.lst<|r.map V.int))|`(.ed)=>`(standAt apos.atName)|`(.dE)=>`(wipe σ2 vs=.bm)
namespace Pw
section
variable(Sep:.e->Prop)
def mD(K:.e)(m:Nat):Prop:=
 .fx/\
 ∀S:.e,S.Nodup->(∀v,v∈S->v∈K)->Sep (K.filter .bU)->m<=S.length
def greedy(a:.e->Nat):.e->.e->Nat->.e
 |[],_,_=>[]
 |v::l,kept,ways=>
  let o:=.bp;if a o<ways then v::greedy a l o (a o) else greedy a l kept ways
variable{Sep}
theorem lE:∀(S T:.e),S.Nodup->(∀v,v∈S->v∈T)->S.length<=T.length
 |[],T,_,_=>bj _
 |a::S,T,h,hs=>by
  obtain⟨h1,h2⟩:=gu.mp h;have b:a∈T:=hs a bf;have:=lE S (T.erase a) h2 λv hv=>by
   have:v≠a:=λe=>h1<|e▸hv;exact(yG this).mpr<|hs v<|aV _ hv
  rw[yD b] at this;have hp:0<T.length:=Ey b;simp only[bB];omega
theorem mD.uniq{K:.e}{m n:Nat}(a:mD Sep K m)(b:mD Sep K n):m=n:=by
 obtain⟨⟨S,s1,c,f,d⟩,a2⟩:=a;obtain⟨⟨T,t1,t2,g,e⟩,b2⟩:=b;have:=a2 T t1 t2 e;have:=b2 S s1 c d;omega
theorem ke:∀(n:Nat) (l S:.e),S∈fG n l↔S.Sublist l/\S.length=n
 |0,l,S=>by
  cases l<;>(simp only[fG,yK,qB];exact⟨λh=>⟨h▸List.nil_sublist _,h⟩,λh=>h.2⟩)
 |n+1,[],S=>by
  simp only[fG,n9,List.sublist_nil,false_iff];rintro⟨h,h2⟩;subst h;simp at h2
 |n+1,v::l,S=>by
  simp only[fG,bZ,b6,ke n l,ke (n+1) l];constructor
  ·rintro(⟨T,⟨h1,h2⟩,rfl⟩|⟨h1,h2⟩)
   ·exact⟨h1.cons_cons v,by simp[h2]⟩
   ·exact⟨h1.cons v,h2⟩
  ·rintro⟨h1,h2⟩;cases h1 with
   |cons _ h=>exact .inr ⟨h,h2⟩
   |cons_cons _ h=>exact .inl ⟨_,⟨h,by simpa using h2⟩,rfl⟩
theorem GU{α β:Type}(f:α->β)(p:β->Bool):∀l:.aP,(l.map f).find? p=(l.find? λx=>p<|f x).map f
 |[]=>rfl
 |a::l=>by
  simp only[bP,jE];cases p (f a) with
  |true=>rfl
  |false=>exact GU f p l
theorem rc(anti:∀E l2:.e,(∀x,x∈E->x∈l2)->Sep l2->Sep E)(g:.e->Nat)(V:.e)(o:∀K:.e,K.Nodup->(∀x,x∈K->x∈V)->mD Sep K (g K)):
  ∀(l kept:.e) (m:Nat) (P:.e->Bool),kept.Nodup->(∀x,x∈kept->x∈V)->l.Nodup->(∀x,x∈l->x∈kept)->mD Sep kept m->
   (∀S:.e,(∀x,x∈S->x∈V)->(P S=true↔Sep (kept.filter .bU)))->
   (∀S:.e,S.Nodup->(∀v,v∈S->v∈kept)->Sep (kept.filter .bU)->S.length=m->∀v,v∈S->v∈l)->
   (fG m l).find? P=some (greedy g l kept m)
 |[],kept,m,P,hk,hV,hl,hlk,hm,hP,hmin=>by
  obtain⟨⟨S,s1,d,j,f⟩,_⟩:=hm;have hS:S=[]:=by
   cases S with
   |nil=>rfl
   |cons a r=>exact absurd (hmin _ s1 d f j a bf)<|by simp
  subst hS;have e:m=0:=by simpa using j.symm
  subst e;show(fG 0 []).find? P=some [];simp only[fG,jE,(hP [] λ_ z=>absurd z<|by simp).mpr f]
 |v::l,kept,0,P,hk,hV,hl,hlk,hm,hP,hmin=>by
  obtain⟨⟨S,s1,d,j,f⟩,_⟩:=hm;have hS:S=[]:=qB.mp j;subst hS;have go:∀l:.e,greedy g l kept 0=[]:=λl=>by
   induction l with
   |nil=>rfl
   |cons a r q=>simp only[greedy,ig,if_false];exact q
  rw[go];simp only[fG,jE,(hP [] λ_ z=>absurd z<|by simp).mpr f]
 |v::l,kept,m+1,P,hk,hV,hl,hlk,hm,hP,hmin=>by
  obtain⟨s,p⟩:=gu.mp hl;have k:v∈kept:=hlk v bf;have t:(.bp).Nodup:=hk.sublist lS;have u:∀x,x∈ .bp->x∈V:=λx b=>hV x (bJ.mp b).1;have y:=o _ t u;have i:∀x,x∈ .bp↔x∈kept/\x≠v:=λx=>by rw[bJ];simp
  have up:∀S:.e,(∀x,x∈S->x∈ .bp)->Sep ((.bp).filter .bU)->Sep (kept.filter λx=>decide (x∉v::S)):=λS hS h=>by
   refine anti _ _ (λx b=>?_) h;obtain⟨h1,h2⟩:=bJ.mp b;have h2:x∉v::S:=of_decide_eq_true h2;refine bJ.mpr ⟨(i x).mpr ⟨h1,λe=>h2<|e▸bf⟩,decide_eq_true λz=>h2<|aV _ z⟩
  have n:∀S:.e,Sep (kept.filter λx=>decide (x∉v::S))->Sep ((.bp).filter .bU):=λS h=>by
   refine anti _ _ (λx b=>?_) h;obtain⟨h1,h2⟩:=bJ.mp b;have h2:x∉S:=of_decide_eq_true h2;obtain⟨A,B⟩:=(i x).mp h1;refine bJ.mpr ⟨A,decide_eq_true λz=>?_⟩;rcases aH.mp z with z|z
   ·exact B z
   ·exact h2 z
  have H:m<=g .bp:=by
   obtain⟨⟨S,s1,d,j,f⟩,_⟩:=y;have:=hm.2 (v::S) (gu.mpr ⟨λz=>((i v).mp (d v z)).2 rfl,s1⟩) (λx b=>by
    rcases aH.mp b with z|z
    ·exact z▸k
    ·exact((i x).mp (d x z)).1) (up S d f)
   rw[bB] at this;omega
  show((fG m l).map (λr=>v::r)++fG (m+1) l).find? P=some (if g .bp<m+1 then v::greedy g l .bp (g<|kept.filter λx=>decide (x≠v)) else greedy g l kept<|m+1)
  rw[List.find?_append,GU];by_cases c:g .bp<m+1
  ·have e:g .bp=m:=.h
   rw[.au,e];rw[e] at y;have q:=rc anti g V o l .bp m (λS=>P (v::S)) t u p (λx b=>(i x).mpr ⟨hlk x<|aV _ b,λz=>s<|z▸b⟩) y
    (λS C=>(hP (v::S) (λx b=>by
     rcases aH.mp b with z|z
     ·exact z▸hV v k
     ·exact C x z)).trans ⟨n S,λh=>?_⟩) (λS s1 d f j x b=>?_)
   ·rw[q];rfl
   ·refine anti _ _ (λx b=>?_) h;obtain⟨h1,h2⟩:=bJ.mp b;have h2:x∉v::S:=of_decide_eq_true h2;refine bJ.mpr ⟨(i x).mpr ⟨h1,λe=>h2<|e▸bf⟩,decide_eq_true λz=>h2<|aV _ z⟩
   ·have:=hmin (v::S) (gu.mpr ⟨λz=>((i v).mp (d v z)).2 rfl,s1⟩) (λx b=>by
     rcases aH.mp b with z|z
     ·exact z▸k
     ·exact((i x).mp (d x z)).1) (up S d f) (by simp[j]) x (aV _ b)
    rcases aH.mp this with z|z
    ·exact absurd z ((i x).mp<|d x b).2
    ·exact z
  ·rw[.ag];have F:((fG m l).find? λx=>P (v::x))=none:=by
    rw[yL];intro S hS hp;obtain⟨h1,h2⟩:=(ke m l S).mp hS;have D:∀x,x∈S->x∈ .bp:=λx b=>(i x).mpr ⟨hlk x (aV _ (h1.subset b)),λz=>s (z▸h1.subset b)⟩;have:=y.2 S (p.sublist h1) D (n S ((hP _ (λx b=>by
     rcases aH.mp b with z|z
     ·exact z▸hV v k
     ·exact hV x (hlk x (aV _ (h1.subset z))))).mp hp))
    omega
   rw[F];have G:∀S:.e,S.Nodup->(∀w,w∈S->w∈kept)->Sep (kept.filter .bU)->S.length=m+1->v∉S:=λS s1 d f j hv=>by
    have:=y.2 (S.erase v) (s1.erase v) (λx b=>(i x).mpr ⟨d x (List.mem_of_mem_erase b),λz=>by subst z;exact(OO s1) b⟩) (by
     refine anti _ _ (λx b=>?_) f;obtain⟨h1,h2⟩:=bJ.mp b;have h2:x∉S.erase v:=of_decide_eq_true h2;obtain⟨A,B⟩:=(i x).mp h1;exact bJ.mpr ⟨A,decide_eq_true λz=>h2 ((yG B).mpr z)⟩)
    rw[yD hv] at this;omega
   have q:=rc anti g V o l kept (m+1) P hk hV p (λx b=>hlk x (aV _ b)) hm hP (λS s1 d f j x b=>by
    rcases aH.mp (hmin S s1 d f j x b) with z|z
    ·subst z;exact absurd b<|G S s1 d f j
    ·exact z)
   rw[q];rfl
theorem BF(anti:∀j l2:.e,(∀x,x∈j->x∈l2)->Sep l2->Sep j)(a:.e->Nat)(V:.e)(d:V.Nodup)(b:∀K:.e,K.Nodup->(∀x,x∈K->x∈V)->mD Sep K (a K))
  (P:.e->Bool) (k:∀S:.e,(∀x,x∈S->x∈V)->(P S=true↔Sep (V.filter .bU))):
  ((a8<|V.length+1).findSome? λn=>(fG n V).find? P)=some (greedy a V V<|a V):=by
 have f:=b V d λ_ h=>h;have c:=rc anti a V b V V (a V) P d (λ_ h=>h) d (λ_ h=>h) f k λS s1 g _ _ v hv=>g v hv;have le:a V<=V.length:=by
  obtain⟨⟨S,s1,g,m,p⟩,_⟩:=f;rw[<-m];exact lE _ _ s1 g
 have low:∀n,n<a V->(fG n V).find? P=none:=λn l=>by
  rw[yL];intro S hS hp;obtain⟨h1,h2⟩:=(ke n V S).mp hS;have:=f.2 S (d.sublist h1) (λx i=>h1.subset i)<|(k S λx i=>h1.subset i).mp hp;omega
 have e:a8 (V.length+1)=a8 (a V)++(qG (a V)<|V.length+1-a V):=by
  rw[EC,EC,show V.length+1=a V+(V.length+1-a V) by omega,<-List.range'_append_1];simp
 rw[e,List.findSome?_append];have o:((a8<|a V).findSome? λn=>(fG n V).find? P)=none:=by
  rw[Ew];intro n l;exact low n<|dU.mp l
 rw[o];show((qG (a V)<|V.length+1-a V).findSome? λn=>(fG n V).find? P)=_;rw[show V.length+1-a V=(V.length-a V)+1 by omega,List.range'_succ,List.findSome?_cons,c]
end
inductive sO{α:Type}(E:List (α×α))(s:α):α->Prop
 |refl:sO E s s
 |fwd {a b:α}:sO E s a->(a,b)∈E->sO E s b
 |Xr {a b:α}:sO E s b->(a,b)∈E->sO E s a
theorem sO.mono{α:Type}{E F:List (α×α)}{s t:α}(h:∀p,p∈E->p∈F)(c:sO E s t):sO F s t:=by
 induction c with
 |refl=>exact .refl
 |fwd _ m ih=>exact .fwd ih<|h _ m
 |Xr _ m ih=>exact .Xr ih<|h _ m
theorem sO.inside{α:Type}{E:List (α×α)}{s t:α}(A:α->Prop)(hs:A s)(hA:∀p,p∈E->(A p.1↔A p.2))(c:sO E s t):A t:=by
 induction c with
 |refl=>exact hs
 |fwd _ m ih=>exact(hA _ m).mp ih
 |Xr _ m ih=>exact(hA _ m).mpr ih
def kY{α:Type}(sd:Nat->α×α)(s t:α)(K:.e):Prop:=¬sO (K.map sd) s t
theorem kY.anti{α:Type}{sd:Nat->α×α}{s t:α}(a l2:.e)(h:∀x,x∈a->x∈l2)(c:kY sd s t l2):kY sd s t a:=λz=>c (z.mono λp hp=>by
 obtain⟨x,b,e⟩:=b6.mp hp;exact b6.mpr ⟨x,h x b,e⟩)
theorem kY.nil{α:Type}{sd:Nat->α×α}{s t:α}(h:s≠t):kY sd s t []:=λz=>by
 have:∀u,sO (([]:.e).map sd) s u->s=u:=λu c=>by
  induction c with
  |refl=>rfl
  |fwd _ m _=>simp at m
  |Xr _ m _=>simp at m
 exact h<|this t z
def sumTo:Nat->.aJ->Int
 |0,_=>0
 |k+1,f=>sumTo k f+f k
theorem mZ{f g:.aJ}:∀k,(∀i,i<k->f i=g i)->sumTo k f=sumTo k g
 |0,_=>rfl
 |k+1,h=>by
  show sumTo k f+f k=sumTo k g+g k;rw[mZ k λi hi=>h i<|kM hi,h k<|l7 k]
theorem GX{f g:.aJ}:∀k,(∀i,i<k->f i<=g i)->sumTo k f<=sumTo k g
 |0,_=>Fw _
 |k+1,h=>by
  have h1:=GX k λi hi=>h i<|kM hi;have h2:=h k<|l7 k;show sumTo k f+f k<=sumTo k g+g k;omega
theorem vg{f g:.aJ}{i:Nat}:∀k,i<k->(∀j,j<k->j≠i->g j=f j)->sumTo k g=sumTo k f+(g i-f i)
 |0,h,_=>absurd h<|ig _
 |k+1,h,hj=>by
  show sumTo k g+g k=sumTo k f+f k+(g i-f i);by_cases e:i=k
  ·subst e;rw[mZ i λj hi=>hj j (kM hi)<|cy hi];omega
  ·have:=vg (f:=f) (g:=g) (i:=i) k .h λj hi a=>hj j (kM hi) a;rw[this,hj k (l7 k)<|aF e];omega
theorem z4{f:.aJ}:∀k,(∀i,i<k->f i=0)->sumTo k f=0
 |0,_=>rfl
 |k+1,h=>by
  show sumTo k f+f k=0;rw[z4 k λi hi=>h i<|kM hi,h k<|l7 k];rfl
theorem rf(p:Nat->Bool)(l:.e):∀k,k<=l.length->sumTo k (λi=>if p (l.getD i 0)=true then 1 else 0)=(((l.take k).filter p).length:Nat)
 |0,_=>by simp[sumTo]
 |k+1,h=>by
  have hk:k<l.length:=h;show sumTo k _+(if p (l.getD k 0)=true then 1 else 0)=_
  rw[rf p l k<|uH hk,Es hk,lU,bS];have e:l.getD k 0=l[k]:=by simp[cM,hk]
  rw[e,lV];by_cases c:p l[k]=true
  ·rw[.au,.au];simp
  ·rw[.ag,.ag];simp
section
variable{α:Type}(sd:Nat->α×α)(s t:α)(kept:.e)
def OT(p:Nat):α:=if p % 2=0 then(sd<|kept.getD (p / 2) 0).1 else(sd<|kept.getD (p / 2) 0).2
def toP(p:Nat):α:=if p % 2=0 then(sd<|kept.getD (p / 2) 0).2 else(sd<|kept.getD (p / 2) 0).1
def mE(χ:α->Int)(rm:.aJ):Int:=sumTo kept.length λi=>(1-rm (2*i))*(χ (.bf).1-χ (.bf).2)
structure gi(rm:.aJ)(ways:Nat):Prop where
 pos:∀p,p<.bO->0<=rm p
 pair:∀i,i<kept.length->rm (2*i)+rm (2*i+1)=2
 bal:∀χ:α->Int,mE sd kept χ rm=ways*(χ s-χ t)
def twin(p:Nat):Nat:=if p % 2=0 then p+1 else p-1
def through(rm:.aJ)(p:Nat):.aJ:=λq=>if q=twin p then rm q+1 else if q=p then rm q-1 else rm q
variable{sd s t kept}
theorem gi.start:gi sd s t kept (λ_=>1) 0:=⟨λ_ _=>.O,.aX,λχ=>by
 rw[show ((0:Nat):Int)*(χ s-χ t)=0 by simp];exact z4 _ λi _=>.m⟩
theorem Kq{p k:Nat}(h:p<2*k):twin p<2*k:=by unfold twin;split<;>omega
theorem Kr(p:Nat):twin p≠p:=by unfold twin;split<;>omega
theorem Di{χ:α->Int}{rm:.aJ}{p:Nat}(hp:p<.bO):mE sd kept χ (through rm p)=mE sd kept χ rm+(χ (OT sd kept p)-χ (toP sd kept p)):=by
 have hi:p / 2<kept.length:=.h
 unfold mE;have d:=vg (f:=λi=>(1-rm (2*i))*(χ (sd .cs).1-χ (sd .cs).2)) (g:=λi=>(1-through rm p (2*i))*(χ (sd .cs).1-χ (sd .cs).2)) (i:=p / 2) kept.length hi (λj h k=>by
  have e:through rm p (2*j)=rm (2*j):=by
   unfold through twin;have h1:2*j≠p:=.h
   have h2:¬(2*j=if p % 2=0 then p+1 else p-1):=by split<;>omega
   rw[if_neg h2,if_neg h1]
  simp only[e])
 rw[d];congr 1;by_cases c:p % 2=0
 ·have a:2*(p / 2)=p:=.h
  have b:through rm p (2*(p / 2))=rm p-1:=by
   rw[a];unfold through twin;rw[.au,.aC,.ah]
  rw[b,a];unfold OT toP;rw[.au,.au];rw[qS,qS,qS];omega
 ·have a:2*(p / 2)=p-1:=.h
  have b:through rm p (2*(p / 2))=rm (2*(p / 2))+1:=by
   rw[a];unfold through twin;rw[.ag,.ah]
  rw[b];unfold OT toP;rw[.ag,.ag];rw[qS,qS,Fx];omega
theorem Dj{rm:.aJ}{p:Nat}(h:∀i,i<kept.length->rm (2*i)+rm (2*i+1)=2):∀i,i<kept.length->through rm p (2*i)+through rm p (2*i+1)=2:=λi hi=>by
 have:=h i hi;unfold through twin;by_cases c:p % 2=0
 ·rw[.au];by_cases e:2*i=p
  ·rw[.aC,if_pos e,.bX];omega
  ·rw[.aC,.bo,.aC,.aC];omega
 ·rw[.ag];by_cases e:2*i+1=p
  ·rw[.bX,.aC,if_pos e];omega
  ·rw[.aC,.aC,.aC,.bo];omega
inductive Back(sd:Nat->α×α)(s:α)(kept:.e):α->.e->Prop
 |nil:Back sd s kept s []
 |cons {p:Nat} {l:.e}:p<.bO->Back sd s kept (OT sd kept p) l->Back sd s kept (toP sd kept p) (p::l)
theorem Back.flow{χ:α->Int}:∀{l:.e} {u:α} {rm:.aJ},Back sd s kept u l->mE sd kept χ (l.foldl through rm)=mE sd kept χ rm+(χ s-χ u)
 |[],u,rm,h=>by
  cases h;show mE sd kept χ rm=_;omega
 |p::l,u,rm,h=>by
  cases h with
  |cons hp h=>
   show mE sd kept χ (l.foldl through<|through rm p)=_;rw[Back.flow h,Di hp];omega
theorem fold_pair:∀{l:.e} {rm:.aJ},(∀i,i<kept.length->rm (2*i)+rm (2*i+1)=2)->∀i,i<kept.length->(l.foldl through rm) (2*i)+(l.foldl through rm) (2*i+1)=2
 |[],_,h=>h
 |p::l,rm,h=>fold_pair (l:=l)<|Dj h
theorem z5(rm:.aJ)(p q:Nat)(h:q≠p):rm q<=through rm p q:=by
 unfold through;rw[if_neg (c:=q=p) h];split<;>omega
theorem Ks:∀{l:.e} {rm:.aJ} {q:Nat},q∉l->rm q<=(l.foldl through rm) q
 |[],_,_,_=>Fw _
 |p::l,rm,q,h=>by
  have h1:q≠p:=λe=>h<|e▸bf;have h2:=Ks (l:=l) (rm:=through rm p) (q:=q) λz=>h<|aV _ z;exact Fu (z5 rm p q h1) h2
theorem GY:∀{l:.e} {rm:.aJ} {q:Nat},l.Nodup->(q∈l->0<rm q)->0<=rm q->0<=(l.foldl through rm) q
 |[],_,_,_,_,h=>h
 |p::l,rm,q,hn,hp,h=>by
  obtain⟨a,b⟩:=gu.mp hn;by_cases e:q=p
  ·subst e;have h1:=Ks (l:=l) (rm:=through rm q) (q:=q) a;have h2:through rm q q=rm q-1:=by
    unfold through;rw[if_neg<|aF<|Kr q,.ah]
   have d:=hp bf;show 0<=(l.foldl through<|through rm q) q;omega
  ·have h1:=z5 rm p q e;refine GY (l:=l) (rm:=through rm p) b (λc=>?_) .h;have:=hp<|aV _ c;omega
theorem gi.more{rm:.aJ}{ways:Nat}{l:.e}(F:gi sd s t kept rm ways)(b:Back sd s kept t l)(a:l.Nodup)(c:∀p,p∈l->0<rm p):gi sd s t kept (l.foldl through rm) (ways+1):=
 ⟨λp hp=>GY a (c p) (F.pos p hp),fold_pair F.pair,λχ=>by
  rw[b.flow,F.bal χ];rw[show ((ways+1:Nat):Int)=(ways:Int)+1 by omega,Fx];omega⟩
open Classical in
theorem gi.weak{rm:.aJ}{ways:Nat}(F:gi sd s t kept rm ways)(hk:kept.Nodup){S:.e}(hS:kY sd s t (kept.filter .bU)):ways<=S.length:=by
 let A:α->Prop:=λa=>sO ((kept.filter .bU).map sd) s a;let χ:α->Int:=λa=>if A a then 1 else 0
 have e:=F.bal χ;have h1:χ s=1:=if_pos sO.refl;have h2:χ t=0:=if_neg hS;rw[h1,h2] at e;have le:mE sd kept χ rm<=sumTo kept.length λi=>if decide (.cs∈S)=true then 1 else 0:=by
  refine GX _ λi hi=>?_;have mem:.cs∈kept:=by
   have:.cs=kept[i]:=by simp[cM,hi]
   rw[this];exact ux hi
  have p1:=F.pos (2*i) .h;have p2:=F.pos (2*i+1) .h;have p3:=F.pair i hi;by_cases c:.cs∈S
  ·rw[if_pos<|decide_eq_true c];have b1:χ (.bf).1=1\/χ (.bf).1=0:=by
    show(if _ then _ else _)=_\/(if _ then _ else _)=_
    split
    ·exact .ar
    ·exact .inr rfl
   have b2:χ (.bf).2=1\/χ (.bf).2=0:=by
    show(if _ then _ else _)=_\/(if _ then _ else _)=_
    split
    ·exact .ar
    ·exact .inr rfl
   rcases b1 with b1|b1<;>rcases b2 with b2|b2<;>rw[b1,b2]<;>omega
  ·rw[if_neg<|by simpa using c];have:χ (.bf).1=χ (.bf).2:=by
    have m2:((.bf).1,(.bf).2)∈(kept.filter .bU).map sd:=b6.mpr ⟨ .cs,bJ.mpr ⟨mem,.cC⟩,rfl⟩;have iff:A (.bf).1↔A (.bf).2:=⟨λh=>h.fwd m2,λh=>h.Xr m2⟩;show(if A _ then(1:Int) else 0)=if A _ then 1 else 0
    by_cases q:A (.bf).1
    ·rw[if_pos q,if_pos<|iff.mp q]
    ·rw[if_neg q,if_neg λz=>q<|iff.mpr z]
   rw[this];simp
 rw[rf (λx=>decide (x∈S)) kept kept.length<|aG _,gr] at le;have:(kept.filter λx=>decide (x∈S)).length<=S.length:=lE _ _ (hk.sublist lS) λv hv=>by simpa using (bJ.mp hv).2
 rw[e] at le;omega
theorem gi.bound{rm:.aJ}{ways:Nat}(F:gi sd s t kept rm ways)(hk:kept.Nodup)(a:s≠t):ways<=kept.length:=by
 refine F.weak hk (S:=kept) ?_;have:(kept.filter λx=>decide (x∉kept))=[]:=yE.mpr λx b=>by simpa using b
 rw[this];exact kY.nil a
open Classical in
theorem gi.least{rm:.aJ}{ways:Nat}(F:gi sd s t kept rm ways)(hk:kept.Nodup)(A:α->Prop)(hs:A s)(ht:¬A t)
  (hA:∀p,p<.bO->0<rm p->A (OT sd kept p)->A (toP sd kept p)):mD (kY sd s t) kept ways:=by
 refine⟨?_,λS _ _ h=>F.weak hk h⟩;let cr:Nat->Bool:=λv=>decide (¬(A (sd v).1↔A (sd v).2));refine⟨kept.filter cr,hk.sublist lS,λv hv=>(bJ.mp hv).1,?_,λc=>ht<|c.inside A hs λp hp=>?_⟩
 ·let χ:α->Int:=λa=>if A a then 1 else 0
  have e:=F.bal χ;have h1:χ s=1:=if_pos hs;have h2:χ t=0:=if_neg ht;rw[h1,h2] at e;have q:mE sd kept χ rm=sumTo kept.length λi=>if cr .cs=true then 1 else 0:=by
   refine mZ _ λi hi=>?_;have p1:=F.pos (2*i) .h;have p2:=F.pos (2*i+1) .h;have p3:=F.pair i hi;have a1:=hA (2*i) .h;have a2:=hA (2*i+1) .h;unfold OT toP at a1 a2;rw[show (2*i) % 2=0 by omega,show 2*i / 2=i by omega,.ah,.ah] at a1;rw[show (2*i+1) % 2=1 by omega,show(2*i+1) / 2=i by omega,.be,.be] at a2;by_cases x1:A (.bf).1<;>by_cases x2:A (.bf).2
   ·have c:cr .cs=false:=.fW
    rw[c,show χ (.bf).1=1 from if_pos x1,show χ (.bf).2=1 from if_pos x2];simp
   ·have c:cr .cs=true:=decide_eq_true λh=>x2<|h.mp x1;rw[c,show χ (.bf).1=1 from if_pos x1,show χ (.bf).2=0 from if_neg x2];have:¬0<rm (2*i):=λz=>x2<|a1 z x1;have e0:rm (2*i)=0:=.h
    rw[e0];simp
   ·have c:cr .cs=true:=decide_eq_true λh=>x1<|h.mpr x2;rw[c,show χ (.bf).1=0 from if_neg x1,show χ (.bf).2=1 from if_pos x2];have:¬0<rm (2*i+1):=λz=>x1<|a2 z x2;have e0:rm (2*i)=2:=.h
    rw[e0];simp
   ·have c:cr .cs=false:=.fW
    rw[c,show χ (.bf).1=0 from if_neg x1,show χ (.bf).2=0 from if_neg x2];simp
  rw[q,rf cr kept kept.length<|aG _,gr] at e;omega
 ·obtain⟨v,hv,rfl⟩:=b6.mp hp;obtain⟨m1,m2⟩:=bJ.mp hv;have m2:v∉kept.filter cr:=of_decide_eq_true m2;refine eJ λz=>m2<|bJ.mpr ⟨m1,?_⟩;exact decide_eq_true z
end
open Pipe PipeWater
inductive iy(s:Sys)(shut:.e):Nat->Prop
 |src {k:Nat} {r:Run}:.cp->(s.kind r.from_=5\/s.kind r.to_=5)->iy s shut k
 |step {k m j:Nat} {r q:Run}:iy s shut k->.cp->s.runs[m]?=some q->.ec->j∉shut->(j=q.from_\/j=q.to_)->iy s shut m
theorem iy.lt{s:Sys}{shut:.e}{k:Nat}(c:iy s shut k):.cd:=by
 cases c with
 |src h _=>exact(aB.mp h).1
 |step _ _ h _ _ _=>exact(aB.mp h).1
theorem iy.anti{s:Sys}{a b:.e}(h:∀x,x∈a->x∈b){k:Nat}(c:iy s b k):iy s a k:=by
 induction c with
 |src h1 h2=>exact .src h1 h2
 |step _ h1 h2 h3 h4 h5 ih=>exact .step ih h1 h2 h3 (λz=>h4<|h _ z) h5
def fN(s:Sys):Prop:=∀r,r∈s.runs->r.from_<s.joints.length/\r.to_<s.joints.length
theorem count_set:∀{l:List Bool} {m:Nat},l[m]?=some false->(l.set m true).count false+1=l.count false
 |[],m,h=>.b0
 |a::l,0,h=>by
  have e:a=false:=.dR
  subst e;simp
 |a::l,m+1,h=>by
  have b:=count_set (l:=l) (m:=m) .dR;cases a
  ·rw[ur,ED,ED];omega
  ·rw[ur,EA<|by decide,EA<|by decide];exact b
theorem GZ(j k:Nat):∀(l:List Run) (off:Nat) (a:Array .e),j<a.size->
  (k∈((l.zipIdx off).foldl (λ(a:Array (List Nat)) (x:Run×Nat)=>(a.modify x.1.from_ λ(l:List Nat)=>x.2::l).modify x.1.to_ λ(l:List Nat)=>x.2::l) a).getD j []↔
   k∈a.getD j []\/∃i r,l[i]?=some r/\k=off+i/\(r.from_=j\/r.to_=j))
 |[],off,a,h=>.m
 |r::l,off,a,h=>by
  rw[qE,jF,GZ j k l (off+1) _<|by simpa using h];have e:k∈(((a.modify r.from_ λ(l:List Nat)=>off::l).modify r.to_ λ(l:List Nat)=>off::l).getD j [])↔k∈a.getD j []\/(k=off/\(r.from_=j\/r.to_=j)):=by
   simp only[Array.getD_eq_getD_getElem?,Array.getElem?_modify];have b:a[j]?=some a[j]:=jP h;by_cases h1:r.from_=j<;>by_cases h2:r.to_=j
   ·simp[h1,h2,b];grind
   ·simp[h1,h2,b];grind
   ·simp[h1,h2,b];grind
   ·simp[h1,h2,b]
  rw[show (((r,off).1:Run))=r from rfl,show(((r,off).2:Nat))=off from rfl,e];constructor
  ·rintro((h1|⟨h1,h2⟩)|⟨i,q,h1,h2,c⟩)
   ·exact .inl h1
   ·exact .inr ⟨0,r,rfl,.h,h2⟩
   ·exact .inr ⟨i+1,q,.cS,.h,c⟩
  ·rintro(h1|⟨i,q,h1,h2,c⟩)
   ·exact .inl<|.inl h1
   ·cases i with
    |zero=>
     have:r=q:=.cS
     subst this;exact .inl<|.inr ⟨ .h,c⟩
    |succ i=>exact .inr ⟨i,q,.cS,.h,c⟩
theorem pJ{s:Sys}{j k:Nat}(a:.a7):k∈s.atJoints.getD j []↔∃r,.cp/\(r.from_=j\/r.to_=j):=by
 unfold Sys.atJoints;rw[GZ j k s.runs 0 _<|by simpa using a];constructor
 ·rintro(h|⟨i,r,h1,h2,b⟩)
  ·simp[fI,a] at h
  ·have:i=k:=.h
   subst this;exact⟨r,h1,b⟩
 ·rintro⟨r,h1,h2⟩;exact .inr ⟨k,r,h1,.h,h2⟩
theorem pushes(b0:Array Bool):∀(f:.e) (a:.e) (b:Array Bool),
  let z:=f.foldl .fg (a,b)
  z.2.size=b.size/\z.1.length+z.2.toList.count false=a.length+b.toList.count false/\(∀k:Nat,b[k]?=.a9->z.2[k]?=.a9)/\(∀m:Nat,m∈f->m<b.size->z.2[m]?=.a9)/\
   (∀k:Nat,z.2[k]?=.a9->b[k]?=.a9\/k∈f)/\(∀k:Nat,k∈z.1->k∈a\/z.2[k]?=.a9)/\(∀k:Nat,z.2[k]?=.a9->b[k]?=.a9\/k∈z.1)/\(∀k:Nat,k∈a->k∈z.1)
 |[],a,b=>by
  exact⟨rfl,rfl,λ_ h=>h,λ_ h=>absurd h<|by simp,λ_ h=>.inl h,λ_ h=>.inl h,λ_ h=>.inl h,λ_ h=>h⟩
 |m::f,a,b=>by
  rw[jF];by_cases c:b.getD m true=true
  ·have i:=pushes b0 f a b;simp only[c,if_true] at i ⊢;obtain⟨p,q,g,r,s,t,u,n⟩:=i;refine⟨p,q,g,λx v d=>?_,λk hk=>?_,t,u,n⟩
   ·rcases aH.mp v with e|e
    ·subst e;refine g x ?_;rw[jP d];simp[fI,d] at c;simp[c]
    ·exact r x e d
   ·rcases s k hk with e|e
    ·exact .inl e
    ·exact .inr<|aV _ e
  ·have d:m<b.size:=by
    refine eJ λz=>c ?_;simp[fI,z]
   have A:b[m]?=some false:=by
    rw[jP d];simp[fI,d] at c;simp[c]
   have i:=pushes b0 f (m::a)<|b.setIfInBounds m true;simp only[c,if_false,ze] at i ⊢;obtain⟨p,q,g,r,s,t,u,n⟩:=i;have j:∀k,(b.setIfInBounds m true)[k]?=if k=m then .a9 else b[k]?:=λk=>by
    rw[zu];by_cases e:m=k
    ·subst e;simp[d]
    ·rw[.bo,if_neg<|aF e]
   refine⟨by rw[p];simp,?_,λk hk=>g k ?_,λx v w=>?_,λk hk=>?_,λk hk=>?_,λk hk=>?_,λk hk=>n k<|aV _ hk⟩
   ·rw[q];have B:(b.setIfInBounds m true).toList=b.toList.set m true:=.m
    have o:=count_set (l:=b.toList) (m:=m) (by simpa using A);rw[B,bB];omega
   ·rw[j];split
    ·rfl
    ·exact hk
   ·rcases aH.mp v with e|e
    ·subst e;exact g x<|by rw[j,.ah]
    ·exact r x e<|by simpa using w
   ·rcases s k hk with e|e
    ·rw[j] at e;split at e
     ·rename_i o;subst o;exact .inr bf
     ·exact .inl e
    ·exact .inr<|aV _ e
   ·rcases t k hk with e|e
    ·rcases aH.mp e with e|e
     ·subst e;exact .inr<|g k<|by rw[j,.ah]
     ·exact .inl e
    ·exact .inr e
   ·rcases u k hk with e|e
    ·rw[j] at e;split at e
     ·rename_i o;subst o;exact .inr<|n k bf
     ·exact .inl e
    ·exact .inr e
def Nb(s:Sys)(shut:.e)(k m:Nat):Prop:=∃j r q,.cp/\s.runs[m]?=some q/\.ec/\j∉shut/\(j=q.from_\/j=q.to_)
theorem G0{s:Sys}(hs:fN s)(shut:.e):∀(f:Nat) (a:.e) (b:Array Bool),b.size=s.runs.length->a.length+b.toList.count false<=f->(∀k:Nat,k∈a->b[k]?=.a9)->(∀k:Nat,b[k]?=.a9->iy s shut k)->
  (∀k m:Nat,b[k]?=.a9->k∉a->Nb s shut k m->b[m]?=.a9)->
  let z:=flood (netOf s) shut f a b
  z.size=s.runs.length/\(∀k:Nat,b[k]?=.a9->z[k]?=.a9)/\(∀k:Nat,z[k]?=.a9->iy s shut k)/\(∀k m:Nat,z[k]?=.a9->Nb s shut k m->z[m]?=.a9)
 |0,a,b,hb,hf,ht,hc,hn=>by
  have e:a=[]:=qB.mp .h;subst e;exact⟨hb,λ_ h=>h,hc,λk m h1 h2=>hn k m h1 .m h2⟩
 |f+1,[],b,hb,hf,ht,hc,hn=>⟨hb,λ_ h=>h,hc,λk m h1 h2=>hn k m h1 .m h2⟩
 |f+1,k::a,b,hb,hf,ht,hc,hn=>by
  have hk:=ht k bf;have v:=hc k hk;have o:.cd:=v.lt;obtain⟨r,l⟩:∃r,.cp:=⟨_,bo o⟩;have C:(netOf s).runs[k]?=some r:=by simpa[netOf] using l
  have n:=hs r<|bc l;have w:∀m,m∈ .eY↔Nb s shut k m:=λm=>by
   rw[gP];constructor
   ·rintro⟨j,D,E⟩;obtain⟨h1,h2⟩:=bJ.mp D;have h2:j∉shut:=by simpa using h2
    have h1:.ec:=.cS
    have jl:.a7:=by rcases h1 with e|e<;>(subst e;first|exact n.1|exact n.2)
    obtain⟨q,F,G⟩:=(pJ (s:=s) jl).mp E;exact⟨j,r,q,l,F,h1,h2,by rcases G with e|e;exact .inl e.symm;exact .inr e.symm⟩
   ·rintro⟨j,A,q,h1,h2,g,p,t⟩;rw[l] at h1;cases h1;have jl:.a7:=by rcases g with e|e<;>(subst e;first|exact n.1|exact n.2)
    refine⟨j,bJ.mpr ⟨ .dj,by simpa using p⟩,(pJ (s:=s) jl).mpr ⟨q,h2,by rcases t with e|e;exact .inl e.symm;exact .inr e.symm⟩⟩
  have u:∀m,Nb s shut k m->m<b.size:=λm ⟨j,A,q,h1,h2,g⟩=>by rw[hb];exact(aB.mp h2).1
  have P:=pushes b .eY a b;have H:flood (netOf s) shut (f+1) (k::a) b=(let z:=(.eY).foldl .fg (a,b);flood (netOf s) shut f z.1 z.2):=by
   rw[flood,C];rfl
  rw[H];generalize (.eY).foldl .fg (a,b)=z at P ⊢
  obtain⟨p1,p2,p3,I,J,K,L,M⟩:=P;have N:=G0 hs shut f z.1 z.2 (p1.trans hb) (by rw[bB] at hf;omega) (λx c=>?_) (λx c=>?_) λx m c i d=>?_
  ·obtain⟨O,Q,R,S⟩:=N;exact⟨O,λx c=>Q x<|p3 x c,R,S⟩
  ·rcases K x c with e|e
   ·exact p3 x<|ht x<|aV _ e
   ·exact e
  ·rcases J x c with e|e
   ·exact hc x e
   ·obtain⟨j,A,q,h1,h2,g,p,t⟩:=(w x).mp e;exact .step v h1 h2 g p t
  ·rcases L x c with e|e
   ·by_cases B:x=k
    ·subst B;exact I m ((w m).mpr d)<|u m d
    ·exact p3 m (hn x m e (λz=>by
      rcases aH.mp z with z|z
      ·exact B z
      ·exact i (M x z)) d)
   ·exact absurd e i
theorem Ci(s:Sys)(j:Nat):((s.joints.map λ(x:Joint)=>x.kind).toArray).getD j 0=.aF:=by
 unfold jS;by_cases h:.a7
 ·simp[fI,h]
 ·simp[fI,h]
theorem wJ(s:Sys)(k:Nat):k∈(netOf s).first↔∃r,.cp/\(s.kind r.from_=5\/s.kind r.to_=5):=by
 show k∈((s.runs.zipIdx.filter λ(x:Run×Nat)=>((s.joints.map λ(x:Joint)=>x.kind).toArray).getD x.1.from_ 0 == 5||((s.joints.map λ(x:Joint)=>x.kind).toArray).getD x.1.to_ 0 == 5).map λ(x:Run×Nat)=>x.2)↔_;rw[b6];constructor
 ·rintro⟨⟨r,i⟩,h1,h2⟩;obtain⟨b,a⟩:=bJ.mp h1;have h2:i=k:=h2;subst h2;have c:=qA.mp b;refine⟨r,c,?_⟩;simp only[Ci] at a;simpa using a
 ·rintro⟨r,h1,h2⟩;refine⟨(r,k),bJ.mpr ⟨qA.mpr h1,?_⟩,rfl⟩;simp only[Ci];simpa using h2
theorem G8(s:Sys):(netOf s).first.Nodup:=by
 show((s.runs.zipIdx.filter _).map λ(x:Run×Nat)=>x.2).Nodup;refine Mv (Md _ lS) ?_;have:(s.runs.zipIdx.map λ(x:Run×Nat)=>x.2)=qG 0 s.runs.length:=by
  rw[List.zipIdx_eq_zip_range'];exact List.map_snd_zip<|by simp
 rw[this];exact List.nodup_range'
theorem OV(n:Nat):∀(l:.e) (b:Array Bool),l.Nodup->(∀k,k∈l->b[k]?=some false)->
  let z:=l.foldl (λ(b:Array Bool) (k:Nat)=>b.setIfInBounds k true) b
  z.size=b.size/\l.length+z.toList.count false=b.toList.count false/\∀k,z[k]?=.a9↔(k∈l\/b[k]?=.a9)
 |[],b,_,_=>.m
 |m::l,b,hn,hb=>by
  obtain⟨f,g⟩:=gu.mp hn;have c:=hb m bf;have a:m<b.size:=(oG.mp c).1;have d:∀k,(b.setIfInBounds m true)[k]?=if k=m then .a9 else b[k]?:=λk=>by
   rw[zu];by_cases e:m=k
   ·subst e;simp[a]
   ·rw[.bo,if_neg<|aF e]
  have i:=OV n l (b.setIfInBounds m true) g λk hk=>by
   rw[d,if_neg<|show ¬k=m from λe=>f<|e▸hk];exact hb k<|aV _ hk
  rw[jF];obtain⟨j,o,p⟩:=i;refine⟨by rw[j];simp,?_,λk=>?_⟩
  ·have q:(b.setIfInBounds m true).toList=b.toList.set m true:=.m
   have r:=count_set (l:=b.toList) (m:=m) .cC;rw[q] at o;rw[bB];omega
  ·rw[p,d];by_cases e:k=m
   ·subst e;simp
   ·rw[.bo,aH];exact⟨λh=>h.elim (λz=>.inl<|.inr z) .inr,λh=>h.elim (λz=>z.elim (λz=>absurd z e) .inl) .inr⟩
theorem oX{s:Sys}(hs:fN s)(shut:.e)(k:Nat):((netOf s).comes shut).getD k false=true↔iy s shut k:=by
 have hsz:(netOf s).runs.size=s.runs.length:=by simp[netOf]
 have S:=OV 0 (netOf s).first (zy (netOf s).runs.size false) (G8 s) λk hk=>by
  obtain⟨r,h1,_⟩:=(wJ s k).mp hk;have:=(aB.mp h1).1;rw[hsz,F7,if_pos this]
 have a:∀k,(zy (netOf s).runs.size false)[k]?≠ .a9:=λk=>by
  rw[F7];split<;>simp
 obtain⟨s1,f,d⟩:=S;have F:=G0 hs shut (netOf s).runs.size (netOf s).first ((netOf s).first.foldl (λ(b:Array Bool) (k:Nat)=>b.setIfInBounds k true) (zy (netOf s).runs.size false)) (by rw[s1];simp[hsz]) (by
   rw[f];simp) (λk hk=>(d k).mpr (.inl hk)) (λk hk=>by
   rcases (d k).mp hk with h|h
   ·obtain⟨r,h1,h2⟩:=(wJ s k).mp h;exact .src h1 h2
   ·exact absurd h (a k)) (λk m h1 h2=>by
   rcases (d k).mp h1 with h|h
   ·exact absurd h h2
   ·exact absurd h (a k))
 obtain⟨g,i,l,n⟩:=F;have e:((netOf s).comes shut).getD k false=true↔((netOf s).comes shut)[k]?=.a9:=by
  by_cases h:k<((netOf s).comes shut).size
  ·rw[jP h];simp[fI,h]
  ·simp[fI,h]
 rw[e];refine⟨l k,λc=>?_⟩;induction c with
 |src h1 h2=>exact i _<|(d _).mpr<|.inl<|(wJ s _).mpr ⟨_,h1,h2⟩
 |step _ h1 h2 h3 h4 h5 ih=>
  exact n _ _ (ih (by
   rename_i k m j r q _;have hk:k<((netOf s).comes shut).size:=by
    show k<(flood _ _ _ _ _).size;rw[g];exact(aB.mp h1).1
   rw[jP hk];simp[fI,hk])) ⟨_,_,_,h1,h2,h3,h4,h5⟩
open Classical in
theorem G9{s:Sys}(hs:fN s)(shut:.e):reachNow s shut=(a8 s.runs.length).filter λk=>decide (iy s shut k):=by
 unfold reachNow;refine yN λk _=>?_;by_cases c:iy s shut k
 ·rw[decide_eq_true c];exact(oX hs shut k).mpr c
 ·rw[decide_eq_false c];exact Bool.eq_false_iff.mpr λz=>c<|(oX hs shut k).mp z
theorem z6{s:Sys}{v:Nat}:v∈ .bn↔v<s.joints.length/\s.kind v=1:=by
 unfold valves;rw[bJ,dU];simp
theorem vh(s:Sys):(.bn).Nodup:=List.nodup_range.sublist lS
def Ha(s:Sys)(j k:Nat):Prop:=∃r,.cp/\.ec
def Kt(s:Sys)(pr:Nat->Nat×Nat):Prop:=∀v,v∈ .bn->∀k,Ha s v k↔k=(pr v).1\/k=(pr v).2
inductive Link(s:Sys)(shut:.e)(k:Nat):Nat->Prop
 |refl:Link s shut k k
 |step {m n:Nat}:Link s shut k m->Nb s shut m n->Link s shut k n
structure z7(s:Sys)(mk:.aJ):Prop where
 zero:∀k,.cd->(mk k=0↔iy s .bn k)
 same:∀k m,Nb s .bn k m->mk k=mk m
 link:∀k m,.cd->m<s.runs.length->mk k=mk m->mk k≠0->Link s .bn k m
theorem iy.nb{s:Sys}{shut:.e}{k m:Nat}(c:iy s shut k)(h:Nb s shut k m):iy s shut m:=by
 obtain⟨j,r,q,h1,h2,a,b,d⟩:=h;exact .step c h1 h2 a b d
theorem Nb.anti{s:Sys}{a b:.e}(h:∀x,x∈a->x∈b){k m:Nat}(c:Nb s b k m):Nb s a k m:=by
 obtain⟨j,r,q,h1,h2,d,e,f⟩:=c;exact⟨j,r,q,h1,h2,d,λz=>e<|h _ z,f⟩
theorem iy.link{s:Sys}{shut:.e}{k m:Nat}(c:iy s shut k)(h:Link s shut k m):iy s shut m:=by
 induction h with
 |refl=>exact c
 |step _ h ih=>exact ih.nb h
theorem Link.anti{s:Sys}{a b:.e}(h:∀x,x∈a->x∈b){k m:Nat}(c:Link s b k m):Link s a k m:=by
 induction c with
 |refl=>exact .refl
 |step _ h2 ih=>exact .step ih<|h2.anti h
section
variable{s:Sys}{mk:.aJ}{pr:Nat->Nat×Nat}
theorem MG(hs:fN s)(M:z7 s mk)(T:Kt s pr){S:.e}{k:Nat}(c:iy s S k):sO (((.bn).filter .bU).map .er) 0 (mk k):=by
 induction c with
 |src h1 h2=>
  rw[(M.zero _ (aB.mp h1).1).mpr<|.src h1 h2];exact .refl
 |@step k m j r q c h1 h2 h3 h4 h5 ih=>
  by_cases hv:j∈ .bn
  ·have a1:=(T j hv k).mp ⟨r,h1,h3⟩;have a2:=(T j hv m).mp ⟨q,h2,h5⟩;have mem:(mk (pr j).1,mk (pr j).2)∈((.bn).filter .bU).map .er:=b6.mpr ⟨j,bJ.mpr ⟨hv,by simpa using h4⟩,rfl⟩;rcases a1 with a|a<;>rcases a2 with b|b
   ·rw[b,<-a];exact ih
   ·rw[a] at ih;rw[b];exact ih.fwd mem
   ·rw[a] at ih;rw[b];exact ih.Xr mem
   ·rw[b,<-a];exact ih
  ·rw[<-M.same k m ⟨j,r,q,h1,h2,h3,hv,h5⟩];exact ih
theorem MH(hs:fN s)(M:z7 s mk)(T:Kt s pr){S:.e}(hS:∀x,x∈S->x∈ .bn){a:Int}(c:sO (((.bn).filter .bU).map .er) 0 a):
  ∀k,.cd->mk k=a->iy s S k:=by
 have zero:∀k,.cd->mk k=0->iy s S k:=λk hk h=>((M.zero k hk).mp h).anti hS;have over:∀v k m,v∈ .bn->v∉S->Ha s v k->Ha s v m->iy s S k->iy s S m:=λv k m _ p ⟨r,h1,t⟩ ⟨q,h2,u⟩ c=>.step c h1 h2 t p u;have f:∀k m,.cd->m<s.runs.length->mk k=mk m->iy s S k->iy s S m:=λk m hk o e c=>by
  by_cases z:mk k=0
  ·exact zero m o<|e▸z
  ·exact c.link<|(M.link k m hk o e z).anti hS
 have lt:∀v k,Ha s v k->.cd:=λv k ⟨r,h,_⟩=>(aB.mp h).1;induction c with
 |refl=>exact zero
 |fwd _ mem ih=>
  obtain⟨v,hv,e⟩:=b6.mp mem;obtain⟨b,d⟩:=bJ.mp hv;have d:v∉S:=by simpa using d
  have j:mk (pr v).1=_:=congrArg zY e;have l:mk (pr v).2=_:=congrArg zZ e;have g:Ha s v (pr v).1:=(T v b _).mpr<|.inl rfl;have i:Ha s v (pr v).2:=(T v b _).mpr<|.inr rfl;intro k hk n;exact f (pr v).2 k (lt v _ i) hk (l.trans n.symm)<|over v _ _ b d g i<|ih _ (lt v _ g) j
 |Xr _ mem ih=>
  obtain⟨v,hv,e⟩:=b6.mp mem;obtain⟨b,d⟩:=bJ.mp hv;have d:v∉S:=by simpa using d
  have j:mk (pr v).1=_:=congrArg zY e;have l:mk (pr v).2=_:=congrArg zZ e;have g:Ha s v (pr v).1:=(T v b _).mpr<|.inl rfl;have i:Ha s v (pr v).2:=(T v b _).mpr<|.inr rfl;intro k hk n;exact f (pr v).1 k (lt v _ g) hk (j.trans n.symm)<|over v _ _ b d i g<|ih _ (lt v _ i) l
theorem Hb(hs:fN s)(M:z7 s mk){p:Nat}(hp:p<s.runs.length)(h:mk p=0):fewest s p=none:=by
 unfold fewest;rw[Ew];intro n _;rw[yL];intro S hS a;obtain⟨h1,_⟩:=(ke n .bn S).mp hS;have c:iy s S p:=((M.zero p hp).mp h).anti λx b=>h1.subset b;rw[(oX hs S p).mpr c] at a;exact absurd a<|by decide
theorem OW(Sep:.e->Prop)(K:.e)(f:K.Nodup)(a:Sep []):∃m,mD Sep K m:=by
 have ex:∃m,.fx:=⟨K.length,K,f,λ_ h=>h,rfl,by
  have:(K.filter λx=>decide (x∉K))=[]:=yE.mpr λx g=>.dj
  rw[this];exact a⟩
 obtain⟨e,i⟩:=ex;have:∀n,(∃m,m<=n/\.fx)->∃m,mD Sep K m:=by
  intro n;induction n with
  |zero=>
   rintro⟨m,j,h⟩;have:m=0:=.h
   subst this;exact⟨0,h,λ_ _ _ _=>bj _⟩
  |succ n ih=>
   rintro⟨m,j,h⟩;by_cases c:∃S:.e,S.Nodup/\(∀v,v∈S->v∈K)/\S.length<m/\Sep (K.filter .bU)
   ·obtain⟨S,s1,b,k,d⟩:=c;exact ih ⟨S.length,.h,S,s1,b,rfl,d⟩
   ·exact⟨m,h,λS s1 b d=>kN λz=>c ⟨S,s1,b,z,d⟩⟩
 exact this e ⟨e,aG _,i⟩
open Classical in
noncomputable def gG {α:Type} (sd:Nat->α×α) (a b:α) (K:.e):Nat:=if h:∃m,mD (kY sd a b) K m then h.choose else 0
theorem OX{α:Type}{sd:Nat->α×α}{a b:α}(h:a≠b){K:.e}(c:K.Nodup):mD (kY sd a b) K (gG sd a b K):=by
 have ex:=OW (kY sd a b) K c<|kY.nil h;unfold gG;rw[dif_pos ex];exact ex.choose_spec
theorem OY{α:Type}{sd:Nat->α×α}{a b:α}{K:.e}{m:Nat}(h:mD (kY sd a b) K m):gG sd a b K=m:=by
 unfold gG;rw[dif_pos ⟨m,h⟩];exact mD.uniq (Exists.choose_spec (⟨m,h⟩:∃m,mD (kY sd a b) K m)) h
theorem Hc(hs:fN s)(M:z7 s mk)(T:Kt s pr){p:Nat}(hp:p<s.runs.length)(h:mk p≠0):
  fewest s p=some (greedy (gG .er 0<|mk p) .bn .bn<|gG .er 0 (mk p)<|valves s):=by
 unfold fewest;refine BF (Sep:=kY .er 0<|mk p) (λa l2=>kY.anti a l2) _ .bn (vh s) (λK b _=>OX (aF h) b) _ λS hS=>?_;constructor
 ·intro q c;have:=MH hs M T hS c p hp rfl;rw[(oX hs S p).mpr this] at q;exact absurd q<|by decide
 ·intro q;cases e:((netOf s).comes S).getD p false with
  |false=>rfl
  |true=>exact absurd (MG hs M T<|(oX hs S p).mp e) q
end
def sgn(p q:Int):Int:=
 if 0<=p/\0<=q then(if p=0/\q=0 then 0 else 1)
 else if p<=0/\q<=0 then -1
 else if 0<p then(if 2*q*q<p*p then 1 else -1)
 else(if p*p<2*q*q then 1 else -1)
theorem Jj(p q:Int):signOf (p:Rat) (q:Rat)=sgn p q:=by
 unfold signOf sgn;have a:(0:Rat)<=(p:Rat)↔0<=p:=.dw
 have b:(0:Rat)<=(q:Rat)↔0<=q:=.dw
 have c:(p:Rat)=0↔p=0:=.dw
 have d:(q:Rat)=0↔q=0:=.dw
 have e:(p:Rat)<=0↔p<=0:=.dw
 have f:(q:Rat)<=0↔q<=0:=.dw
 have g:(0:Rat)<(p:Rat)↔0<p:=.dw
 have h:2*(q:Rat)*(q:Rat)<(p:Rat)*(p:Rat)↔2*q*q<p*p:=.dw
 have i:(p:Rat)*(p:Rat)<2*(q:Rat)*(q:Rat)↔p*p<2*q*q:=.dw
 simp only[a,b,c,d,e,f,g,h,i]
theorem vi{a b:Int}(c:0<=a)(h:a<=b):a*a<=b*b:=Ft h h c<|Fu c h
theorem OZ{a b:Int}(c:0<=b)(h:a*a<=b*b):a<=b:=by
 refine Int.not_lt.mp λz=>?_;have:b*b<a*a:=Fs (Fv z) z c .h;omega
theorem sq_nonneg(a:Int):0<=a*a:=by
 by_cases h:0<=a
 ·exact kR h h
 ·have:=kR (a:=-a) (b:=-a) .h .h;rw[cq] at this;exact this
theorem mix{x y u v:Int}(d:0<=x)(e:0<=y)(a:0<=u)(hv:0<=v)(h1:x*x<=2*(u*u))(h2:y*y<=2*(v*v)):x*y<=2*(u*v):=by
 refine OZ (kR .O<|kR a hv) ?_;have h:=Ft h1 h2 (sq_nonneg y) (kR .O<|sq_nonneg u);have b:x*y*(x*y)=x*x*(y*y):=by
  rw[iq,iq,<-iq y x y,iV y x,iq x y y]
 have c:2*(u*v)*(2*(u*v))=2*(u*u)*(2*(v*v)):=by grind
 rw[b,c];exact h
theorem Wh{x y u v:Int}(a:0<=x)(b:0<=y)(f:0<=u)(hv:0<=v)(h1:2*(u*u)<x*x)(h2:2*(v*v)<y*y):2*(u*v)<x*y:=by
 refine zi.mp λz=>?_;have c:=vi (kR a b) z;have d:x*y*(x*y)=x*x*(y*y):=by
  rw[iq,iq,<-iq y x y,iV y x,iq x y y]
 have e:2*(u*v)*(2*(u*v))=2*(u*u)*(2*(v*v)):=by grind
 rw[d,e] at c;have g:2*(u*u)*(2*(v*v))<x*x*(y*y):=Fs (Fv h1) h2 (kR .O<|sq_nonneg v) (Int.lt_of_le_of_lt (kR .O<|sq_nonneg u) h1);omega
theorem O1:∀(n p q:Nat),p<=n->p*p=2*(q*q)->p=0
 |0,p,q,h,_=>.h
 |n+1,p,q,h,e=>by
  by_cases hp:p=0
  ·exact hp
  ·have f:p % 2=0:=by
    rcases Nat.mod_two_eq_zero_or_one p with h1|h1
    ·exact h1
    ·have:(p*p) % 2=1:=by rw[Nat.mul_mod,h1]
     omega
   obtain⟨r,a⟩:∃r,p=2*r:=⟨p / 2,.h⟩;subst a;have b:q*q=2*(r*r):=by
    have:2*r*(2*r)=4*(r*r):=by grind
    omega
   have lt:q<2*r:=by
    refine qM λz=>?_;have:=Fj z z;have c:0<r*r:=Nat.mul_pos .h .h;have:2*r*(2*r)=4*(r*r):=by grind
    omega
   have d:=O1 n q r .h b;subst d;have:r*r=0:=.h
   rcases Nat.mul_eq_zero.mp this with z|z<;>omega
theorem z8{p q:Int}(e:p*p=2*(q*q)):p=0/\q=0:=by
 have a:p.natAbs*p.natAbs=2*(q.natAbs*q.natAbs):=by
  have h1:=Fp p;have h2:=Fp q;have:((p.natAbs*p.natAbs:Nat):Int)=((2*(q.natAbs*q.natAbs):Nat):Int):=by
   push_cast;omega
  exact_mod_cast this
 have hp:=O1 _ _ _ (aG _) a;have b:p=0:=Int.natAbs_eq_zero.mp hp;subst b;refine⟨rfl,?_⟩;have:q*q=0:=.h
 rcases Int.mul_eq_zero.mp this with z|z<;>exact z
def Pos(p q:Int):Prop:=(0<=p/\0<=q/\(0<p\/0<q))\/(0<p/\q<0/\2*(q*q)<p*p)\/(p<0/\0<q/\p*p<2*(q*q))
theorem Pos.Jk{p q d f:Int}(a:Pos p q)(b:Pos d f):Pos (p+d) (q+f):=by
 have g:∀{p q d f:Int},Pos p q->(0<=d/\0<=f)->Pos (p+d) (q+f):=by
  rintro p q d f (⟨h1,h2,k⟩|⟨h1,h2,k⟩|⟨h1,h2,k⟩) ⟨n,o⟩
  ·exact .inl ⟨ .h,.h,.h⟩
  ·by_cases c:0<=q+f
   ·exact .inl ⟨ .h,c,.h⟩
   ·refine .inr (.inl ⟨ .h,.h,?_⟩);have h:=vi (a:=-(q+f)) (b:=-q) .h .h;have j:=vi (a:=p) (b:=p+d) .h .h;rw[cq,cq] at h;omega
  ·by_cases c:0<=p+d
   ·exact .inl ⟨c,.h,.h⟩
   ·refine .inr (.inr ⟨ .h,.h,?_⟩);have h:=vi (a:=-(p+d)) (b:=-p) .h .h;have j:=vi (a:=q) (b:=q+f) .h .h;rw[cq,cq] at h;omega
 have i:∀{p q d f:Int},(0<p/\q<0/\2*(q*q)<p*p)->(d<0/\0<f/\d*d<2*(f*f))->Pos (p+d) (q+f):=by
  rintro p q d f ⟨h1,h2,k⟩ ⟨n,o,l⟩;by_cases s:0<=p+d<;>by_cases t:0<=q+f
  ·refine .inl ⟨s,t,eJ λz=>?_⟩;have h:d= -p:=.h
   have j:f= -q:=.h
   subst h;subst j;rw[cq,cq] at l;omega
  ·by_cases r:0<p+d
   ·refine .inr (.inl ⟨r,.h,zi.mp λz=>?_⟩);have m:=mix (x:=-d) (y:=p+d) (u:=f) (v:=-(q+f)) .h .h .h .h (by rw[cq];omega) (by rw[cq];omega);have h:p*p=(p+d)*(p+d)+2*(-d*(p+d))+d*d:=by grind
    have j:2*(q*q)=2*((q+f)*(q+f))+4*(f * -(q+f))+2*(f*f):=by grind
    omega
   ·have e:d= -p:=.h
    subst e;rw[cq] at l;have:=vi (a:=f) (b:=-q) .h .h;rw[cq] at this;omega
  ·by_cases r:0<q+f
   ·refine .inr (.inr ⟨ .h,r,zi.mp λz=>?_⟩);have m:=Wh (x:=p) (y:=-(p+d)) (u:=-q) (v:=q+f) .h .h .h .h (by rw[cq];exact k) (by
     rw[cq];have ne:(p+d)*(p+d)≠2*((q+f)*(q+f)):=λe=>by
      have:=z8 (p:=p+d) (q:=q+f) e;omega
     omega)
    have h:d*d=(p+d)*(p+d)+2*(p * -(p+d))+p*p:=by grind
    have j:2*(f*f)=2*((q+f)*(q+f))+4*(-q*(q+f))+2*(q*q):=by grind
    omega
   ·have e:f= -q:=.h
    subst e;rw[cq] at l;have:=vi (a:=p) (b:=-d) .h .h;rw[cq] at this;omega
  ·exfalso;have h:=vi (a:=p) (b:=-d) .h .h;have j:=vi (a:=f) (b:=-q) .h .h;rw[cq] at h j;omega
 rcases a with a|a|a<;>rcases b with b|b|b
 ·exact g (.inl a) ⟨b.1,b.2.1⟩
 ·rw[ou p,ou q];exact g (.inr<|.inl b) ⟨a.1,a.2.1⟩
 ·rw[ou p,ou q];exact g (.inr<|.inr b) ⟨a.1,a.2.1⟩
 ·exact g (.inr<|.inl a) ⟨b.1,b.2.1⟩
 ·obtain⟨h1,h2,k⟩:=a;obtain⟨n,o,l⟩:=b;refine .inr (.inl ⟨ .h,.h,?_⟩);have m:=Wh (x:=p) (y:=d) (u:=-q) (v:=-f) .h .h .h .h (by rw[cq];exact k) (by rw[cq];exact l);rw[cq] at m;have h:(p+d)*(p+d)=p*p+2*(p*d)+d*d:=by grind
  have j:2*((q+f)*(q+f))=2*(q*q)+4*(q*f)+2*(f*f):=by grind
  omega
 ·exact i a b
 ·exact g (.inr<|.inr a) ⟨b.1,b.2.1⟩
 ·rw[ou p,ou q];exact i b a
 ·obtain⟨h1,h2,k⟩:=a;obtain⟨n,o,l⟩:=b;refine .inr (.inr ⟨ .h,.h,?_⟩);have m:=mix (x:=-p) (y:=-d) (u:=q) (v:=f) .h .h .h .h (by rw[cq];omega) (by rw[cq];omega);rw[cq] at m;have h:(p+d)*(p+d)=p*p+2*(p*d)+d*d:=by grind
  have j:2*((q+f)*(q+f))=2*(q*q)+4*(q*f)+2*(f*f):=by grind
  omega
theorem yj(p q:Int):(Pos p q/\sgn p q=1/\sgn (-p) (-q)= -1)\/(Pos (-p) (-q)/\sgn p q= -1/\sgn (-p) (-q)=1)\/(p=0/\q=0/\sgn p q=0):=by
 have a1:2*q*q=2*(q*q):=iq 2 q q;have a2:2 * -q * -q=2*(q*q):=by rw[iq,cq]
 by_cases z:p=0/\q=0
 ·refine .inr<|.inr ⟨z.1,z.2,?_⟩;obtain⟨rfl,rfl⟩:=z;rfl
 ·by_cases h1:0<=p/\0<=q
  ·refine .inl ⟨.inl ⟨h1.1,h1.2,.h⟩,?_,?_⟩
   ·unfold sgn;rw[if_pos h1,if_neg z]
   ·unfold sgn;rw[.aC,.bX]
  ·by_cases h2:p<=0/\q<=0
   ·refine .inr<|.inl ⟨.inl ⟨ .h,.h,.h⟩,?_,?_⟩
    ·unfold sgn;rw[if_neg h1,if_pos h2]
    ·unfold sgn;rw[.bX,.aC]
   ·have c:p*p≠2*(q*q):=λe=>z<|z8 e;by_cases b:0<p
    ·by_cases a:2*(q*q)<p*p
     ·refine .inl ⟨.inr<|.inl ⟨b,.h,a⟩,?_,?_⟩
      ·unfold sgn;rw[if_neg h1,if_neg h2,if_pos b,a1,if_pos a]
      ·unfold sgn;rw[.aC,.aC,.aC,a2,cq,.aC]
     ·refine .inr<|.inl ⟨.inr<|.inr ⟨ .h,.h,by rw[cq,cq];omega⟩,?_,?_⟩
      ·unfold sgn;rw[if_neg h1,if_neg h2,if_pos b,a1,if_neg a]
      ·unfold sgn;rw[.aC,.aC,.aC,a2,cq,.bX]
    ·by_cases a:p*p<2*(q*q)
     ·refine .inl ⟨.inr<|.inr ⟨ .h,.h,a⟩,?_,?_⟩
      ·unfold sgn;rw[if_neg h1,if_neg h2,if_neg b,a1,if_pos a]
      ·unfold sgn;rw[.aC,.aC,.bX,a2,cq,.aC]
     ·refine .inr<|.inl ⟨.inr<|.inl ⟨ .h,.h,by rw[cq,cq];omega⟩,?_,?_⟩
      ·unfold sgn;rw[if_neg h1,if_neg h2,if_neg b,a1,if_neg a]
      ·unfold sgn;rw[.aC,.aC,.bX,a2,cq,.bX]
theorem Tr{p q:Int}:sgn p q=1↔Pos p q:=by
 rcases yj p q with⟨h1,h2,a⟩|⟨h1,h2,a⟩|⟨h1,h2,a⟩
 ·exact⟨λ_=>h1,λ_=>h2⟩
 ·refine⟨λe=>.h,λc=>?_⟩;have:=Pos.Jk c h1;rw[Fq,Fq] at this;rcases this with⟨_,_,z⟩|⟨z,_⟩|⟨z,_⟩<;>omega
 ·subst h1;subst h2;refine⟨λe=>.h,λc=>?_⟩;rcases c with⟨_,_,z⟩|⟨z,_⟩|⟨z,_⟩<;>omega
theorem Ts(p q:Int):sgn (-p) (-q)= -sgn p q:=by
 rcases yj p q with⟨h1,h2,a⟩|⟨h1,h2,a⟩|⟨h1,h2,a⟩
 ·omega
 ·omega
 ·subst h1;subst h2;rfl
theorem O3{p q:Int}:sgn p q=0↔p=0/\q=0:=by
 rcases yj p q with⟨h1,h2,a⟩|⟨h1,h2,a⟩|⟨h1,h2,a⟩
 ·refine⟨λe=>.h,λz=>?_⟩;obtain⟨rfl,rfl⟩:=z;rfl
 ·refine⟨λe=>.h,λz=>?_⟩;obtain⟨rfl,rfl⟩:=z;rfl
 ·exact⟨λ_=>⟨h1,h2⟩,λ_=>a⟩
theorem oY(a b:Len):a.order b=sgn (a.p-b.p) (a.q-b.q):=Jj _ _
theorem iG(a b:Len):b.order a= -a.order b:=by
 rw[oY,oY,<-Ts];congr 1<;>omega
theorem iz{a b:Len}:a.order b=0↔a=b:=by
 rw[oY,O3];constructor
 ·rintro⟨h1,h2⟩;cases a;cases b;simp only[Len.mk.injEq] at *;omega
 ·rintro rfl;omega
theorem lO{a b:Len}:a.order b=1↔Pos (a.p-b.p) (a.q-b.q):=by rw[oY,Tr]
theorem kZ(a b:Len):a.order b=1\/a.order b=0\/a.order b= -1:=by
 rw[oY];rcases yj (a.p-b.p) (a.q-b.q) with⟨h1,h2,c⟩|⟨h1,h2,c⟩|⟨h1,h2,c⟩<;>omega
def jh(a b:Len):Prop:=a.order b<=0
instance (a b:Len):Decidable (jh a b):=inferInstanceAs<|Decidable<|a.order b<=0
theorem jh.refl(a:Len):jh a a:=by
 have:a.order a=0:=iz.mpr rfl;unfold jh;omega
theorem jh.total(a b:Len):jh a b\/jh b a:=by
 have:=iG a b;unfold jh;omega
theorem jh.antisymm{a b:Len}(h1:jh a b)(h2:jh b a):a=b:=by
 have:=iG a b;unfold jh at h1 h2;exact iz.mp<|by omega
theorem not_le{a b:Len}:¬jh a b↔a.order b=1:=by
 unfold jh;rcases kZ a b with h|h|h<;>omega
theorem lt_iff{a b:Len}:a.order b<0↔¬jh b a:=by
 have:=iG a b;unfold jh;omega
theorem jh.trans{a b c:Len}(h1:jh a b)(h2:jh b c):jh a c:=by
 refine eJ λz=>?_;have f:=lO.mp<|not_le.mp z;by_cases d:a=b
 ·subst d;exact z h2
 ·by_cases e:b=c
  ·subst e;exact z h1
  ·have p1:b.order a=1:=by
    have g:=iG a b;have:a.order b≠0:=λq=>d<|iz.mp q;unfold jh at h1;rcases kZ a b with h|h|h<;>omega
   have p2:c.order b=1:=by
    have g:=iG b c;have:b.order c≠0:=λq=>e<|iz.mp q;unfold jh at h2;rcases kZ b c with h|h|h<;>omega
   have q:=(lO.mp p1).Jk<|(lO.mp p2).Jk f;have i:b.p-a.p+(c.p-b.p+(a.p-c.p))=0:=.h
   have j:b.q-a.q+(c.q-b.q+(a.q-c.q))=0:=.h
   rw[i,j] at q;rcases q with⟨_,_,w⟩|⟨w,_⟩|⟨w,_⟩<;>omega
inductive Off(s:Sys)(shut:.e)(h:Len):Nat->Prop
 |out {j:Nat}:.a7->(.aF=4\/.aF=2)->j∉shut->jh .cv h->Off s shut h j
 |step {j m k:Nat} {r:Run}:Off s shut h m->.cp->r.across m=some j->j∉shut->jh .cv h->Off s shut h j
theorem Off.le{s:Sys}{shut:.e}{h:Len}{j:Nat}(o:Off s shut h j):jh .cv h:=by
 cases o with
 |out _ _ _ h=>exact h
 |step _ _ _ _ h=>exact h
theorem Off.mono{s:Sys}{shut:.e}{h h':Len}(le:jh h h'){j:Nat}(o:Off s shut h j):Off s shut h' j:=by
 induction o with
 |out h1 h2 h3 h4=>exact .out h1 h2 h3<|h4.trans le
 |step _ h1 h2 h3 h4 ih=>exact .step ih h1 h2 h3<|h4.trans le
theorem oZ{r:Run}{j m:Nat}(h:r.across j=some m):(r.from_=j/\r.to_=m)\/(r.to_=j/\r.from_=m):=by
 unfold zV at h;split at h
 ·rename_i e;exact .inl ⟨e,aI h⟩
 ·split at h
  ·rename_i e;exact .inr ⟨e,aI h⟩
  ·cases h
theorem Off.lt{s:Sys}(hs:fN s){shut:.e}{h:Len}{j:Nat}(o:Off s shut h j):.a7:=by
 cases o with
 |out h _ _ _=>exact h
 |step _ h1 h2 _ _=>
  have:=hs _<|bc h1;rcases oZ h2 with⟨_,e⟩|⟨_,e⟩
  ·rw[<-e];exact this.2
  ·rw[<-e];exact this.1
def vj(s:Sys)(shut:.e)(j:Nat):.bR->Prop
 |some x=>Off s shut x j/\∀h,Off s shut h j->jh x h
 |none=>∀h,¬Off s shut h j
theorem vj.uniq{s:Sys}{shut:.e}{j:Nat}{a b:.bR}(x:vj s shut j a)(y:vj s shut j b):a=b:=by
 cases a with
 |none=>
  cases b with
  |none=>rfl
  |some b=>exact absurd y.1<|x b
 |some a=>
  cases b with
  |none=>exact absurd x.1<|y a
  |some b=>exact congrArg some<|(x.2 b y.1).antisymm<|y.2 a x.1
theorem xE(a b:Len):jh a (higher a b):=by
 unfold higher;split
 ·rename_i h;unfold jh;omega
 ·exact jh.refl a
theorem vk(a b:Len):jh b (higher a b):=by
 unfold higher;split
 ·exact jh.refl b
 ·rename_i h;rw[lt_iff] at h;exact eJ λz=>h z
theorem MI{a b c:Len}(h1:jh a c)(h2:jh b c):jh (higher a b) c:=by
 unfold higher;split
 ·exact h2
 ·exact h1
theorem MJ{a b:Len}:higher a b=a\/higher a b=b:=by
 unfold higher;split
 ·exact .inr rfl
 ·exact .ar
theorem Jl(s:Sys)(j:Nat):(.e7).getD j ⟨0,0⟩=.cv:=by
 unfold u9;by_cases h:.a7
 ·simp[fI,h]
 ·simp[fI,h]
theorem Jm(s:Sys)(shut:.e){j:Nat}(h:.a7):(.eZ).getD j false=shut.contains j:=by
 simp[fI,h]
def rankOf(s:Sys):.bR->Nat
 |none=>s.joints.length
 |some x=>((a8 s.joints.length).filter λi=>decide (¬jh x .b1)).length
def ji(s:Sys)(l:List .bR):Nat:=(l.map<|rankOf s).sum
theorem filter_lt{p q:Nat->Bool}:∀{l:.e},(∀x,x∈l->p x=true->q x=true)->(∃x,x∈l/\q x=true/\p x=false)->(l.filter p).length<(l.filter q).length
 |[],_,⟨_,h,_⟩=>.b0
 |a::l,h,⟨x,h1,h2,h3⟩=>by
  have le:(l.filter p).length<=(l.filter q).length:=by
   have:∀d:.e,(∀x,x∈d->p x=true->q x=true)->(d.filter p).length<=(d.filter q).length:=by
    intro d;induction d with
    |nil=>intro _;exact aG _
    |cons b r g=>
     intro j;have i:=g λx f=>j x<|aV _ f;rw[lV,lV];by_cases c:p b=true
     ·rw[.au,if_pos<|j b bf c,bB,bB];omega
     ·rw[.ag];split
      ·rw[bB];omega
      ·exact i
   exact this l λx f=>h x<|aV _ f
  rw[lV,lV];rcases aH.mp h1 with e|e
  ·subst e;rw[if_neg (by rw[h3];decide),if_pos h2,bB];omega
  ·have g:=filter_lt (p:=p) (q:=q) (l:=l) (λx f=>h x<|aV _ f) ⟨x,e,h2,h3⟩;by_cases c:p a=true
   ·rw[.au,if_pos<|h a bf c,bB,bB];omega
   ·rw[.ag];split
    ·rw[bB];omega
    ·exact g
theorem Tt{s:Sys}{o:.bR}{i:Nat}(hi:.dW)(h:lower o (some<|s.height i)≠o):rankOf s (some<|s.height i)<rankOf s o:=by
 cases o with
 |none=>
  show _<s.joints.length;unfold rankOf;have:=filter_lt (p:=λj=>decide (¬jh .b1 .cv)) (q:=λ_=>true) (l:=a8 s.joints.length) (λ_ _ _=>rfl) ⟨i,dU.mpr hi,rfl,by simp[jh.refl]⟩;have e:((a8 s.joints.length).filter λ_=>true)=a8 s.joints.length:=List.filter_eq_self.mpr .aX;rw[e,kH] at this;exact this
 |some x=>
  have a:¬jh x .b1:=λz=>h<|if_pos z;refine filter_lt (λj _ b=>?_) ⟨i,dU.mpr hi,by simpa using a,by simp[jh.refl]⟩;have b:¬jh .b1 .cv:=of_decide_eq_true b;refine decide_eq_true λz=>?_;rcases jh.total .cv .b1 with t|t
  ·exact a<|z.trans t
  ·exact b t
theorem xG{s:Sys}{c:.bR}:∀{l:List .bR} {m:Nat} {o:.bR},l[m]?=.i->ji s (l.set m c)+rankOf s o=ji s l+rankOf s c
 |[],m,o,h=>.b0
 |a::l,0,o,h=>by
  have e:a=o:=.dR
  subst e;show((c::l).map<|rankOf s).sum+_=((a::l).map<|rankOf s).sum+_;rw[bP,bP,qF,qF];omega
 |a::l,m+1,o,h=>by
  have b:=xG (s:=s) (c:=c) (l:=l) (m:=m) (o:=o) .dR;unfold ji at b ⊢;rw[ur,bP,bP,qF,qF];omega
def z9(l:Array .bR)(j:Nat)(h:Len):Prop:=∃y,l[j]?=some .ao/\jh y h
def Done(s:Sys)(shut:.e)(l:Array .bR)(j k:Nat):Prop:=∀x r m,l[j]?=some .v->.cp->r.across j=some m->m∉shut->z9 l m (higher x<|s.height m)
structure Aa(s:Sys)(shut:.e)(l:Array .bR):Prop where
 size:l.size=s.joints.length
 sound:∀(j:Nat) x,l[j]?=some .v->Off s shut x j/\∃i,.dW/\.b1=x
 outs:∀j,.a7->(.aF=4\/.aF=2)->j∉shut->z9 l j .cv
def jU(s:Sys)(shut:.e)(j:Nat)(y:.e×Array .bR)(k:Nat):.e×Array .bR:=
 match (s.runs.toArray[k]?).bind λ(r:Run)=>r.across j,y.2.getD j none with
   |some m,some x=>if(.eZ).getD m false=true then y else
    let c:=higher x<|(.e7).getD m ⟨0,0⟩
    if lower (y.2.getD m none) (some c)=y.2.getD m none then y else(m::y.1,y.2.setIfInBounds m<|some c)
   |_,_=>y
theorem getD_none{l:Array .bR}{j:Nat}{x:Len}:l.getD j none=.v↔l[j]?=some .v:=by
 by_cases h:j<l.size
 ·rw[jP h];simp[fI,h]
 ·simp[fI,h]
theorem Ab{s:Sys}(hs:fN s){shut:.e}{j:Nat}:∀(ks:.e) (d:.e) (l:Array .bR),Aa s shut l->(∀f k,f∈d\/(f=j/\k∈ks)\/Done s shut l f k)->
  let z:=ks.foldl (jU s shut j) (d,l)
  .f6
 |[],d,l,I,hd=>⟨I,λf k=>by
   rcases hd f k with h|⟨_,h⟩|h
   ·exact .inl h
   ·simp at h
   ·exact .inr h,aG _⟩
 |k::ks,d,l,I,hd=>by
  rw[jF];have skip:Done s shut l j k->jU s shut j (d,l) k=(d,l)->let z:=ks.foldl (jU s shut j) (jU s shut j (d,l) k)
    .f6:=λM e=>by
   rw[e];refine Ab hs ks d l I λf E=>?_;rcases hd f E with h|⟨h1,h2⟩|h
   ·exact .inl h
   ·rcases aH.mp h2 with A|A
    ·subst h1;subst A;exact .inr<|.inr M
    ·exact .inr<|.inl ⟨h1,A⟩
   ·exact .inr<|.inr h
  have u:s.runs.toArray[k]?=s.runs[k]?:=.m
  cases p:s.runs[k]? with
  |none=>
   refine skip (λx r m _ h2=>by rw[p] at h2;cases h2) ?_;unfold jU;rw[u,p];rfl
  |some r=>
   cases v:r.across j with
   |none=>
    refine skip (λx C m _ h2 g=>by rw[p] at h2;cases h2;rw[v] at g;cases g) ?_;unfold jU;rw[u,p];simp only[jQ,v]
   |some m=>
    cases L:l.getD j none with
    |none=>
     refine skip (λx C F h1 h2 g=>?_) ?_
     ·rw[<-getD_none,L] at h1;cases h1
     ·unfold jU;rw[u,p];simp only[jQ,v,L]
    |some x=>
     have B:l[j]?=some .v:=getD_none.mp L;have W:=hs r<|bc p;have N:m<s.joints.length:=by
      rcases oZ v with⟨_,e⟩|⟨_,e⟩
      ·rw[<-e];exact W.2
      ·rw[<-e];exact W.1
     have O:jU s shut j (d,l) k=(if shut.contains m=true then(d,l) else if lower (l.getD m none) .eu=l.getD m none then(d,l) else(m::d,.dY)):=by
      unfold jU;rw[u,p];simp only[jQ,v,L,Jm s shut N,Jl]
     by_cases G:shut.contains m=true
     ·refine skip (λx' C F h1 h2 g H=>?_) (by rw[O,if_pos G]);rw[p] at h2;cases h2;rw[v] at g;cases g;exact absurd (by simpa using G) H
     ·have P:m∉shut:=by simpa using G
      by_cases n:lower (l.getD m none) .eu=l.getD m none
      ·refine skip (λx' C F h1 h2 g H=>?_) (by rw[O,if_neg G,if_pos n]);rw[p] at h2;cases h2;rw[v] at g;cases g;rw[B] at h1;cases h1;cases q:l.getD m none with
       |none=>rw[q] at n;cases n
       |some y=>
        rw[q] at n;refine⟨y,getD_none.mp q,?_⟩;unfold lower at n;dsimp only at n;split at n
        ·assumption
        ·have:=aI n;rw[this];exact jh.refl _
      ·rw[O,if_neg G,if_neg n];have w:m<l.size:=by rw[I.size];exact N
       have D:∀i:Nat,.dY[i]?=if i=m then some .eu else l[i]?:=λi=>by
        rw[zu];by_cases e:m=i
        ·subst e;simp[w]
        ·rw[.bo,if_neg<|aF e]
       obtain⟨ox,Y,Q,ex⟩:=I.sound j x B;have low:∀y,l[m]?=some .ao->jh (higher x<|s.height m) y:=λy q=>by
        have R:=getD_none.mpr q;rcases jh.total (higher x<|s.height m) y with t|t
        ·exact t
        ·refine absurd ?_ n;rw[R];exact if_pos t
       have X:∀i h,z9 l i h->z9 .dY i h:=λi h ⟨y,h1,h2⟩=>by
        by_cases e:i=m
        ·subst e;exact⟨_,by rw[D,.ah],(low y h1).trans h2⟩
        ·exact⟨y,by rw[D,.bo];exact h1,h2⟩
       have J:∃i,.dW/\.b1=higher x (s.height m):=by
        rcases MJ (a:=x) (b:=s.height m) with e|e
        ·exact⟨Y,Q,ex.trans e.symm⟩
        ·exact⟨m,N,e.symm⟩
       have Z:Aa s shut .dY:=by
        refine⟨by simpa using I.size,λi y q=>?_,λi h1 h2 g=>X _ _<|I.outs i h1 h2 g⟩;rw[D] at q;split at q
        ·rename_i e;subst e;have:higher x .b1=y:=by simpa using q
         subst this;exact⟨.step (ox.mono<|xE _ _) p v P<|vk _ _,J⟩
        ·exact I.sound i y q
       have ih:=Ab hs ks (m::d) .dY Z λf E=>by
        by_cases e:f=m
        ·exact .inl<|e▸bf
        ·have K:Done s shut l f E->Done s shut .dY f E:=λM x' C F h1 h2 g H=>by
          rw[D,.bo] at h1;exact X _ _<|M x' C F h1 h2 g H
         rcases hd f E with h|⟨h1,h2⟩|h
         ·exact .inl<|aV _ h
         ·rcases aH.mp h2 with A|A
          ·subst h1;subst A;refine .inr<|.inr λx' C F h1 h2 g H=>?_;rw[D,.bo,B] at h1;cases h1;rw[p] at h2;cases h2;rw[v] at g;cases g;exact⟨_,by rw[D,.ah],jh.refl _⟩
          ·exact .inr<|.inl ⟨h1,A⟩
         ·exact .inr<|.inr<|K h
       obtain⟨i1,i2,i3⟩:=ih;refine⟨i1,i2,bK i3 ?_⟩;have eT:(.dY).toList=l.toList.set m .eu:=.m
       obtain⟨o,S⟩:∃o,l[m]?=.i:=⟨_,jP w⟩;have T:l.getD m none=o:=by
        rw[jP w] at S;simpa[fI,w] using S
       have rs:=xG (s:=s) (c:=.eu) (l:=l.toList) (m:=m) (o:=o) (by simpa using S);obtain⟨i0,U,V⟩:=J;have rl:rankOf s .eu<rankOf s o:=by
        rw[T] at n;rw[<-V] at n ⊢;exact Tt U n
       rw[eT,bB];omega
theorem Ac{s:Sys}(hs:fN s){shut:.e}:∀(f:Nat) (a:.e) (l:Array .bR),Aa s shut l->(∀j k,j∈a\/Done s shut l j k)->a.length+ji s l.toList<=f->
  let z:=letDown s.runs.toArray s.atJoints .e7 .eZ f a l
  Aa s shut z/\∀j k,Done s shut z j k
 |0,a,l,I,hd,hf=>by
  have e:a=[]:=qB.mp .h;subst e;exact⟨I,λj k=>(hd j k).resolve_left<|by simp⟩
 |f+1,[],l,I,hd,hf=>⟨I,λj k=>(hd j k).resolve_left<|by simp⟩
 |f+1,j::a,l,I,hd,hf=>by
  have D:=Ab hs (shut:=shut) (j:=j) (s.atJoints.getD j []) a l I λb k=>by
   rcases hd b k with h|h
   ·rcases aH.mp h with e|e
    ·subst e;by_cases c:k∈s.atJoints.getD b []
     ·exact .inr<|.inl ⟨rfl,c⟩
     ·refine .inr<|.inr λx r m h1 h2 d _=>?_;have jl:b<s.joints.length:=by
       rw[<-I.size];exact(oG.mp h1).1
      refine absurd ((pJ jl).mpr ⟨r,h2,?_⟩) c;rcases oZ d with⟨e,_⟩|⟨e,_⟩
      ·exact .inl e
      ·exact .inr e
    ·exact .inl e
   ·exact .inr<|.inr h
  obtain⟨g,i,o⟩:=D;have n:=Ac hs (shut:=shut) f _ _ g i (by rw[bB] at hf;omega);exact n
theorem MK(s:Sys)(o:.bR):rankOf s o<=s.joints.length:=by
 cases o with
 |none=>exact aG _
 |some x=>
  have:=ft (λi=>decide (¬jh x .b1))<|a8 s.joints.length;simpa[rankOf] using this
theorem Ad(s:Sys):∀l:List .bR,ji s l<=l.length*s.joints.length
 |[]=>by simp[ji]
 |a::l=>by
  have b:=Ad s l;have h:=MK s a;unfold ji at b ⊢;rw[bP,qF,bB,Fk];omega
theorem Cj{s:Sys}(hs:fN s)(shut:.e):(s.levels shut).length=s.joints.length/\∀j,.a7->vj s shut j ((s.levels shut).getD j none):=by
 unfold Sys.levels;dsimp only;generalize g:.fV=fi
 have i:fi.length=s.joints.length:=by rw[<-g];simp
 have l:∀j (x:Len),fi[j]?=some .v↔ .a7/\(.aF=4\/.aF=2)/\j∉shut/\.cv=x:=λj x=>by
  rw[<-g];by_cases h:.a7
  ·rw[b8,EE,bo h];have q:.aF=s.joints[j].kind:=by simp[jS,h]
   have t:.cv=s.joints[j].at_.z:=by simp[u9,h]
   simp only[i9,kO,q,t];split
   ·rename_i c;simp at c;constructor
    ·intro e;exact⟨h,c.1,c.2,.dS⟩
    ·rintro⟨_,_,_,e⟩;simp[e]
   ·rename_i c;simp at c;constructor
    ·intro e;simp at e
    ·rintro⟨_,h1,h2,_⟩;exact absurd (c h1)<|by simpa using h2
  ·have:.fV[j]?=none:=by
    rw[kG];simp;omega
   rw[this];exact⟨λe=>(by cases e),λe=>absurd e.1 h⟩
 have u:Aa s shut fi.toArray:=⟨by simpa using i,λj x h=>by
   obtain⟨h1,h2,d,f⟩:=(l j x).mp .dR;exact⟨.out h1 h2 d (by rw[f];exact jh.refl _),j,h1,f⟩,λj h1 h2 d=>⟨ .cv,by simpa using (l j _).mpr ⟨h1,h2,d,rfl⟩,jh.refl _⟩⟩
 have L:=Ac hs (shut:=shut) (s.joints.length*s.joints.length+s.joints.length+1) .fk fi.toArray u (λj k=>by
   cases e:fi[j]? with
   |none=>
    refine .inr λx r m h1=>?_;have:fi[j]?=some .v:=.cS
    rw[e] at this;cases this
   |some o=>
    cases o with
    |none=>
     refine .inr λx r m h1=>?_;have:fi[j]?=some .v:=.cS
     rw[e] at this;cases this
    |some x=>
     refine .inl (b6.mpr ⟨(.v,j),bJ.mpr ⟨qA.mpr e,rfl⟩,rfl⟩)) (by
   have h1:=Ad s fi;have h2:(.fk).length<=fi.length:=by
    rw[au];exact bK (ft _ _)<|by simp
   rw[i] at h1 h2;show _+ji s fi<=_;omega)
 generalize letDown s.runs.toArray s.atJoints .e7 .eZ (s.joints.length*s.joints.length+s.joints.length+1)
  .fk fi.toArray=z at L ⊢
 obtain⟨I,D⟩:=L;have all:∀h j,Off s shut h j->z9 z j h:=λh j o=>by
  induction o with
  |out h1 h2 d f=>
   obtain⟨y,a,n⟩:=I.outs _ h1 h2 d;exact⟨y,a,n.trans f⟩
  |step om h1 h2 d f ih=>
   obtain⟨x,x1,x2⟩:=ih;obtain⟨y,a,n⟩:=D _ _ x _ _ x1 h1 h2 d;exact⟨y,a,n.trans<|MI x2 f⟩
 refine⟨by simpa using I.size,λj v=>?_⟩;have p:j<z.size:=by rw[I.size];exact v
 have w:z.toList.getD j none=z[j]:=by simp[cM,p]
 have b:z[j]?=some z[j]:=jP p;rw[w];cases e:z[j] with
 |none=>
  intro h o;obtain⟨y,a,_⟩:=all h j o;rw[b,e] at a;cases a
 |some x=>
  rw[e] at b;refine⟨(I.sound j x b).1,λh o=>?_⟩;obtain⟨y,a,n⟩:=all h j o;rw[b] at a;cases a;exact n
def fJ(sd:.c6)(kept:.e):.bM:=kept.flatMap λv=>[((sd v).1,(sd v).2),((sd v).2,(sd v).1)]
theorem gK(sd:.c6):∀kept:.e,(.cF).length=.bO
 |[]=>rfl
 |v::l=>by
  have a:=gK sd l;unfold fJ at a ⊢;rw[uv,bS,a];simp only[bB,og];omega
theorem tq(sd:.c6):∀(kept:.e) (p:Nat),p<.bO->.cF[p]?=some (OT sd kept p,toP sd kept p)
 |[],p,h=>absurd h<|ig _
 |v::l,0,h=>by simp[fJ,OT,toP]
 |v::l,1,h=>by simp[fJ,OT,toP]
 |v::l,p+2,h=>by
  have a:=tq sd l p (by rw[bB] at h;omega);have b:(fJ sd (v::l))[p+2]?=(fJ sd l)[p]?:=by
   unfold fJ;rw[uv];rfl
  rw[b,a];unfold OT toP;rw[show (p+2) % 2=p % 2 by omega,show(p+2) / 2=p / 2+1 by omega];simp
section
variable(ps:.bM)(rm:.aJ)
structure ML(found:.ak)(by_:.db):Prop where
 head:found[0]?=some 0
 zero:by_ 0=.am
 keys:∀a,(by_ a).isSome=true↔a∈found
 nd:found.Nodup
 came:∀(j:Nat) a,found[j]?=some a->0<j->∃(p i:Nat) (f:Int),by_ a=some (some p)/\ps[p]?=some (f,a)/\0<rm p/\found[i]?=some f/\i<j
def Shut(found:.ak)(i:Nat)(b:Nat):Prop:=∀(a t:Int) (p:Nat),p<b->found[i]?=some a->ps[p]?=some (a,t)->0<rm p->t∈found
variable{ps rm}
variable{found:.ak}{by_:.db}
theorem ML.start:ML ps rm [0] (λa=>if a=0 then .am else none):=by
 refine⟨rfl,rfl,λa=>?_,.m,λj a h b=>?_⟩
 ·by_cases c:a=0<;>simp[c]
 ·rw[aB] at h;obtain⟨h1,_⟩:=h;simp at h1;omega
theorem ML.more(B:ML ps rm found by_){i p:Nat}{f t:Int}(b:found[i]?=some f)(hp:ps[p]?=some (f,t))(k:0<rm p)(ht:t∉found):ML ps rm (found++[t]) (λa=>if a=t then some (some p) else by_ a):=by
 have d:i<found.length:=(aB.mp b).1;have l:t≠0:=λz=>ht<|z▸bc B.head;refine⟨?_,?_,λa=>?_,?_,λj a h m=>?_⟩
 ·rw[bN<|by omega];exact B.head
 ·show(if(0:Int)=t then _ else _)=_
  rw[if_neg<|aF l];exact B.zero
 ·show(if a=t then some (some p) else by_ a).isSome=true↔_
  by_cases c:a=t
  ·subst c;simp
  ·rw[.ag,B.keys,bZ];simp[c]
 ·rw[n6];exact⟨B.nd,.m,λx n y g=>by simp at g;subst g;intro z;subst z;exact ht n⟩
 ·by_cases c:j<found.length
  ·rw[bN c] at h;obtain⟨o,q,r,h1,h2,s,u,v⟩:=B.came j a h m;have at_:a≠t:=λz=>ht<|z▸bc h;exact⟨o,q,r,by show(if a=t then _ else _)=_;rw[if_neg at_];exact h1,h2,s,by rw[bN<|by omega];exact u,v⟩
  ·have w:j=found.length:=by
    have:=(aB.mp h).1;simp at this;omega
   subst w;have e:a=t:=by simpa using h.symm
   subst e;exact⟨p,i,f,.ah,hp,k,by rw[bN d];exact b,d⟩
theorem Shut.more{i n:Nat}(S:Shut ps rm found i n){l:.ak}(hi:i<found.length):Shut ps rm (found++l) i n:=λa t p h1 h2 b c=>by
 rw[bN hi] at h2;exact dF _<|S a t p h1 h2 b c
theorem ML.len(B:ML ps rm found by_):found.length<=ps.length+1:=by
 have h:∀a,a∈found->a∈(0::ps.map (·.2)):=λa d=>by
  obtain⟨j,e⟩:=fh d;by_cases c:0<j
  ·obtain⟨p,i,f,_,h2,_⟩:=B.came j a e c;exact aV _<|b6.mpr ⟨(f,a),bc h2,rfl⟩
  ·have:j=0:=.h
   subst this;rw[B.head] at e;cases e;exact bf
 have:∀(l m:.ak),l.Nodup->(∀a,a∈l->a∈m)->l.length<=m.length:=by
  intro l;induction l with
  |nil=>intro m _ _;exact bj _
  |cons a r ih=>
   intro m n g;obtain⟨o,q⟩:=gu.mp n;have d:=g a bf;have:=ih (m.erase a) q λb k=>(yG<|show b≠a from λz=>o<|z▸k).mpr<|g b<|aV _ k;rw[yD d] at this;have:=Ey d;rw[bB];omega
 have:=this _ _ B.nd h;simpa using this
inductive Part(ps:.bM)(t:Int):.e->Int->Prop
 |nil:Part ps t [] t
 |snoc {w:.e} {f a:Int} {p:Nat}:Part ps t w a->ps[p]?=some (f,a)->Part ps t (w++[p]) f
structure Ae(ps:.bM)(rm:.aJ)(found:.ak)(t:Int)(w:.e)(a:Int)(j:Nat):Prop where
 part:Part ps t w a
 at_:found[j]?=some a
 nd:w.Nodup
 rooms:∀p,p∈w->0<rm p
 ahead:∀p,p∈w->∃(f b:Int) (i:Nat),ps[p]?=some (f,b)/\found[i]?=some b/\j<i
theorem ML.back(B:ML ps rm found by_){t a:Int}{w:.e}{j p:Nat}(K:Ae ps rm found t w a j)(h:by_ a=some (some p)):∃(f:Int) (i:Nat),ps[p]?=some (f,a)/\i<j/\Ae ps rm found t (w++[p]) f i/\∃r,by_ f=some r:=by
 have s:0<j:=by
  refine Nat.pos_of_ne_zero λz=>?_;subst z;have e:=B.head;rw[K.at_] at e;cases e;rw[B.zero] at h;cases h
 obtain⟨G,i,f,h1,h2,u,k,l⟩:=B.came j a K.at_ s;rw[h] at h1;cases h1;refine⟨f,i,h2,l,⟨.snoc K.part h2,k,?_,λq d=>?_,λq d=>?_⟩,?_⟩
 ·rw[n6];refine⟨K.nd,.m,λx v y m=>?_⟩;simp at m;subst m;intro z;subst z;obtain⟨n,b,o,c,g,A⟩:=K.ahead x v;rw[h2] at c;cases c;have C:=(aB.mp K.at_);have D:=(aB.mp g);obtain⟨H,E⟩:=C;obtain⟨l2,F⟩:=D;have:=(oa B.nd).mp<|E.trans F.symm;omega
 ·rcases bZ.mp d with z|z
  ·exact K.rooms q z
  ·simp at z;subst z;exact u
 ·rcases bZ.mp d with z|z
  ·obtain⟨n,b,o,c,g,A⟩:=K.ahead q z;exact⟨n,b,o,c,g,.h⟩
  ·simp at z;subst z;exact⟨f,a,j,h2,K.at_,l⟩
 ·have:=(B.keys f).mpr<|bc k;exact uR.mp this
theorem ML.end_(B:ML ps rm found by_){t a:Int}{w:.e}{j:Nat}(K:Ae ps rm found t w a j)(h:by_ a=.am):a=0:=by
 by_cases c:0<j
 ·obtain⟨b,i,f,h1,_⟩:=B.came j a K.at_ c;rw[h] at h1;cases h1
 ·have:j=0:=.h
  subst this;have e:=K.at_;rw[B.head] at e;cases e;rfl
end
def Af(ps:.bM)(rm:.aJ)(t:Int)(a:.e):Prop:=
 (a=[]/\∃A:Int->Prop,A 0/\¬A t/\∀(p:Nat) (f u:Int),ps[p]?=some (f,u)->0<rm p->A f->A u)\/(a≠[]/\Part ps t a 0/\a.Nodup/\∀p,p∈a->0<rm p)
theorem Part.back{sd:.c6}{kept:.e}{t:Int}{w:.e}{a:Int}(P:Part .cF t w a):∀{w':.e},Back sd 0 kept a w'->Back sd 0 kept t (w++w'):=by
 induction P with
 |nil=>intro w' b;exact b
 |@snoc w f a p P hp ih=>
  intro w' b;have lt:p<.bO:=by
   have:=(aB.mp hp).1;rwa[gK] at this
  rw[tq sd kept p lt] at hp;have e:=aI hp;have c:OT sd kept p=f:=congrArg zY e;have d:toP sd kept p=a:=congrArg zZ e;rw[iR];refine ih ?_;rw[<-d];refine .cons lt ?_;rw[c];exact b
theorem Af.more{sd:.c6}{kept:.e}{t:Int}{rm:.aJ}{ways:Nat}{a:.e}(F:gi sd 0 t kept rm ways)(W:Af .cF rm t a)(h:a≠[]):gi sd 0 t kept (a.foldl through rm) (ways+1)/\∀p,p∈a->p<.bO:=by
 rcases W with⟨e,_⟩|⟨_,P,c,d⟩
 ·exact absurd e h
 ·have b:=P.back (w':=[]) .nil;rw[dR] at b;refine⟨F.more b c d,?_⟩;have:∀{u:Int} {l:.e},Back sd 0 kept u l->∀p,p∈l->p<.bO:=by
   intro u l b;induction b with
   |nil=>intro p hp;simp at hp
   |cons h1 _ ih=>
    intro p hp;rcases aH.mp hp with z|z
    ·subst z;exact h1
    ·exact ih p z
  exact this b
theorem Af.done{sd:.c6}{kept:.e}{t:Int}{rm:.aJ}{ways:Nat}(F:gi sd 0 t kept rm ways)(W:Af .cF rm t [])(hk:kept.Nodup):mD (kY sd 0 t) kept ways:=by
 rcases W with⟨_,A,h1,h2,a⟩|⟨z,_⟩
 ·exact F.least hk A h1 h2 λp hp b c=>a p _ _ (tq sd kept p hp) b c
 ·exact absurd rfl z
theorem gi.congr{α:Type}{sd:Nat->α×α}{s t:α}{kept:.e}{rm a:.aJ}{ways:Nat}(F:gi sd s t kept rm ways)(h:∀p,p<.bO->rm p=a p):gi sd s t kept a ways:=by
 refine⟨λp hp=>by rw[<-h p hp];exact F.pos p hp,λi hi=>by rw[<-h _ .h,<-h _ .h];exact F.pair i hi,λχ=>?_⟩;rw[<-F.bal χ];unfold mE;exact mZ _ λi hi=>by rw[h (2*i)<|by omega]
def thr(rm:.ak)(p:Nat):.ak:=(rm.set p<|rm.getD p 0-1).set (twin p)<|(rm.set p<|rm.getD p 0-1).getD (twin p) 0+1
theorem Tv(rm:.ak)(p:Nat):(thr rm p).length=rm.length:=by simp[thr]
theorem Ag{l:.ak}{i j:Nat}{v:Int}(h:i<l.length):(l.set i v).getD j 0=if j=i then v else l.getD j 0:=by
 by_cases c:j=i
 ·subst c;simp[cM,h]
 ·rw[.ag];simp[cM,fQ<|aF c]
theorem Tw{rm:.ak}{p q:Nat}(hp:p<rm.length)(ht:twin p<rm.length):(thr rm p).getD q 0=through (λx=>rm.getD x 0) p q:=by
 unfold thr through;rw[Ag<|by simpa using ht,Ag hp,Ag hp,if_neg<|Kr p];by_cases c:q=twin p
 ·rw[.au,.au,c]
 ·rw[.ag,.ag];by_cases d:q=p
  ·rw[if_pos d,if_pos d,d]
  ·rw[if_neg d,if_neg d]
theorem BG{f g:.aJ}{n p:Nat}(h:∀q,q<n->f q=g q):∀q,q<n->through f p q=through g p q:=λq a=>by
 unfold through;rw[h q a]
theorem Ah{k:Nat}:∀(b:.e) (rm:.ak),rm.length=2*k->(∀p,p∈b->p<2*k)->(b.foldl thr rm).length=2*k/\∀q,q<2*k->(b.foldl thr rm).getD q 0=(b.foldl through λx=>rm.getD x 0) q
 |[],rm,h,_=>⟨h,λq _=>rfl⟩
 |p::b,rm,h,hp=>by
  have e:=hp p bf;have ht:=Kq e;obtain⟨j,m⟩:=Ah b (thr rm p) (by rw[Tv,h]) λq d=>hp q<|aV _ d;refine⟨j,λq d=>?_⟩;rw[jF,jF,m q d];have:∀(l:.e) (f g:.aJ),(∀x,x<2*k->f x=g x)->∀x,x<2*k->(l.foldl through f) x=(l.foldl through g) x:=by
   intro l;induction l with
   |nil=>intro f g c;exact c
   |cons a r ih=>intro f g c x i;exact ih _ _ (BG c) x i
  exact this b _ _ (λx i=>Tw .h<|by omega) q d
theorem Hd(sd:.c6)(l:.e)(v:Nat):fJ sd (l++[v])=fJ sd l++[((sd v).1,(sd v).2)]++[((sd v).2,(sd v).1)]:=by
 unfold fJ;rw[nZ];simp
def endsAt(s:Sys)(j:Nat):.e:=s.runs.zipIdx.flatMap λ(x:Run×Nat)=>(if x.1.from_=j then [x.2] else [])++(if x.1.to_=j then [x.2] else [])
theorem dq{s:Sys}{j k:Nat}:k∈ .bT↔Ha s j k:=by
 unfold endsAt Ha;rw[gP];constructor
 ·rintro⟨⟨r,i⟩,h,e⟩;have hi:s.runs[i]?=some r:=by
   have:=qA.mp h;simpa using this
  rw[bZ] at e;rcases e with e|e
  ·split at e
   ·have:k=i:=.dS
    subst this;exact⟨r,hi,.inl (by assumption |> Eq.symm)⟩
   ·simp at e
  ·split at e
   ·have:k=i:=.dS
    subst this;exact⟨r,hi,.inr (by assumption |> Eq.symm)⟩
   ·simp at e
 ·rintro⟨r,h,e⟩;refine⟨(r,k),qA.mpr<|by simpa using h,?_⟩;rw[bZ];rcases e with e|e
  ·left;rw[if_pos e.symm];simp
  ·right;rw[if_pos e.symm];simp
theorem Ai(j x:Nat):∀(l:List Run) (o:Nat),.fX<=2/\
  (x<o->.fX=0)
 |[],o=>.m
 |r::l,o=>by
  obtain⟨h1,h2⟩:=Ai j x l<|o+1;rw[qE,uv,EQ,EQ];have a:(if r.from_=j then [o] else []).count x<=1/\(x≠o->(if r.from_=j then [o] else []).count x=0):=by
   split
   ·by_cases c:x=o
    ·subst c;simp
    ·simp[uz,aF c]
   ·simp
  have b:(if r.to_=j then [o] else []).count x<=1/\(x≠o->(if r.to_=j then [o] else []).count x=0):=by
   split
   ·by_cases c:x=o
    ·subst c;simp
    ·simp[uz,aF c]
   ·simp
  refine⟨?_,λd=>?_⟩
  ·by_cases c:x=o
   ·have:=h2 .h;have:=a.1;have:=b.1;simp only[] at *;omega
   ·have:=a.2 c;have:=b.2 c;simp only[] at *;omega
  ·have:=h2 .h;have:=a.2 .h;have:=b.2 .h;simp only[] at *;omega
theorem vm(s:Sys)(j x:Nat):(.bT).count x<=2:=(Ai j x s.runs 0).1
theorem Dk:∀(S l:.e),(∀x,x∈l->x∈S)->(∀x,l.count x<=2)->l.length<=2*S.length
 |[],l,h,_=>by
  cases l with
  |nil=>simp
  |cons a r=>exact absurd (h a bf)<|by simp
 |a::S,l,h,c=>by
  have f:=Dk S (l.filter λx=>decide (x≠a)) (λx g=>by
   obtain⟨h1,h2⟩:=bJ.mp g;rcases aH.mp (h x h1) with z|z
   ·simp[z] at h2
   ·exact z) (λx=>bK (Gs x lS) (c x))
  have e:l.length=l.count a+(l.filter λx=>decide (x≠a)).length:=by
   clear f h c;induction l with
   |nil=>rfl
   |cons b r f=>
    by_cases d:b=a
    ·subst d;simp[uz];simp at f;omega
    ·simp[uz,d];simp at f;omega
  have:=c a;rw[bB];omega
def eS(mk:Int)(l:.e)(m:.as):.as:=l.foldl (λm q=>m.set q<|some mk) m
theorem vo(mk:Int)(l:.e)(q:Nat)(m:.as):eS mk (l++[q]) m=(eS mk l m).set q (some mk):=by
 unfold eS;rw[yO];rfl
theorem ju(mk:Int):∀(l:.e) (m:.as),(eS mk l m).length=m.length
 |[],m=>rfl
 |q::r,m=>by
  show(eS mk r<|m.set q<|some mk).length=_;rw[ju mk r,fz]
theorem fm(mk:Int):∀(l:.e) (m:.as) (k:Nat),k<m.length->(eS mk l m)[k]?=if k∈l then some (some mk) else m[k]?
 |[],m,k,_=>by simp[eS]
 |q::r,m,k,hk=>by
  show(eS mk r<|m.set q<|some mk)[k]?=_;rw[fm mk r _ k (by rw[fz];exact hk)];by_cases c:k∈r
  ·rw[.au,if_pos<|aV _ c]
  ·rw[.ag];by_cases d:k=q
   ·subst d;rw[if_pos bf,gI hk]
   ·rw[if_neg λz=>(aH.mp z).elim d c,fQ<|aF d]
def g6(m:.as):Nat:=m.countP λx=>x.isNone
theorem sy:∀{m:.as} {q:Nat} {a:Int},(m[q]?=.am->g6 (m.set q<|some a)+1=g6 m)/\(m[q]?≠ .am->g6 (m.set q<|some a)=g6 m)
 |[],q,a=>by simp[g6]
 |x::m,0,a=>by
  cases x<;>simp[g6]
 |x::m,q+1,a=>by
  have b:=sy (m:=m) (q:=q) (a:=a);unfold g6 at b ⊢;rw[List.getElem?_cons_succ,ur,ES,ES];refine⟨λh=>?_,λh=>?_⟩
  ·have:=b.1 h;omega
  ·have:=b.2 h;omega
theorem tx(mk:Int):∀(l:.e) (m:.as),∃S:.e,(∀x,x∈l->m[x]?=.am->x∈S)/\S.length+g6 (eS mk l m)=g6 m
 |[],m=>⟨[],.m,by simp[eS]⟩
 |q::r,m=>by
  obtain⟨S,h1,h2⟩:=tx mk r<|m.set q<|some mk;by_cases c:m[q]?=.am
  ·refine⟨q::S,λx e b=>?_,?_⟩
   ·by_cases d:x=q
    ·rw[d];exact bf
    ·refine aV _<|h1 x ((aH.mp e).resolve_left d) ?_;rw[fQ<|aF d];exact b
   ·have:=(sy (a:=mk)).1 c;rw[bB];show S.length+1+g6 (eS mk r<|m.set q<|some mk)=_;omega
  ·refine⟨S,λx e b=>?_,?_⟩
   ·have d:x≠q:=λz=>c<|z▸b;refine h1 x ((aH.mp e).resolve_left d) ?_;rw[fQ<|aF d];exact b
   ·have:=(sy (a:=mk)).2 c;show S.length+g6 (eS mk r<|m.set q<|some mk)=_;omega
theorem Ck(mk:Int){s:Sys}{j:Nat}{m:.as}:(.d0).length+2*g6 (eS mk .d0 m)<=2*g6 m:=by
 obtain⟨S,h1,h2⟩:=tx mk .d0 m;have:=Dk S .d0 (λx a=>h1 x a<|by simpa using (bJ.mp a).2) λx=>bK (Gs x lS)<|vm s j x;omega
structure Fl(s:Sys)(shut first:.e)(mk:Int)(m0 m:.as)(found:.e)(done:Nat):Prop where
 len:m.length=m0.length
 len0:m0.length=s.runs.length
 keep:∀(k:Nat) (a:Int),m0[k]?=.bP->m[k]?=.bP
 new:∀(k:Nat) (a:Int),m0[k]?=.am->m[k]?=.bP->a=mk/\k∈found
 link:∀k:Nat,k∈found->∃f,f∈first/\Link s shut f k
 fnd:∀k:Nat,k∈found->m0[k]?=.am/\m[k]?=some (some mk)
 fst:∀k:Nat,k∈first->k∈found
 dl:done<=found.length
 O4:∀i k q:Nat,i<done->found[i]?=some k->Nb s shut k q->m[q]?≠ .am
 cnt:found.length+2*g6 m<=first.length+2*g6 m0
theorem O7(m:.as):g6 m<=m.length:=List.countP_le_length
theorem pK{mk:Int}{l:.e}{m:.as}{q:Nat}(h:m[q]?≠ .am):(eS mk l m)[q]?≠ .am:=by
 by_cases c:q<m.length
 ·rw[fm mk l m q c];split
  ·simp
  ·exact h
 ·rw[fu (by rw[ju];omega)];simp
theorem Fl.start{s:Sys}{shut first:.e}{mk:Int}{b:.as}(c:b.length=s.runs.length)(h:∀k,k∈first->b[k]?=.am):Fl s shut first mk b (eS mk first b) first 0:=by
 have lt:∀{k:Nat} {x:.ab},b[k]?=.v->k<b.length:=λe=>(aB.mp e).1;refine⟨ju _ _ _,c,λk a e=>?_,λk a f d=>?_,λk hk=>⟨k,hk,.refl⟩,λk hk=>⟨h k hk,?_⟩,λk hk=>hk,bj _,λi k q hi=>absurd hi<|ig _,?_⟩
 ·rw[fm mk first b k (lt e),if_neg]
  ·exact e
  ·intro z;have:=h k z;rw[e] at this;cases this
 ·rw[fm mk first b k (lt f)] at d
  split at d
  ·exact⟨by cases d;rfl,by assumption⟩
  ·rw[f] at d;cases d
 ·rw[fm mk first b k (lt<|h k hk),if_pos hk]
 ·obtain⟨S,h1,h2⟩:=tx mk first b
  omega
theorem Fl.joint{s:Sys}{shut first:.e}{mk:Int}{g m:.as}{found:.e}{done:Nat}(F:Fl s shut first mk g m found done){k j:Nat}(hk:k∈found)(u:Ha s j k)(hs:j∉shut):
  Fl s shut first mk g (eS mk .d0 m) (found++.d0) done/\
  (∀q,Ha s j q->(eS mk .d0 m)[q]?≠ .am):=by
 have lt:∀{m:.as} {k:Nat} {x:.ab},m[k]?=.v->k<m.length:=λe=>(aB.mp e).1;have h:∀q,q∈(.bT).filter (λq=>decide (m[q]?=.am))↔Ha s j q/\m[q]?=.am:=λq=>by
  rw[bJ,dq,decide_eq_true_iff]
 have o:∀q,m[q]?=.am->g[q]?=.am:=λq e=>by
  have p:=lt e;rw[F.len] at p;cases e0:g[q]? with
  |none=>rw[kG] at e0;omega
  |some x=>
   cases x with
   |none=>rfl
   |some a=>rw[F.keep q a e0] at e;cases e
 refine⟨⟨by rw[ju,F.len],F.len0,λq a e=>?_,λq a t b=>?_,λq d=>?_,λq d=>?_,λq d=>dF _<|F.fst q d,bK F.dl (by rw[bS];omega),λi q r hi e n=>?_,?_⟩,λq d=>?_⟩
 ·have b:=F.keep q a e;rw[fm mk _ m q<|lt b,if_neg]
  ·exact b
  ·intro z;rw[((h q).mp z).2] at b;cases b
 ·have p:q<m.length:=by rw[F.len];exact lt t
  rw[fm mk _ m q p] at b;split at b
  ·exact⟨by cases b;rfl,eP _<|by assumption⟩
  ·obtain⟨h1,h2⟩:=F.new q a t b;exact⟨h1,dF _ h2⟩
 ·rcases bZ.mp d with z|z
  ·exact F.link q z
  ·obtain⟨f,v,l⟩:=F.link k hk;obtain⟨⟨w,y,A⟩,_⟩:=(h q).mp z;obtain⟨r,B,C⟩:=u;exact⟨f,v,.step l ⟨j,r,w,B,y,C,hs,A⟩⟩
 ·rcases bZ.mp d with z|z
  ·obtain⟨h1,h2⟩:=F.fnd q z;refine⟨h1,?_⟩;rw[fm mk _ m q<|lt h2];split
   ·rfl
   ·exact h2
  ·obtain⟨_,e⟩:=(h q).mp z;exact⟨o q e,by rw[fm mk _ m q<|lt e,if_pos z]⟩
 ·rw[bN (by have:=F.dl;omega)] at e;exact pK<|F.O4 i q r hi e n
 ·have h1:=F.cnt;have h2:=Ck mk (s:=s) (j:=j) (m:=m);rw[bS];omega
 ·by_cases c:m[q]?=.am
  ·rw[fm mk _ m q<|lt c,if_pos<|(h q).mpr ⟨d,c⟩];simp
  ·exact pK c
theorem Fl.turn{s:Sys}{shut first:.e}{mk:Int}{a m:.as}{found:.e}{done:Nat}(F:Fl s shut first mk a m found done){k:Nat}{r:Run}(hk:found[done]?=some k)(b:.cp)
  (h:∀j,.ec->j∉shut->∀q:Nat,Ha s j q->m[q]?≠ .am):Fl s shut first mk a m found (done+1):=by
 refine⟨F.len,F.len0,F.keep,F.new,F.link,F.fnd,F.fst,(aB.mp hk).1,λi d q hi e n=>?_,F.cnt⟩;by_cases c:i<done
 ·exact F.O4 i d q c e n
 ·have:i=done:=.h
  subst this;rw[hk] at e;cases e;obtain⟨j,p,f,h1,h2,g,l,o⟩:=n;rw[b] at h1;cases h1;exact h j g l q ⟨f,h2,o⟩
structure vp(s:Sys)(shut first:.e)(mk:Int)(m0 m:.as):Prop where
 len:m.length=m0.length
 keep:∀(k:Nat) (a:Int),m0[k]?=.bP->m[k]?=.bP
 new:∀(k:Nat) (a:Int),m0[k]?=.am->m[k]?=.bP->a=mk/\∃f,f∈first/\Link s shut f k
 fst:∀k:Nat,k∈first->m[k]?=some (some mk)
 clos:∀(k q:Nat) (a:Int),m0[k]?=.am->m[k]?=.bP->Nb s shut k q->m[q]?≠ .am
theorem Fl.over{s:Sys}{shut first:.e}{mk:Int}{d m:.as}{found:.e}{done:Nat}(F:Fl s shut first mk d m found done)(h:found.length<=done):vp s shut first mk d m where
 len:=F.len
 keep:=F.keep
 new:=λk a b c=>by
  obtain⟨h1,h2⟩:=F.new k a b c;exact⟨h1,F.link k h2⟩
 fst:=λk hk=>(F.fnd k<|F.fst k hk).2
 clos:=λk q a b c n=>by
  obtain⟨i,hi⟩:=fh (F.new k a b c).2;exact F.O4 i k q (by have:=.ch;omega) hi n
theorem Nb.lt{s:Sys}{shut:.e}{k m:Nat}(n:Nb s shut k m):.cd/\m<s.runs.length:=by
 obtain⟨j,r,q,h1,h2,_⟩:=n;exact⟨(aB.mp h1).1,(aB.mp h2).1⟩
theorem Nb.symm{s:Sys}{shut:.e}{k m:Nat}(n:Nb s shut k m):Nb s shut m k:=by
 obtain⟨j,r,q,h1,h2,a,b,c⟩:=n;exact⟨j,q,r,h2,h1,c,b,a⟩
theorem Link.trans{s:Sys}{shut:.e}{a b c:Nat}(h:Link s shut a b)(g:Link s shut b c):Link s shut a c:=by
 induction g with
 |refl=>exact h
 |step _ n ih=>exact .step ih n
theorem Link.symm{s:Sys}{shut:.e}{a b:Nat}(h:Link s shut a b):Link s shut b a:=by
 induction h with
 |refl=>exact .refl
 |step _ n ih=>exact Link.trans (.step .refl n.symm) ih
def Dl(s:Sys)(first:.e):Prop:=∀k,k∈first↔∃r,.cp/\(s.kind r.from_=5\/s.kind r.to_=5)
theorem rg{s:Sys}{shut first:.e}{m:.as}(h:Dl s first)(F:vp s shut first 0 (bq s.runs.length none) m)(k:Nat):(∃a,m[k]?=.bP)↔iy s shut k:=by
 have i:∀k:Nat,.cd->(bq s.runs.length (none:.ab))[k]?=.am:=λk hk=>by simp[hk]
 have lt:∀{k:Nat} {a:.ab},m[k]?=some a->.cd:=λe=>by
  have:=(aB.mp e).1;rw[F.len] at this;simpa using this
 constructor
 ·rintro⟨a,e⟩;obtain⟨_,f,h1,h2⟩:=F.new k a (i k<|lt e) e;obtain⟨r,d,g⟩:=(h f).mp h1;exact(iy.src d g).link h2
 ·intro c;induction c with
  |src h1 h2=>exact⟨_,F.fst _<|(h _).mpr ⟨_,h1,h2⟩⟩
  |@step k m' j r q _ h1 h2 d g h5 ih=>
   obtain⟨a,e⟩:=ih;have z:=F.clos k m' a (i k<|lt e) e ⟨j,r,q,h1,h2,d,g,h5⟩;have n:m'<m.length:=by rw[F.len];simpa using (aB.mp h2).1
   cases l:m[m']? with
   |none=>rw[kG] at l;omega
   |some x=>
    cases x with
    |none=>exact absurd l z
    |some b=>exact⟨b,rfl⟩
structure Ar(s:Sys)(m:.as)(p:Nat):Prop where
 len:m.length=s.runs.length
 zero:∀k:Nat,m[k]?=some (some 0)↔iy s .bn k
 pos:∀(k:Nat) (a:Int),m[k]?=.bP->a≠0->∃f:Nat,a=(f:Int)+1/\Link s .bn f k
 clos:∀(k q:Nat) (a:Int),m[k]?=.bP->Nb s .bn k q->m[q]?=.bP
 all:∀k:Nat,k<p->m[k]?≠ .am
theorem Ar.start{s:Sys}{first:.e}{m:.as}(d:Dl s first)(F:vp s .bn first 0 (bq s.runs.length none) m):Ar s m 0:=by
 have h:∀k:Nat,.cd->(bq s.runs.length (none:.ab))[k]?=.am:=λk hk=>by simp[hk]
 have lt:∀{k:Nat} {a:.ab},m[k]?=some a->.cd:=λe=>by
  have:=(aB.mp e).1;rw[F.len] at this;simpa using this
 have f:∀(k:Nat) (a:Int),m[k]?=.bP->a=0:=λk a e=>(F.new k a (h k<|lt e) e).1;refine⟨by rw[F.len];simp,λk=>⟨λe=>(rg d F k).mp ⟨_,e⟩,λc=>?_⟩,λk a e ne=>absurd (f k a e) ne,λk q a e n=>?_,λk hk=>absurd hk<|ig _⟩
 ·obtain⟨a,e⟩:=(rg d F k).mpr c;rw[f k a e] at e;exact e
 ·have c:=((rg d F k).mp ⟨a,e⟩).nb n;obtain⟨b,g⟩:=(rg d F q).mpr c;rw[g,f q b g,f k a e]
theorem Ar.skip{s:Sys}{m:.as}{p:Nat}(A:Ar s m p)(h:m[p]?≠ .am):Ar s m (p+1):=⟨A.len,A.zero,A.pos,A.clos,λk hk=>by
 by_cases c:k=p
 ·rw[c];exact h
 ·exact A.all k .h⟩
theorem Ar.more{s:Sys}{d m:.as}{p:Nat}(A:Ar s d p)(h:d[p]?=.am)(F:vp s .bn [p] ((p:Int)+1) d m):Ar s m (p+1):=by
 have lt:∀{k:Nat} {a:.ab},m[k]?=some a->k<d.length:=λe=>by
  have:=(aB.mp e).1;rwa[F.len] at this
 have g:∀(k:Nat) (a:Int),m[k]?=.bP->d[k]?=.bP\/(d[k]?=.am/\a=(p:Int)+1/\Link s .bn p k):=λk a e=>by
  cases e0:d[k]? with
  |none=>have:=lt e;rw[kG] at e0;omega
  |some x=>
   cases x with
   |some b=>
    have:=F.keep k b e0;rw[e] at this;cases this;exact .ar
   |none=>
    obtain⟨h1,f,h2,r⟩:=F.new k a e0 e;have:f=p:=by simpa using h2
    subst this;exact .inr ⟨rfl,h1,r⟩
 refine⟨by rw[F.len,A.len],λk=>⟨λe=>?_,λc=>F.keep k 0<|(A.zero k).mpr c⟩,λk a e ne=>?_,λk q a e n=>?_,λk hk e=>?_⟩
 ·rcases g k 0 e with z|⟨_,z,_⟩
  ·exact(A.zero k).mp z
  ·omega
 ·rcases g k a e with z|⟨_,i,l⟩
  ·exact A.pos k a z ne
  ·exact⟨p,i,l⟩
 ·rcases g k a e with z|⟨o,i,l⟩
  ·exact F.keep q a<|A.clos k q a z n
  ·have c:=F.clos k q a o e n;have v:q<m.length:=by rw[F.len,A.len];exact n.lt.2
   cases j:m[q]? with
   |none=>rw[kG] at j;omega
   |some x=>
    cases x with
    |none=>exact absurd j c
    |some b=>
     rcases g q b j with y|⟨_,t,_⟩
     ·have:=A.clos q k b y n.symm;rw[o] at this;cases this
     ·rw[t,i]
 ·have u:k<d.length:=lt e;cases e0:d[k]? with
  |none=>rw[kG] at e0;omega
  |some x=>
   cases x with
   |some b=>rw[F.keep k b e0] at e;cases e
   |none=>
    by_cases c:k=p
    ·subst c;rw[F.fst k<|by simp] at e;cases e
    ·exact A.all k .h e0
theorem Ar.marked{s:Sys}{m:.as}(A:Ar s m s.runs.length):z7 s (λk=>(m.getD k none).getD 0)/\∀k,.cd->m[k]?=some (some<|(m.getD k none).getD 0):=by
 have at_:∀k,.cd->m[k]?=some (some<|(m.getD k none).getD 0):=λk hk=>by
  have a:k<m.length:=by rw[A.len];exact hk
  have:=A.all k hk;rw[bo a] at this ⊢;simp only[cM,bo a,kT];cases e:m[k] with
  |none=>rw[e] at this;exact absurd rfl this
  |some b=>rfl
 refine⟨⟨λk hk=>⟨λe=>(A.zero k).mp<|by rw[at_ k hk,e],λc=>?_⟩,λk q n=>?_,λk q hk d e ne=>?_⟩,at_⟩
 ·have:=(A.zero k).mpr c;rw[at_ k hk] at this;exact aI<|aI this
 ·have:=A.clos k q _ (at_ k n.lt.1) n;rw[at_ q n.lt.2] at this;exact(aI<|aI this).symm
 ·obtain⟨f,h1,h2⟩:=A.pos k _ (at_ k hk) ne;obtain⟨g,h,i⟩:=A.pos q _ (at_ q d) (by rw[<-e];exact ne);have:f=g:=by rw[e,h] at h1;omega
  subst this;exact h2.symm.trans i
theorem snocInd{α:Type}{p:List α->Prop}(h0:p [])(h1:∀l a,p l->p (l++[a]))(l:List α):p l:=by
 have:∀r:List α,p r.reverse:=by
  intro r;induction r with
  |nil=>exact h0
  |cons a r ih=>rw[yP];exact h1 _ _ ih
 simpa using this l.reverse
def jv(rs:List Run)(j:Nat):.e:=rs.zipIdx.flatMap λ(x:Run×Nat)=>(if x.1.from_=j then [x.2] else [])++(if x.1.to_=j then [x.2] else [])
def et(rs:List Run)(j:Nat):List (Nat×Nat):=rs.flatMap λ(r:Run)=>.f8
theorem O8(s:Sys)(j:Nat):.bT=jv s.runs j:=rfl
theorem jm(rs:List Run)(r:Run)(j:Nat):jv (rs++[r]) j=jv rs j++((if r.from_=j then [rs.length] else [])++(if r.to_=j then [rs.length] else [])):=by
 unfold jv;rw[List.zipIdx_append,nZ];congr 1;simp[qE]
theorem fW(rs:List Run)(r:Run)(j:Nat):et (rs++[r]) j=et rs j++.f8:=by
 unfold et;rw[nZ];congr 1;simp
theorem m8(j:Nat)(rs:List Run):(jv rs j).length=(et rs j).length:=by
 refine snocInd (p:=λrs=>(jv rs j).length=(et rs j).length) rfl (λl r a=>?_) rs;rw[jm,fW];simp only[bS,a];split<;>split<;>simp
theorem He(j:Nat)(rs:List Run):.f5:=by
 refine snocInd (p:=λrs=>.f5) (λi q p h=>by simp[jv] at h) (λl r f i q p h1 h2=>?_) rs;rw[jm] at h1;rw[fW] at h2;have g:=m8 j l;by_cases c:i<(jv l j).length
 ·rw[bN c] at h1;rw[bN<|by omega] at h2;have:=f i q p h1 h2;have b:q<l.length:=by
   cases e:l[q]? with
   |none=>rw[e] at this;cases this
   |some _=>exact(aB.mp e).1
  rw[bN b];exact this
 ·rw[ui<|by omega] at h1;rw[ui<|by omega,<-g] at h2;generalize i-(jv l j).length=n at h1 h2;have b:q=l.length/\p.2=r.radius:=by
   by_cases d:r.from_=j
   ·by_cases a:r.to_=j
    ·rw[if_pos d,if_pos a] at h1 h2;match n,h1,h2 with
     |0,h1,h2=>cases h1;cases h2;exact .cg
     |1,h1,h2=>cases h1;cases h2;exact .cg
    ·rw[if_pos d,if_neg a] at h1 h2;match n,h1,h2 with
     |0,h1,h2=>cases h1;cases h2;exact .cg
   ·by_cases a:r.to_=j
    ·rw[if_neg d,if_pos a] at h1 h2;match n,h1,h2 with
     |0,h1,h2=>cases h1;cases h2;exact .cg
    ·rw[if_neg d,if_neg a] at h1;simp at h1
  rw[b.1,b.2];simp
theorem O9{rs:List Run}{j q:Nat}(h:q∈jv rs j):q<rs.length:=by
 have:q∈endsAt ⟨[],rs⟩ j:=h;obtain⟨r,h1,_⟩:=dq.mp this;exact(aB.mp h1).1
theorem MN{rs:List Run}{j:Nat}(h:∀r,r∈rs->r.from_≠j/\r.to_≠j):jv rs j=[]/\et rs j=[]:=by
 induction rs using snocInd with
 |h0=>exact .cg
 |h1 l r ih=>
  obtain⟨a,b⟩:=ih λx e=>h x<|dF _ e;obtain⟨c,d⟩:=h r (eP _<|by simp);rw[jm,fW,a,b,.ag,if_neg d,.ag,if_neg d];exact .cg
theorem Jn{rs:List Run}(h:∀r,r∈rs->r.dir<18)(b:∀d,d<18->opposite d<18){j:Nat}{p:Nat×Nat}(hp:p∈et rs j):p.1<18:=by
 unfold et at hp;obtain⟨r,a,c⟩:=gP.mp hp;rcases bZ.mp c with z|z
 ·split at z
  ·have:p=(r.dir,r.radius):=.c3
   rw[this];exact h r a
  ·simp at z
 ·split at z
  ·have:p=(opposite r.dir,r.radius):=.c3
   rw[this];exact b _<|h r a
  ·simp at z
theorem Cm(d e:Nat):turnOf d e=turnOf e d:=by
 have h1:dot (wayOf d) (wayOf e)=dot (wayOf e) (wayOf d):=by
  unfold dot;rw[iV (wayOf d).1,iV (wayOf d).2.1,iV (wayOf d).2.2]
 unfold turnOf;simp only[h1];rw[iV<|dot (wayOf d)<|wayOf d]
theorem sW(l:List (Nat×Nat))(p:Nat×Nat)(f:Nat->Nat->Bool):pairwise (l++[p]) f=(pairwise l f&&l.all λq=>f p.1 q.1):=by
 unfold pairwise;rw[bS,nX,oh,List.all_append];congr 1
 ·apply mr.mpr;simp only[eC,dU];constructor
  ·intro h i hi k hk;have:=h i hi k hk;simpa[cM,bN hi,bN<|show k<l.length by omega] using this
  ·intro h i hi k hk;have:=h i hi k hk;simpa[cM,bN hi,bN<|show k<l.length by omega] using this
 ·apply mr.mpr;simp only[lY,List.all_nil,oq,eC,dU];constructor
  ·intro h q a;obtain⟨k,hk,rfl⟩:=List.getElem_of_mem a;have:=h k hk;simpa[cM,bN hk,hk] using this
  ·intro h k hk;have:=h l[k]<|ux hk;simpa[cM,bN hk,hk] using this
def Co(l:List (Nat×Nat))(kind:Nat):Bool:=
 decide (l.length<=(if kind=0 then 4 else if kind=1 then 2 else 1))&&(pairwise l (λ(d e:Nat)=>[90,135,180].contains (turnOf d e))&&((kind != 1||pairwise l λ(d e:Nat)=>turnOf d e == 180)&&
  (match l with
  |[a,b]=>a.2 == b.2||turnOf a.1 b.1 == 180
  |_=>true)))
theorem Dm(s:Sys)(j:Nat):s.jointFine j=Co (s.leaves j) .aF:=rfl
def Tx(l:List (Nat×Nat))(kind d a:Nat):Bool:=
 if 4<=l.length then false else if .e_=false then false else if l.length≠1 then true
 else if kind=1\/(l.headD (0,0)).2≠a then decide (turnOf (l.headD (0,0)).1 d=180) else true
theorem MO(l:List (Nat×Nat))(d:Nat):(l.all λq=>[90,135,180].contains (turnOf d q.1))=.e_:=by
 congr 1;funext q;rw[Cm d q.1];exact List.contains_eq_mem _ _
theorem Hf{l:List (Nat×Nat)}{kind d f:Nat}(hk:kind<=1)(hp:pairwise l (λd e=>[90,135,180].contains (turnOf d e))=true)(h1:kind=1->l.length=1):Co (l++[(d,f)]) kind=Tx l kind d f:=by
 unfold Co Tx;rw[sW,hp,kQ,MO,bS,nX];by_cases c:.e_=true
 ·rw[c];simp only[kQ,Bool.true_eq_false,if_false];match l,h1,hp,c with
  |[],h1,_,_=>
   have g:kind=0:=by
    rcases uI kind 1 with z|z
    ·omega
    ·have:=h1 .h;simp at this
   subst g;rfl
  |[a],h1,_,_=>
   have h:pairwise ([a]++[(d,f)]) (λ(d e:Nat)=>turnOf d e == 180)=(turnOf a.1 d == 180):=by
    rw[sW];show(pairwise [a] _&&((turnOf d a.1 == 180)&&true))=_;rw[Cm d a.1,oq];have:pairwise [a] (λ(d e:Nat)=>turnOf d e == 180)=true:=by simp[pairwise]
    rw[this,kQ]
   rw[h];show(decide _&&((kind != 1||(turnOf a.1 d == 180))&&(a.2 == f||turnOf a.1 d == 180)))=_;rcases uI kind 1 with z|z
   ·have g:kind=0:=.h
    subst g;by_cases r:a.2=f
    ·simp[r]
    ·have i:(a.2 == f)=false:=by simpa using r
     rw[i];simp[r];by_cases t:turnOf a.1 d=180<;>simp[t]
   ·have j:kind=1:=.h
    subst j;by_cases t:turnOf a.1 d=180
    ·simp[t]
    ·simp[t]
  |a::b::r,h1,_,_=>
   have g:kind=0:=by
    rcases uI kind 1 with z|z
    ·omega
    ·have:=h1 .h;simp at this
   subst g;show(decide ((a::b::r).length+1<=4)&&(true&&(match a::b::(r++[(d,f)]) with
    |[a,b]=>a.2 == b.2||turnOf a.1 b.1 == 180
    |_=>true)))=_
   have e:(match a::b::(r++[(d,f)]) with
    |[a,b]=>a.2 == b.2||turnOf a.1 b.1 == 180
    |_=>true)=true:=by
    cases r with
    |nil=>rfl
    |cons x y=>rfl
   rw[e];by_cases q:4<=(a::b::r).length
   ·rw[if_pos q,decide_eq_false<|by omega];rfl
   ·rw[if_neg q,if_pos<|by simp,.cM];rfl
 ·have c:.e_=false:=.cC
  rw[c];simp
theorem Cp{l:List (Nat×Nat)}{kind:Nat}(h:Co l kind=true):pairwise l (λd e=>[90,135,180].contains (turnOf d e))=true:=by
 unfold Co at h;simp only[cn] at h;exact h.2.1
theorem dY(h:Hand):faulty [] h=.ok h:=rfl
theorem aQ(b:Bool)(k:Nat)(l:List (Bool×Nat))(h:Hand):faulty ((b,k)::l) h=if b=true then .error k else faulty l h:=by
 unfold faulty first
 cases b
 ·simp
 ·simp
structure bw(h:Hand):Prop where
 inr:fN h.sys
 dir:∀r,r∈h.sys.runs->r.dir<18
 nj:h.sys.joints.length<=1024
 nr:h.sys.runs.length<=1024
 kd:∀j,.cW<=5
 fine:∀j,j<h.sys.joints.length->pairwise .dk (λd e=>[90,135,180].contains (turnOf d e))=true
 one:∀j,2<=.cW->∃k,.bI=[k]
 two:∀j,.cW=1->if (h.here.map λx=>x.1)=some j then(.bI).length=1 else(.bI).length=2
 nm:∀(j:Nat) x n,.cA->x.name=some n->nameForm n=true/\x.kind<=1
 ZS:∀(j:Nat) x,.cA->x.kind=1->x.name.isSome=true
 uniq:∀(i j:Nat) x y n,h.sys.joints[i]?=.v->h.sys.joints[j]?=.ao->x.name=some n->y.name=some n->i=j
 here:∀j st,h.here=some (j,st)->j<h.sys.joints.length/\.cW<=1/\(st=false->∃x n,.cA/\x.name=some n/\x.kind=0)/\
  (st=true->j+1=h.sys.joints.length/\.bI=[.cz]/\∃r,h.sys.runs[.cz]?=some r/\r.to_=j/\r.from_≠j)
theorem fX{s:Sys}{i:Nat}{x:Joint}(h:.dB):s.kind i=x.kind:=by unfold jS;rw[h];rfl
theorem lg{s:Sys}{i:Nat}(h:s.joints.length<=i):s.kind i=0:=by unfold jS;rw[fu h];rfl
theorem Ku{s:Sys}{i:Nat}(h:s.kind i≠0):.dW:=qM λz=>h<|lg z
theorem bw.start:bw jb:=by
 refine⟨?_,?_,?_,?_,?_,?_,?_,?_,?_,?_,?_,?_⟩<;>simp[jb,u5,fN,jS]
theorem find_some{s:Sys}{n:Bytes}{k:Nat}(h:s.find n=some k):∃x,s.joints[k]?=.v/\x.name=some n:=by
 unfold u7 at h;obtain⟨hk,h1,_⟩:=Er.mp h;exact⟨_,bo hk,.cS⟩
theorem find_none{s:Sys}{n:Bytes}(h:s.find n=none){k:Nat}{x:Joint}(hk:s.joints[k]?=.v):x.name≠some n:=by
 unfold u7 at h;have:=List.findIdx?_eq_none_iff.mp h x<|bc hk;simpa using this
section
variable{h:Hand}
theorem gC{α:Type}{l:.aP}{x y:α}{k:Nat}(h:(l++[x])[k]?=.ao):l[k]?=.ao\/(k=l.length/\y=x):=by
 by_cases c:k<l.length
 ·rw[bN c] at h;exact .inl h
 ·have:k=l.length:=by
   have:=(aB.mp h).1;simp at this;omega
  subst this;exact .inr ⟨rfl,by simpa using h.symm⟩
theorem o4(js:List Joint)(rs:List Run)(a:List Run)(x:Joint)(j:Nat):(⟨js++[x],a⟩:Sys).kind j=if j=js.length then x.kind else(⟨js,rs⟩:Sys).kind j:=by
 unfold jS;by_cases c:j=js.length
 ·subst c;simp
 ·rw[.ag];by_cases d:j<js.length
  ·rw[show (⟨js++[x],a⟩:Sys).joints[j]?=(js++[x])[j]? from rfl,bN d]
  ·rw[fu .bq,fu .bq]
theorem rh(O:bw h){k:Nat}(hk:h.sys.joints.length<=k):endsAt h.sys k=[]/\h.sys.leaves k=[]:=by
 refine MN λr a=>?_;have:=O.inr r a;exact⟨ .h,.h⟩
theorem bw.from_(O:bw h){n:Bytes}{a:At}(p:nameForm n=true)(hi:h.here=none)(g:.a3=none)(A:h.sys.joints.length<1024):bw ⟨ .eh,h.radius,.ep⟩:=by
 have q:=o4 h.sys.joints h.sys.runs h.sys.runs ⟨a,0,some n⟩;have f:∀j,(.eh:Sys).kind j=.cW:=λj=>by
  have:=q j;by_cases c:j=h.sys.joints.length
  ·rw[.au] at this;rw[show .cW=0 from lg<|by omega];exact this
  ·rw[.ag] at this;exact this
 refine⟨λr s=>?_,O.dir,.bq,O.nr,λj=>by rw[f];exact O.kd j,λj b=>?_,λj b=>O.one j (by rw[f] at b;exact b),λj b=>?_,λj x m d k=>?_,λj x d h1=>?_,λi j x y m d l h1 h2=>?_,λj st t=>?_⟩
 ·have:=O.inr r s;simp;omega
 ·by_cases c:j<h.sys.joints.length
  ·exact O.fine j c
  ·have e:(.eh:Sys).leaves j=[]:=(rh O<|by omega).2;rw[e];rfl
 ·rw[f] at b;have:=O.two j b;rw[hi] at this;have this:(.bI).length=2:=by simpa using this
  have jl:j<h.sys.joints.length:=Ku .h;rw[if_neg .bq];exact this
 ·rcases gC d with z|⟨_,z⟩
  ·exact O.nm j x m z k
  ·subst z;cases k;exact⟨p,bj _⟩
 ·rcases gC d with z|⟨_,z⟩
  ·exact O.ZS j x z h1
  ·subst z;rfl
 ·rcases gC d with z|⟨B,u⟩
  ·rcases gC l with w|⟨v,o⟩
   ·exact O.uniq i j x y m z w h1 h2
   ·subst o;cases h2;exact absurd h1<|find_none g z
  ·subst u;cases h1;rcases gC l with w|⟨v,o⟩
   ·exact absurd h2<|find_none g w
   ·omega
 ·cases t;refine⟨ .m,?_,λ_=>⟨⟨a,0,some n⟩,n,.m,rfl,rfl⟩,λz=>by cases z⟩;rw[f,lg<|aG _];omega
theorem bw.at_(O:bw h){k:Nat}{x:Joint}{n:Bytes}(hi:h.here=none)(hk:h.sys.joints[k]?=.v)(c:x.name=some n)(a:x.kind=0):bw { h with here:=some (k,false) }:=by
 refine⟨O.inr,O.dir,O.nj,O.nr,O.kd,O.fine,O.one,λj b=>?_,O.nm,O.ZS,O.uniq,λj st d=>?_⟩
 ·have:=O.two j b;rw[hi] at this;have this:(.bI).length=2:=by simpa using this
  have e:k≠j:=λz=>by subst z;rw[fX hk,a] at b;cases b
  show if some k=some j then _ else _
  rw[if_neg λz=>e<|aI z];exact this
 ·cases d;exact⟨(aB.mp hk).1,by rw[fX hk,a];omega,λ_=>⟨x,n,hk,c,a⟩,λz=>by cases z⟩
theorem bw.size(O:bw h)(r:Nat):bw { h with radius:=r }:=⟨O.inr,O.dir,O.nj,O.nr,O.kd,O.fine,O.one,O.two,O.nm,O.ZS,O.uniq,O.here⟩
theorem bw.go(O:bw h){j:Nat}{st:Bool}{d n:Nat}{a:At}(s:d<18)(o:h.here=some (j,st))(C:h.sys.joints.length<1024)(D:h.sys.runs.length<1024)
  (p:(.dq:Sys).jointFine j=true):
  bw ⟨ .dq,h.radius,some (h.sys.joints.length,true)⟩:=by
 obtain⟨jl,E,_⟩:=O.here j st o;have g:∀i,(.dq:Sys).kind i=h.sys.kind i:=λi=>by
  have:=o4 h.sys.joints h.sys.runs (h.sys.runs++[.cI]) .do i;by_cases c:i=h.sys.joints.length
  ·rw[.au] at this;rw[show h.sys.kind i=0 from lg<|by omega];exact this
  ·rw[.ag] at this;exact this
 have es:∀i,.fT:=λi=>jm _ _ i
 have ls:∀i,(.dq:Sys).leaves i=h.sys.leaves i++((if j=i then [(d,h.radius)] else [])++(if .eb then [(opposite d,h.radius)] else [])):=λi=>fW _ _ i
 refine⟨λr b=>?_,λr b=>?_,.bq,.bq,λi=>by rw[g];exact O.kd i,λi hi=>?_,λi hi=>?_,λi hi=>?_,λi x m f q=>?_,λi x f h1=>?_,λi k x y m f u h1 h2=>?_,λi v l=>?_⟩
 ·rcases bZ.mp b with z|z
  ·have:=O.inr r z;simp;omega
  ·have:r=.cI:=.c3
   subst this;simp;omega
 ·rcases bZ.mp b with z|z
  ·exact O.dir r z
  ·have:r=.cI:=.c3
   subst this;exact s
 ·by_cases c:i=j
  ·subst c;rw[Dm] at p;exact Cp p
  ·show pairwise (Ca _ i) _=true;rw[ls,if_neg<|aF c,lX];by_cases e:.eb
   ·rw[if_pos e,(rh O<|by omega).2,lX];simp[pairwise]
   ·rw[.bo,dR];simp at hi;exact O.fine i<|by omega
 ·rw[g] at hi;obtain⟨k,hk⟩:=O.one i hi;have A:j≠i:=λz=>by subst z;omega
  have B:h.sys.joints.length≠i:=λz=>by rw[<-z,lg<|aG _] at hi;omega
  exact⟨k,by rw[es,if_neg A,if_neg B,hk];rfl⟩
 ·rw[g] at hi;have F:i<h.sys.joints.length:=Ku .h;have t:=O.two i hi;rw[o] at t;show if some h.sys.joints.length=some i then _ else _
  rw[if_neg (λz=>by have:=aI z;omega),es,if_neg<|show ¬ .eb by omega];by_cases c:j=i
  ·subst c;have t:(.bI).length=1:=by simpa using t
   rw[.ah];simp[t]
  ·rw[.ag];have t:(endsAt h.sys i).length=2:=by simpa[c] using t
   simp[t]
 ·rcases gC f with z|⟨_,z⟩
  ·exact O.nm i x m z q
  ·subst z;cases q
 ·rcases gC f with z|⟨_,z⟩
  ·exact O.ZS i x z h1
  ·subst z;cases h1
 ·rcases gC f with z|⟨_,z⟩
  ·rcases gC u with w|⟨_,w⟩
   ·exact O.uniq i k x y m z w h1 h2
   ·subst w;cases h2
  ·subst z;cases h1
 ·cases l;refine⟨ .m,(by have:=g h.sys.joints.length;rw[lg<|aG _] at this;exact bK (jJ this)<|bj _),(λz=>by cases z),λ_=>⟨ .m,?_,.cI,.m,rfl,by show j≠_;omega⟩⟩;rw[es,if_neg<|show ¬j=h.sys.joints.length by omega,.ah,(rh O<|aG _).1];simp
theorem gk{α:Type}{l:.aP}{f:α->α}{j i:Nat}{y:α}(h:(l.modify j f)[i]?=.ao):(i=j/\∃x,l[i]?=.v/\y=f x)\/(i≠j/\l[i]?=.ao):=by
 rw[jC] at h;cases e:l[i]? with
 |none=>rw[e] at h;cases h
 |some x=>
  rw[e] at h;have h:(if j=i then f x else x)=y:=aI h
  by_cases c:j=i
  ·rw[.au] at h;exact .inl ⟨c.symm,x,rfl,h.symm⟩
  ·rw[.ag] at h;exact .inr ⟨λz=>c z.symm,by rw[h]⟩
theorem lP(s:Sys)(j i:Nat)(f:Joint->Joint):(s.with_ j f).kind i=if i=j then(s.joints[i]?.map λx=>(f x).kind).getD 0 else s.kind i:=by
 unfold u6 jS;show(((s.joints.modify j f)[i]?).map _).getD 0=_;rw[jC];cases e:s.joints[i]? with
 |none=>by_cases c:i=j<;>simp[c]
 |some x=>
  by_cases c:i=j
  ·rw[.au];show(if j=i then f x else x).kind=_
   rw[if_pos c.symm];rfl
  ·rw[.ag];show(if j=i then f x else x).kind=_
   rw[if_neg<|aF c];rfl
structure Bare(h:Hand)(j:Nat)(x:Joint):Prop where
 he:h.here=some (j,true)
 hx:.cA
 k0:x.kind=0
 nn:x.name=none
theorem bw.with_(O:bw h){j:Nat}{x x':Joint}(b:.b3){f:Joint->Joint}(p:f x=x')(H:True)(g:Option (Nat×Bool))(I:x'.kind<=5)
  (d:∀n,x'.name=some n->nameForm n=true/\.a3=none/\x'.kind<=1) (h1:x'.kind=1->x'.name.isSome=true) (A:g=none\/(g=some (j,true)/\x'.kind<=1)) (B:g=none->x'.kind≠1):
  bw ⟨ .cU,h.radius,g⟩:=by
 obtain⟨jl,S,_,js⟩:=O.here j true b.he;obtain⟨J,C,r,K,L,M⟩:=js rfl;have D:(.cU).kind j=x'.kind:=by rw[lP,.ah,b.hx];show(f x).kind=_;rw[p]
 have E:∀i,i≠j->(.cU).kind i=h.sys.kind i:=λi c=>by rw[lP,.ag]
 have len:(.cU).joints.length=h.sys.joints.length:=by unfold u6;simp
 refine⟨λr N=>by rw[len];exact O.inr r N,O.dir,by rw[len];exact O.nj,O.nr,λi=>?_,λi hi=>O.fine i (by rw[len] at hi;exact hi),λi hi=>?_,λi hi=>?_,λi y m e s=>?_,λi y e hk=>?_,λi k y z m e G u v=>?_,λi st l=>?_⟩
 ·by_cases c:i=j
  ·subst c;rw[D];exact I
  ·rw[E i c];exact O.kd i
 ·by_cases c:i=j
  ·subst c;exact⟨_,C⟩
  ·rw[E i c] at hi;exact O.one i hi
 ·by_cases c:i=j
  ·subst c;rw[D] at hi;rcases A with z|⟨z,_⟩
   ·exact absurd hi<|B z
   ·rw[z];show if some i=some i then _ else _
    rw[.ah];show(endsAt h.sys i).length=1;rw[C];rfl
  ·rw[E i c] at hi;have t:=O.two i hi;rw[b.he] at t;have t:(endsAt h.sys i).length=2:=by simpa[aF c] using t
   have:¬(g.map λx=>x.1)=some i:=λz=>by
    rcases A with w|⟨w,_⟩
    ·rw[w] at z;cases z
    ·rw[w] at z;exact c (aI z).symm
   show if(g.map λx=>x.1)=some i then _ else _
   rw[if_neg this];exact t
 ·rcases gk e with⟨rfl,F,a,rfl⟩|⟨c,e⟩
  ·rw[b.hx] at a;cases a;rw[p] at s ⊢;exact⟨(d m s).1,(d m s).2.2⟩
  ·exact O.nm i y m e s
 ·rcases gk e with⟨rfl,F,a,rfl⟩|⟨c,e⟩
  ·rw[b.hx] at a;cases a;rw[p] at hk ⊢;exact h1 hk
  ·exact O.ZS i y e hk
 ·rcases gk e with⟨rfl,F,a,rfl⟩|⟨c,q⟩
  ·rw[b.hx] at a;cases a;rw[p] at u;rcases gk G with⟨z,_⟩|⟨P,o⟩
   ·exact z.symm
   ·exact absurd v<|find_none (d m u).2.1 o
  ·rcases gk G with⟨z,F,a,Q⟩|⟨P,o⟩
   ·rw[z,b.hx] at a;cases a;rw[Q,p] at v;exact absurd u<|find_none (d m v).2.1 q
   ·exact O.uniq i k y z m q o u v
 ·rcases A with w|⟨w,R⟩
  ·have l:g=some (i,st):=l;rw[w] at l;cases l
  ·have l:g=some (i,st):=l;rw[w] at l;cases l;exact⟨by rw[len];exact jl,by rw[D];exact R,(λz=>by cases z),λ_=>⟨by rw[len];exact J,C,r,K,L,M⟩⟩
theorem yk{α:Type}{l:.aP}{r:α}(h:l[l.length-1]?=some r):∃a,l=a++[r]/\a.length=l.length-1:=by
 have b:=(aB.mp h).1;have ne:l≠[]:=λz=>by rw[z] at b;simp at b
 refine⟨l.dropLast,?_,.m⟩;have e:=Et ne;have:l.getLast ne=r:=by
  rw[List.getLast_eq_getElem];exact(aB.mp h).2
 rw[this] at e;exact e.symm
theorem lm{α:Type}(l:.aP)(r:α)(f:α->α):(l++[r]).modify l.length f=l++[f r]:=by
 apply uw;intro i;rw[jC];by_cases c:i<l.length
 ·rw[bN c,bN c,bo c];show some (if l.length=i then _ else _)=_
  rw[.aC]
 ·by_cases d:i=l.length
  ·subst d;simp
  ·rw[fu .bq,fu .bq];rfl
theorem tE{α:Type}{l:.aP}{k:Nat}{y:α}(e:l.dropLast[k]?=.ao):l[k]?=.ao/\k<l.length-1:=by
 have:=(aB.mp e).1;rw[yH] at this;rw[ul,if_pos this] at e;exact⟨e,this⟩
theorem vq{α:Type}{l:.aP}{k:Nat}{y:α}(e:l[k]?=.ao)(h:k<l.length-1):l.dropLast[k]?=.ao:=by
 rw[ul,if_pos h];exact e
theorem Dn{s:Sys}{rs:List Run}{r:Run}{k:Nat}(a:s.runs=rs++[r])(b:True):∀i,i≠r.to_->
  endsAt ⟨s.joints.dropLast,s.runs.modify (s.runs.length-1) λ(r:Run)=>.bW⟩ i=endsAt s i++(if k=i then [s.runs.length-1] else [])/\
  (⟨s.joints.dropLast,s.runs.modify (s.runs.length-1) λ(r:Run)=>.bW⟩:Sys).leaves i=s.leaves i++(if k=i then [(opposite r.dir,r.radius)] else []):=λi hi=>by
 have e:s.runs.modify (s.runs.length-1) (λ(r:Run)=>.bW)=rs++[.bW]:=by
  rw[a,.fd,lm]
 have l:s.runs.length-1=rs.length:=by rw[a];simp
 refine⟨?_,?_⟩
 ·show jv (s.runs.modify (s.runs.length-1) _) i=jv s.runs i++_;rw[e,l,jm,a,jm,if_neg<|show ¬r.to_=i from λz=>hi z.symm,dR,iR]
 ·show et (s.runs.modify (s.runs.length-1) _) i=et s.runs i++_;rw[e,fW,a,fW,if_neg<|show ¬r.to_=i from λz=>hi z.symm,dR,iR]
theorem bw.to_(O:bw h){j k:Nat}{x y:Joint}{n:Bytes}(b:.b3)(l:h.sys.joints[k]?=.ao)(C:y.name=some n)(D:y.kind=0)
  (E:(.ee:Sys).jointFine k=true):
  bw ⟨ .ee,h.radius,none⟩:=by
 obtain⟨jl,S,_,js⟩:=O.here j true b.he;obtain⟨T,G,r,p,s,U⟩:=js rfl;obtain⟨rs,d,H⟩:=yk p;have V:k≠j:=λz=>by rw[z,b.hx] at l;cases l;rw[b.nn] at C;cases C
 have W:=(aB.mp l).1;have te:=Dn (k:=k) d trivial;have e:h.sys.runs.modify .cz (λ(r:Run)=>.bW)=rs++[.bW]:=by
  rw[d,.fd,lm]
 have u:∀i,i≠j->(.ee:Sys).kind i=h.sys.kind i:=λi hi=>by
  unfold jS;show(h.sys.joints.dropLast[i]?.map _).getD 0=_;by_cases c:i<h.sys.joints.length-1
  ·rw[ul,.au]
  ·rw[fu .bq,fu<|by omega]
 have v:(.ee:Sys).kind j=0:=lg .bq;have F:(h.sys.joints.dropLast).length=h.sys.joints.length-1:=.m
 refine⟨λq f=>?_,λq f=>?_,by simp;have:=O.nj;omega,?_,λi=>?_,λi hi=>?_,λi hi=>?_,λi hi=>?_,λi z m o I=>O.nm i z m (tE o).1 I,λi z o hk=>O.ZS i z (tE o).1 hk,λi J z K m o A L M=>O.uniq i J z K m (tE o).1 (tE A).1 L M,λi st N=>by cases N⟩
 ·have f:q∈rs++[.bW]:=by rw[<-e];exact f
  show q.from_<h.sys.joints.dropLast.length/\q.to_<h.sys.joints.dropLast.length;rw[F];rcases bZ.mp f with z|z
  ·have P:q∈h.sys.runs:=by rw[d];exact dF _ z
   have:=O.inr q P;obtain⟨i,hi⟩:=fh z;have Q:=.ch;have at_:∀a,a=q.from_\/a=q.to_->a≠j:=λa R w=>by
    have:i∈ .bI:=dq.mpr ⟨q,by rw[d,bN Q];exact hi,by rw[<-w];exact R⟩;rw[G] at this;have:i=.cz:=by simpa using this
    omega
   have a1:=at_ _<|.inl rfl;have a2:=at_ _<|.inr rfl;omega
  ·have:q=.bW:=.c3
   subst this;have rm:r∈h.sys.runs:=bc p;have:=O.inr r rm;show r.from_<_/\k<_;omega
 ·have f:q∈rs++[.bW]:=by rw[<-e];exact f
  rcases bZ.mp f with z|z
  ·exact O.dir q (by rw[d];exact dF _ z)
  ·have:q=.bW:=.c3
   subst this;exact O.dir r<|bc p
 ·show(h.sys.runs.modify _ _).length<=1024;rw[EJ];exact O.nr
 ·by_cases c:i=j
  ·rw[c];exact bK (jJ v)<|bj _
  ·exact bK (jJ<|u i c)<|O.kd i
 ·have hi:i<h.sys.joints.dropLast.length:=hi;rw[F] at hi;by_cases c:i=k
  ·subst c;rw[Dm] at E;exact Cp E
  ·have:=(te i (by rw[s];omega)).2;show pairwise (Ca _ i) _=true;rw[this,if_neg<|aF c,dR];exact O.fine i<|by omega
 ·have g:i≠j:=λz=>by
   have hi:2<=(.ee:Sys).kind i:=hi;rw[z,v] at hi;omega
  have hi:2<=h.sys.kind i:=by rw[<-u i g];exact hi
  obtain⟨q,f⟩:=O.one i hi;have B:k≠i:=λz=>by rw[<-z,fX l,D] at hi;omega
  exact⟨q,by rw[(te i (by rw[s];exact g)).1,if_neg B,f];rfl⟩
 ·have g:i≠j:=λz=>by
   have hi:(.ee:Sys).kind i=1:=hi;rw[z,v] at hi;cases hi
  have hi:h.sys.kind i=1:=by rw[<-u i g];exact hi
  have t:=O.two i hi;rw[b.he] at t;have t:(endsAt h.sys i).length=2:=by simpa[aF g] using t
  have B:k≠i:=λz=>by rw[<-z,fX l,D] at hi;cases hi
  show if none=some i then _ else _
  rw[if_neg<|by simp,(te i (by rw[s];exact g)).1,if_neg B,dR];exact t
end
theorem jw:∀{l:List (Bool×Nat)} {h u:Hand},faulty l h=.ok u->u=h/\∀b k,(b,k)∈l->b=false
 |[],h,u,e=>by cases e;exact⟨rfl,.m⟩
 |(true,k)::l,h,u,e=>by rw[aQ] at e;cases e
 |(false,k)::l,h,u,e=>by
  rw[aQ] at e;obtain⟨a,c⟩:=jw (l:=l) e;exact⟨a,λb d m=>by
   rcases aH.mp m with z|z
   ·cases z;rfl
   ·exact c b d z⟩
structure vt(h:Hand):Prop where
 lB:h.radius<=2000
 bnd:∀x,x∈h.sys.joints->x.at_.z.p.natAbs<=200000000*(h.sys.runs.length+1)/\x.at_.z.q.natAbs<=200000000*(h.sys.runs.length+1)
 run:∀r,r∈h.sys.runs->1<=r.n/\r.n<=100000/\r.radius<=2000/\∃x y,h.sys.joints[r.from_]?=.v/\h.sys.joints[r.to_]?=.ao/\y.at_=x.at_.go r.dir r.n
theorem vt.start:vt jb:=by refine⟨ .O,?_,?_⟩<;>simp[jb,u5]
theorem Wi:∀d,d<18->(wayOf d).2.2= -1\/(wayOf d).2.2=0\/(wayOf d).2.2=1:=.O
theorem vt.with_{h:Hand}(R:vt h){j:Nat}{f:Joint->Joint}(n:∀x,(f x).at_=x.at_)(r:Nat)(o:r<=2000)(here:Option (Nat×Bool)):vt ⟨ .cU,r,here⟩:=by
 have g:∀{i:Nat} {x:Joint},h.sys.joints[i]?=.v->∃x':Joint,(.cU).joints[i]?=some x'/\x'.at_=x.at_:=λ{i x} e=>by
  refine⟨if j=i then f x else x,?_,?_⟩
  ·show(h.sys.joints.modify j f)[i]?=_;rw[jC,e];rfl
  ·split
   ·exact n x
   ·rfl
 refine⟨o,λx k=>?_,λq p=>?_⟩
 ·obtain⟨i,hi⟩:=fh k;rcases gk hi with⟨_,y,d,rfl⟩|⟨_,d⟩
  ·rw[n];exact R.bnd y<|bc d
  ·exact R.bnd x<|bc d
 ·obtain⟨a,b,c,x,y,k,d,e⟩:=R.run q p;obtain⟨x',l,ex⟩:=g k;obtain⟨s,m,t⟩:=g d;exact⟨a,b,c,x',s,l,m,by rw[ex,t,e]⟩
theorem MQ{h u:Hand}{l:Line}(P:∀d n,l=.go d n->d<18)(O:bw h)(R:vt h)(e:h.line l=.ok u):vt u:=by
 unfold Gd at e;dsimp only at e;split at e
 ·cases e
 rename_i v;have v:inBounds l=true:=by simpa using v
 cases l with
 |size n=>
  cases e;simp[inBounds] at v;exact⟨v.2,R.bnd,R.run⟩
 |from_ n x y z=>
  obtain⟨rfl,_⟩:=jw e;simp only[inBounds,cn,decide_eq_true_eq] at v;unfold FAR at v;refine⟨R.lB,λw D=>?_,λr E=>?_⟩
  ·rcases bZ.mp D with m|m
   ·exact R.bnd w m
   ·obtain rfl:w=_:=by simpa using m
    show(2000*z).natAbs<=200000000*(h.sys.runs.length+1)/\(0:Int).natAbs<=_;omega
  ·obtain⟨a,b,c,x,y,o,A,e⟩:=R.run r E;have g:∀{i:Nat} {x:Joint} (w:Joint),h.sys.joints[i]?=.v->(h.sys.joints++[w])[i]?=.v:=λw e=>by rw[bN (aB.mp e).1];exact e
   exact⟨a,b,c,x,y,g _ o,g _ A,e⟩
 |at_ n=>obtain⟨rfl,_⟩:=jw e;exact⟨R.lB,R.bnd,R.run⟩
 |go d n=>
  obtain⟨rfl,f⟩:=jw e;simp only[inBounds,cn,decide_eq_true_eq] at v;unfold LONGEST at v;cases C:h.here with
  |none=>rw[C] at f;exact absurd (f true 4<|by simp)<|by simp
  |some p=>
   obtain⟨j,st⟩:=p;obtain⟨jl,_⟩:=O.here j st C;obtain⟨x,o⟩:∃x,.cA:=⟨_,bo jl⟩;simp only[i9,kT,o];have g:∀{i:Nat} {x:Joint} (w:Joint),h.sys.joints[i]?=.v->(h.sys.joints++[w])[i]?=.v:=λw e=>by rw[bN (aB.mp e).1];exact e
   refine⟨R.lB,λw D=>?_,λr E=>?_⟩
   ·have Q:(h.sys.runs++[(.cI:Run)]).length=h.sys.runs.length+1:=.m
    show _<=200000000*((h.sys.runs++[(.cI:Run)]).length+1)/\_<=200000000*((h.sys.runs++[(.cI:Run)]).length+1);rw[Q];rcases bZ.mp D with m|m
    ·have:=R.bnd w m;omega
    ·obtain rfl:w=_:=by simpa using m
     have bx:=R.bnd x<|bc o;show(x.at_.z.p+(wayOf d).2.2*(stepOf d n).p).natAbs<=_/\(x.at_.z.q+(wayOf d).2.2*(stepOf d n).q).natAbs<=_;have hs:(stepOf d n).p.natAbs<=200000000/\(stepOf d n).q.natAbs<=200000000:=by unfold stepOf;split<;>dsimp only<;>omega
     rcases Wi d (P d n rfl) with z|z|z<;>rw[z]<;>omega
   ·rcases bZ.mp E with m|m
    ·obtain⟨a,b,c,x,y,o,A,e⟩:=R.run r m;exact⟨a,b,c,x,y,g _ o,g _ A,e⟩
    ·obtain rfl:r=_:=by simpa using m
     exact⟨v.1,v.2,R.lB,x,⟨x.at_.go d n,0,none⟩,g _ o,Eu,rfl⟩
 |node n=>obtain⟨rfl,_⟩:=jw e;exact R.with_ (by intro _;rfl) _ R.lB _
 |valve n=>obtain⟨rfl,_⟩:=jw e;exact R.with_ (by intro _;rfl) _ R.lB _
 |end_ k=>obtain⟨rfl,_⟩:=jw e;exact R.with_ (by intro _;rfl) _ R.lB _
 |to_ n=>
  obtain⟨rfl,f⟩:=jw e;cases C:h.here with
  |none=>rw[C] at f;exact absurd (f true 4<|by simp)<|by simp
  |some p=>
   obtain⟨j,st⟩:=p;rw[C] at f;simp only[i9,kT] at f;have J:=f _ 4<|.tail _<|.head _;have F:=f _ 6<|.tail _<|.tail _<|.tail _<|.head _;have K:=f _ 3<|.head _;have G:st=true:=by cases st<;>simp at J ⊢
   subst G;obtain⟨jl,_,_,js⟩:=O.here j true C;obtain⟨j1,S,r,L,T,j5⟩:=js rfl;obtain⟨rs,B,U⟩:=yk L;cases H:.a3 with
   |none=>rw[H] at K;simp at K
   |some k=>
    obtain⟨y,A,M⟩:=find_some H;obtain⟨x,o⟩:∃x,.cA:=⟨_,bo jl⟩;have kl:=(aB.mp A).1;rw[H] at F;simp[o,A] at F;have bare:x.name=none:=by
     have:h.sys.bare j=true:=by cases q:h.sys.bare j<;>simp[q] at J ⊢
     simp[zN,o] at this;exact this.2
    have kj:k≠j:=λz=>by rw[z,o] at A;cases A;rw[bare] at M;cases M
    have V:h.sys.runs.modify .cz (λ(r:Run)=>.bW)=rs++[.bW]:=by
     rw[B,.fd,lm]
    simp only[kT];refine⟨R.lB,λw D=>?_,λq I=>?_⟩
    ·rw[EJ];exact R.bnd w<|(um _).subset D
    ·have I:q∈rs++[.bW]:=by rw[<-V];exact I
     rcases bZ.mp I with m|m
     ·obtain⟨a,b,c,x',N,s,t,e⟩:=R.run q (by rw[B];exact dF _ m);obtain⟨i,hi⟩:=fh m;have W:=.ch;have at_:∀a,a=q.from_\/a=q.to_->a≠j:=λa X w=>by
       have:i∈ .bI:=dq.mpr ⟨q,by rw[B,bN W];exact hi,by rw[<-w];exact X⟩;rw[S] at this;have:i=.cz:=by simpa using this
       omega
      have a1:=at_ _<|.inl rfl;have a2:=at_ _<|.inr rfl;have Y:=(aB.mp s).1;have l2:=(aB.mp t).1;exact⟨a,b,c,x',N,vq s<|by omega,vq t<|by omega,e⟩
     ·obtain rfl:q=.bW:=by simpa using m
      obtain⟨a,b,c,x',N,s,t,e⟩:=R.run r<|bc L;have Y:=(aB.mp s).1;rw[T,o] at t;cases t;have Z:=vq s (show r.from_<_ by omega);have d2:=vq A (show k<_ by omega);exact⟨a,b,c,x',y,Z,d2,by rw[<-F];exact e⟩
def Small(x:Len):Prop:=x.p.natAbs<=1000000000000/\x.q.natAbs<=1000000000000
structure Kv(s:Sys)(r:Run):Prop where
 dir:r.dir<18
 n1:1<=r.n
 n2:r.n<=100000
 lB:r.radius<=2000
 rise:.c4=(.cB).add ((stepOf r.dir r.n).times (wayOf r.dir).2.2)
theorem kg{s:Sys}{i:Nat}{x:Joint}(h:.dB):.b1=x.at_.z:=by unfold u9;rw[h];rfl
theorem vt.aaa{h:Hand}(O:bw h)(R:vt h){r:Run}(d:r∈h.sys.runs):Kv h.sys r:=by
 obtain⟨a,b,c,x,y,f,g,e⟩:=R.run r d;exact⟨O.dir r d,a,b,c,by rw[kg f,kg g,e];rfl⟩
theorem vt.small{h:Hand}(O:bw h)(R:vt h)(j:Nat):Small (h.sys.height j):=by
 have:=O.nr;cases e:h.sys.joints[j]? with
 |none=>unfold u9;rw[e];exact⟨ .O,.O⟩
 |some x=>
  rw[kg e];have:=R.bnd x<|bc e;exact⟨ .h,.h⟩
theorem Pa(p q:Int):0<p*(if p<0 then -p else p)+2*q*(if q<0 then -q else q)↔Pos p q:=by
 unfold Pos;have c:=sq_nonneg p;have d:=sq_nonneg q;have m1:∀x:Int,x * -x= -(x*x):=λx=>Int.mul_neg x x;have m2:∀x y:Int,2*x*y=2*(x*y):=λx y=>iq 2 x y;have e:0<p\/p<0->0<p*p:=λh=>by
  rcases h with h|h
  ·exact Fy h h
  ·exact Fo h h
 have f:0<q\/q<0->0<q*q:=λh=>by
  rcases h with h|h
  ·exact Fy h h
  ·exact Fo h h
 have g:p=0->p*p=0:=λh=>by rw[h];rfl
 have i:q=0->q*q=0:=λh=>by rw[h];rfl
 by_cases a:p<0<;>by_cases b:q<0
 ·rw[if_pos a,if_pos b,m1,m2,m1];omega
 ·rw[if_pos a,if_neg b,m1,m2];omega
 ·rw[if_neg a,if_pos b,m2,m1];omega
 ·rw[if_neg a,if_neg b,m2];omega
theorem Pb(x y:Len):0<(y.p-x.p)*(if y.p-x.p<0 then -(y.p-x.p) else y.p-x.p)+2*(y.q-x.q)*(if y.q-x.q<0 then -(y.q-x.q) else y.q-x.q)↔x.order y<0:=by
 rw[Pa,<-lO,iG];rcases kZ x y with c|c|c<;>rw[c]<;>omega
def low(s:Sys)(r:Run):Len:=s.height<|if(wayOf r.dir).2.2<0 then r.to_ else r.from_
def high(s:Sys)(r:Run):Len:=s.height<|if(wayOf r.dir).2.2<0 then r.from_ else r.to_
theorem step_pos{d n:Nat}(h:1<=n):0<=(stepOf d n).p/\0<=(stepOf d n).q/\(0<(stepOf d n).p\/0<(stepOf d n).q):=by unfold stepOf;split<;>dsimp only<;>omega
theorem Pc{s:Sys}{r:Run}(R:Kv s r):(if(.cB).order .c4<=0 then .cB else .c4)=low s r/\higher .cB .c4=high s r/\jh (low s r) (high s r):=by
 have e:=R.rise;have st:=step_pos (d:=r.dir) R.n1;have a:(.c4).p=(.cB).p+(wayOf r.dir).2.2*(stepOf r.dir r.n).p:=by rw[e];rfl
 have c:(.c4).q=(.cB).q+(wayOf r.dir).2.2*(stepOf r.dir r.n).q:=by rw[e];rfl
 unfold low high higher jh;have nb:=iG .cB<|s.height r.to_;rcases Wi r.dir R.dir with z|z|z
 ·have:(.cB).order .c4=1:=by
   rw[lO];refine .inl ?_;rw[a,c,z];omega
  simp[z,this,nb]
 ·have:.c4=.cB:=by
   rw[z,Int.zero_mul,Int.add_zero] at a c;generalize .c4=b at *;cases b;simp only at a c;rw[a,c]
  have q:(.cB).order .cB=0:=iz.mpr rfl;simp[z,this,q]
 ·have:(.c4).order .cB=1:=by
   rw[lO];refine .inl ?_;rw[a,c,z];omega
  have h2:(.cB).order .c4= -1:=.h
  simp[z,h2]
theorem Xs{s:Sys}{r:Run}(R:Kv s r)(h:Len):s.wetBy r (some h)=if(low s r).order h<0 then(if h.order (high s r)<0 then(if dot (wayOf r.dir) (wayOf r.dir)=1 then h.sub (low s r) else⟨2*(h.sub<|low s r).q,(h.sub<|low s r).p⟩) else⟨2000*(r.n:Int),0⟩) else⟨0,0⟩:=by
 obtain⟨b,d,le⟩:=Pc R;unfold Sys.wetBy;dsimp only;rw[b,d];generalize low s r=lo at *;generalize high s r=hi at *;have e:=iG lo h;have f:=iG h hi;by_cases c:hi.order h<=0
 ·rw[.au];by_cases a:lo.order h<0
  ·rw[if_pos a,if_neg<|show ¬h.order hi<0 by omega,if_neg];rintro⟨x,y⟩;subst x y;rw[iz.mpr rfl] at a;omega
  ·have x:lo=h:=(jh.trans le c).antisymm (show h.order lo<=0 by omega);subst x;have y:hi=lo:=jh.antisymm c le;rw[if_neg a,if_pos ⟨y.symm,y⟩]
 ·rw[.ag];by_cases a:lo.order h<0
  ·rw[if_pos a,if_pos<|show h.order hi<0 by omega,.aC]
  ·rw[if_neg a,.bX]
theorem Jo(x y:Len):lower .v .ao=some (if x.order y<0 then x else y):=by
 unfold lower;rcases kZ x y with c|c|c
 ·simp[c]
 ·simp[c,iz.mp c]
 ·simp[c]
abbrev Up(R:List Len):Prop:=R.Pairwise jh
theorem Up.get{R:List Len}(u:Up R){i j:Nat}{x y:Len}(hi:R[i]?=.v)(a:R[j]?=.ao)(h:i<=j):jh x y:=by
 obtain⟨b,rfl⟩:=aB.mp hi;obtain⟨d,rfl⟩:=aB.mp a;by_cases c:i=j
 ·subst c;exact jh.refl _
 ·exact Ex.mp u i j b d<|by omega
structure Dq(R:List Len)(h:Len)(k:Nat):Prop where
 le:k<=R.length
 lo:∀(i:Nat) x,R[i]?=.v->i<k->x.order h<0
 hi:∀(i:Nat) x,R[i]?=.v->k<=i->¬x.order h<0
theorem Pd{a b c:Len}(h1:jh a b)(h2:b.order c<0):a.order c<0:=by
 rw[lt_iff] at h2 ⊢;exact λz=>h2<|z.trans h1
theorem Up.put{R:List Len}{h:Len}{k:Nat}(u:Up R)(r:Dq R h k):Up (R.take k++h::R.drop k):=by
 have e:=uo k R;have b:(R.take k++R.drop k).Pairwise jh:=by rw[e];exact u
 obtain⟨c,d,f⟩:=EF.mp b;have g:∀x,x∈R.drop k->jh h x:=λx a=>by
  obtain⟨i,hi⟩:=fh a;rw[EK] at hi;have:=r.hi _ x hi .h;rw[lt_iff] at this;exact eJ this
 refine EF.mpr ⟨c,EL.mpr ⟨g,d⟩,λx a y j=>?_⟩;rcases aH.mp j with z|z
 ·subst z;obtain⟨i,hi⟩:=fh a;have l:=.ch;rw[ie] at l;rw[EM,.bX] at hi;have:=r.lo i x hi .h;show x.order y<=0;omega
 ·exact f x a y z
theorem Up.at_{R:List Len}{h:Len}{k:Nat}(u:Up R)(r:Dq R h k)(m:h∈R):R[k]?=some h:=by
 obtain⟨i,hi⟩:=fh m;have c:=.ch;have b:k<=i:=kN λz=>by
  have:=r.lo i h hi z;rw[iz.mpr rfl] at this;omega
 obtain⟨x,a⟩:∃x,R[k]?=.v:=⟨_,bo<|by omega⟩;have:=r.hi k x a<|aG _;rw[lt_iff] at this;rw[a,(u.get a hi b).antisymm<|eJ this]
structure Tz(s:Sys)(R:List Len)(ks:.e):Prop where
 up:Up R
 rl:R.length=s.joints.length
 kl:ks.length=s.joints.length
 at_:∀j,.a7->R[ks.getD j 0]?=some .cv
 sm:∀x,x∈R->Small x
def Adj(s:Sys)(j m:Nat):Prop:=∃(k:Nat) (r:Run),.cp/\r.across j=some m
structure Lv(s:Sys)(shut:.e)(R:List Len)(ks:.e)(L:.as)(W:Nat->.e)(n d:Nat):Prop where
 ll:L.length=s.joints.length
 lv:∀(j:Nat) a,L[j]?=.bP->∃(q:Nat) (x:Len),a=(q:Nat)/\q<=n/\R[q]?=.v/\Off s shut x j/\∀m,Adj s j m->m∉shut->m∈W (max q<|ks.getD m 0)
 wt:∀q j,j∈W q->∃x,R[q]?=.v/\Off s shut x j
 out:∀j,.a7->(.aF=4\/.aF=2)->j∈W (ks.getD j 0)
 dn:∀(q i j:Nat),(W q)[i]?=some j->q<n\/(q=n/\i<d)->∃q':Nat,L[j]?=some (some ((q':Nat):Int))/\q'<=q
 cnt:∀q,(W q).length+2048*g6 L<=2049*s.joints.length
section
variable{s:Sys}{shut:.e}{R:List Len}{ks:.e}{L:.as}{W:Nat->.e}{n d:Nat}
theorem MR(k:Nat):g6 (bq k none)=k:=by unfold g6;simp[List.countP_replicate]
theorem Lv.start(T:Tz s R ks)(hk:∀j,j∈shut->.aF=1){os:.e}(c:∀j,j∈os↔ .a7/\(.aF=4\/.aF=2))(d:os.length<=s.joints.length):Lv s shut R ks (bq s.joints.length none) (λq=>os.filter λj=>ks.getD j 0 == q) 0 0:=by
 refine⟨ .m,λj a h=>?_,λq j h=>?_,λj h1 h2=>?_,λq i j h1 h2=>.h,λq=>?_⟩
 ·rw[uk] at h;split at h<;>cases h
 ·obtain⟨h1,h2⟩:=bJ.mp h;obtain⟨a,b⟩:=(c j).mp h1;have e:ks.getD j 0=q:=by simpa using h2
  refine⟨_,by rw[<-e];exact T.at_ j a,.out a b (λz=>?_)<|jh.refl _⟩;have:=hk j z;omega
 ·exact bJ.mpr ⟨(c j).mpr ⟨h1,h2⟩,.m⟩
 ·have:=ft (λj=>ks.getD j 0 == q) os;rw[MR];omega
theorem Lv.next(V:Lv s shut R ks L W n d)(h:(W n).length<=d):Lv s shut R ks L W (n+1) 0:=by
 refine⟨V.ll,λj a e=>?_,V.wt,V.out,λq i j h1 h2=>V.dn q i j h1 ?_,V.cnt⟩
 ·obtain⟨q,x,h1,h2,b⟩:=V.lv j a e;exact⟨q,x,h1,.h,b⟩
 ·have:=(aB.mp h1).1;by_cases c:q=n
  ·subst c;exact .inr ⟨rfl,.h⟩
  ·exact .inl<|by omega
theorem Lv.skip(V:Lv s shut R ks L W n d){j:Nat}{a:Int}(b:(W n)[d]?=some j)(h:L[j]?=.bP):Lv s shut R ks L W n (d+1):=by
 refine⟨V.ll,V.lv,V.wt,V.out,λq i e h1 h2=>?_,V.cnt⟩;by_cases c:q=n/\i=d
 ·obtain⟨rfl,rfl⟩:=c;rw[b] at h1;cases h1;obtain⟨f,x,rfl,h2,_⟩:=V.lv j a h;exact⟨f,h,h2⟩
 ·exact V.dn q i e h1<|by omega
theorem Lv.turn(T:Tz s R ks)(hs:fN s)(V:Lv s shut R ks L W n d){j:Nat}{ns:.e}(l:(W n)[d]?=some j)(h:L[j]?=.am)(A:∀m,m∈ns↔Adj s j m/\m∉shut)(J:ns.length<=2048):
  Lv s shut R ks (L.set j<|some (n:Nat)) (λq=>W q++ns.filter λm=>.dh == q) n (d+1):=by
 have jl:=(aB.mp h).1;obtain⟨x,o,ox⟩:=V.wt n j<|bc l;have K:=(aB.mp l).1;have p:∀i a,L[i]?=.bP->i≠j:=λi a e z=>by rw[z,h] at e;cases e
 refine⟨by rw[fz];exact V.ll,λi a e=>?_,λq i hi=>?_,λi h1 h2=>dF _<|V.out i h1 h2,λq i k h1 h2=>?_,λq=>?_⟩
 ·by_cases c:i=j
  ·subst c;rw[gI jl] at e;cases e;exact⟨n,x,rfl,aG _,o,ox,λm t u=>eP _<|bJ.mpr ⟨(A m).mpr ⟨t,u⟩,.m⟩⟩
  ·rw[fQ<|aF c] at e;obtain⟨q,y,h1,h2,D,E,F⟩:=V.lv i a e;exact⟨q,y,h1,h2,D,E,λm t u=>dF _<|F m t u⟩
 ·rcases bZ.mp hi with z|z
  ·exact V.wt q i z
  ·obtain⟨G,H⟩:=bJ.mp z;obtain⟨⟨k,r,B,C⟩,is⟩:=(A i).mp G;have e:max n (ks.getD i 0)=q:=by simpa using H
   have v:.dW:=by
    have:=hs r<|bc B;rcases oZ C with⟨_,e⟩|⟨_,e⟩
    ·rw[<-e];exact this.2
    ·rw[<-e];exact this.1
   have hk:=T.at_ i v;have M:=(aB.mp o).1;have l2:=(aB.mp hk).1;obtain⟨y,w⟩:∃y,R[q]?=.ao:=⟨_,bo<|by omega⟩;exact⟨y,w,.step (ox.mono<|T.up.get o w<|by omega) B C is<|T.up.get hk w<|by omega⟩
 ·have h1:(W q++ns.filter λm=>.dh == q)[i]?=some k:=h1;have b:(W q)[i]?=some k->(q<n\/(q=n/\i<d))->∃f:Nat,(L.set j<|some (n:Nat))[k]?=some (some ((f:Nat):Int))/\f<=q:=λg c=>by
   obtain⟨f,e,le⟩:=V.dn q i k g c;exact⟨f,by rw[fQ<|aF<|p k _ e];exact e,le⟩
  by_cases c:q=n
  ·subst c;have v:i<(W q).length:=.h
   rw[bN v] at h1;by_cases I:i=d
   ·subst I;rw[l] at h1;cases h1;exact⟨q,gI jl,aG _⟩
   ·exact b h1<|.inr ⟨rfl,.h⟩
  ·have e:ns.filter (λm=>.dh == q)=[]:=yE.mpr λm _ z=>by
    have:.dh=q:=.c3
    omega
   rw[e,dR] at h1;exact b h1<|.inl<|by omega
 ·show(W q++_).length+_<=_;rw[bS];have:=ft (λm=>.dh == q) ns;have:=V.cnt q;have:=(sy (a:=(n:Nat))).1 h;omega
theorem Lv.over(T:Tz s R ks)(hs:fN s)(V:Lv s shut R ks L W s.joints.length 0){j:Nat}(v:.a7):∃o,L[j]?=.i/\(s.levels shut).getD j none=o.bind λa=>R[a.toNat]?:=by
 have g:∀h i,Off s shut h i->∃(q:Nat) (y:Len),L[i]?=some (some ((q:Nat):Int))/\R[q]?=.ao/\jh y h:=λh i o=>by
  have b:∀(q:Nat) (y:Len) (i:Nat),R[q]?=.ao->jh y h->i∈W q->∃(q:Nat) (y:Len),L[i]?=some (some ((q:Nat):Int))/\R[q]?=.ao/\jh y h:=λq y i d le hi=>by
   obtain⟨k,hk⟩:=fh hi;have ql:=(aB.mp d).1;obtain⟨n,e,f⟩:=V.dn q k i hk (.inl (by rw[<-T.rl];exact ql));obtain⟨u,l⟩:∃u,R[n]?=.ai:=⟨_,bo<|by omega⟩;exact⟨n,u,e,l,(T.up.get l d f).trans le⟩
  induction o with
  |out h1 h2 h3 h4=>exact b _ _ _ (T.at_ _ h1) h4<|V.out _ h1 h2
  |@step i m k r om hr ha is le ih=>
   obtain⟨q,y,e,d,f⟩:=ih;obtain⟨z,A,e0,_,_,_,nb⟩:=V.lv m _ e;have e0:q=z:=.h
   subst e0;have p:=nb i ⟨k,r,hr,ha⟩ is;have hk:=T.at_ i<|(Off.step om hr ha is le).lt hs;by_cases c:q<=ks.getD i 0
   ·rw[show max q (ks.getD i 0)=ks.getD i 0 by omega] at p;exact b _ _ _ hk le p
   ·rw[show max q (ks.getD i 0)=q by omega] at p;exact b _ _ _ d f p
 obtain⟨o,t⟩:∃o,L[j]?=.i:=⟨_,bo (by rw[V.ll];exact v)⟩;refine⟨o,t,((Cj hs shut).2 j v).uniq ?_⟩;cases o with
 |none=>
  intro h of;obtain⟨q,y,e,_⟩:=g h j of;rw[t] at e;cases e
 |some a=>
  obtain⟨q,x,rfl,_,w,ox,_⟩:=V.lv j a t;show vj s shut j R[((q:Nat):Int).toNat]?;rw[iU,w];refine⟨ox,λh of=>?_⟩;obtain⟨n,y,e,d,le⟩:=g h j of;rw[t] at e;have:q=n:=by have:=aI<|aI e;omega
  subst this;rw[w] at d;cases d;exact le
end
end Pw
namespace XL
open PySem
structure o5(B:Heap)(l:.a0)(e C dx:Addr)(h:Heap):Prop where
 stays:B.StaysIn h
 new:B.get? e=none
 frames:h.FunFrames B l
 obj:∃(vs:.aE) (sl:Array .br),h.get? e=some { cls:=.I,dict:=some dx,data:=.ci,slots:=sl }/\
  (vs[1]?=some .none\/∃(T:Addr) (oT:Obj) (ts:.aE),vs[1]?=some (.ref T)/\B.get? T=none/\T≠e/\h.get? T=some oT/\oT.data=.fields ts/\ts[3]?=some .none)
structure Kept(h h':Heap):Prop where
 slots:∀b o,.bK->(∀vs,o.data≠ .ci)->∃sl,.aQ=some { o with slots:=sl }
 there:∀b o,.bK->∃o',.aQ=some o'
theorem Kept.refl(h:Heap):Kept h h:=⟨λ_ o e _=>⟨o.slots,e⟩,λ_ o e=>⟨o,e⟩⟩
theorem Kept.trans{a b c:Heap}(x:Kept a b)(y:Kept b c):Kept a c:=
 ⟨λp o e n=>let ⟨_,e1⟩:=x.slots p o e n;let ⟨sl,e2⟩:=y.slots p _ e1 n;⟨sl,e2⟩,λp o e=>let ⟨o1,e1⟩:=x.there p o e;y.there p o1 e1⟩
section
variable{M:Model}{A:Around}{E:.ac}{s:Shared}
theorem Xt{B:Heap}{env:Env}{outer:.a0}{L e:Addr}{f:Obj}{vs:.aE}{d:Value}{c:Bool}{Q:Unit->.aT}
  (h:A.frames=some .cE) (k:s.heap.FunFrames B .cE) (r:env.frame=some L) (l:s.heap.get? e=some f) (n:f.data=.ci) (hsz:1<vs.size)
  (t:∀(g:Heap) (i:Obj) (p:.aE),Heap.SlotsOnly ((.cE).filterMap (·.frame)) s.heap g->i.isFreed=false->i.data=.fields p->3<p.size->
   Q () { s with heap:=(g.push i).update e (iw (·.setIfInBounds 1 (br g.objs.size))) }):
  wpAny M A (do let a <-frameOf env;let pl <-entryPlaceOf L c;let b <-zO d a .none (rawInt L) .none pl;setField .a_ 1 b) Q E s:=by
 have out:e∉(.cE).filterMap (·.frame):=λm=>by
  obtain⟨_,o,q,u⟩:=k.mem m;rw[l] at q;cases q;exact u vs n
 refine wpAny_bind<|wpAny_frameOf_fun h k r λg sg=>wpAny_bind<|wpAny_entryPlaceOf λpl j=>?_;unfold zO newFields;refine wpAny_bind<|wpAny_newObj_type ?_<|j.sizeOk5 _ _ _ _ _;have v:g.get? e=some f:=(sg.2.1 e out).trans l;refine wpAny_setField (aY _ v) n hsz<|t g _ _ sg rfl rfl ?_;simp only[b9,bS,bB,og];omega
theorem Wj{B:Heap}{env:Env}{outer:.a0}{L e C dx:Addr}{Q:Unit->.aT}(I:A.frames=some .cE)(S:env.frame=some L)(F:o5 B .cE e C dx s.heap)
  (U:∀h',o5 B .cE e C dx h'->Kept s.heap h'->Q () .cO):wpAny M A (noteFrame .a_ env) (λ_ s'=>wpAny M A (setFlight .a_ none) Q E s') E s:=by
 obtain⟨vs,D,G,ht⟩:=F.obj;have u:∀(s1:Shared) (d:.aE) (p:Value) (f:Bool),s1.heap.FunFrames B .cE->B.StaysIn s1.heap->s1.heap.get? e=some { cls:=.I,dict:=some dx,data:=.fields d,slots:=D }->1<d.size->
   (∀h',o5 B .cE e C dx h'->Kept s1.heap h'->Q () { s1 with heap:=h' })->
   wpAny M A (do let a <-frameOf env;let pl <-entryPlaceOf L f;let b <-zO p a .none (rawInt L) .none pl;setField .a_ 1 b) (λ_ s'=>wpAny M A (setFlight .a_ none) Q E s') E s1:=by
  intro s1 d p f H v i hsz J;refine Xt I H S i rfl hsz λg t K sg r h w=>?_;have out:e∉(.cE).filterMap (·.frame):=λm=>by
   obtain⟨_,o,V,j⟩:=H.mem m;rw[i] at V;cases V;exact j d rfl
  have W:g.get? e=some { cls:=.I,dict:=some dx,data:=.fields d,slots:=D }:=(sg.2.1 e out).trans i;have n:g.objs.size≠e:=gR<|aZ W;have N:((g.push t).update e<|iw (·.setIfInBounds 1 (br g.objs.size))).get? e=some { cls:=.I,dict:=some dx,data:=.fields<|d.setIfInBounds 1<|br g.objs.size,slots:=D }:=
   l6 (iw (·.setIfInBounds 1 (br g.objs.size))) (aY t W) rfl
  have X:((g.push t).update e<|iw (·.setIfInBounds 1 (br g.objs.size))).get? g.objs.size=some t:=
   (gJ _ _<|aF n).trans (cY g r)
  have Y:(d.setIfInBounds 1<|br g.objs.size)[1]?=some (.ref g.objs.size):=by simp[hsz]
  unfold setFlight;refine wpAny_bind<|wpAny_field N rfl Y ?_;rw[if_pos<|by simp];refine wpAny_setField X h w<|J _ ⟨λb o c=>?_,F.new,?_,d.setIfInBounds 1<|br g.objs.size,D,?_,.inr ⟨g.objs.size,iw (·.setIfInBounds 3 dC) t,K.setIfInBounds 3 dC,Y,?_,n,?_,mB h _,?_⟩⟩ ⟨λb o c j=>?_,λb o c=>?_⟩
  ·have nb:b≠e:=λz=>by rw[z,F.new] at c;cases c
   have O:=v b o c;have x:g.get? b=.i:=(sg.2.1 b λm=>by rw[(H.mem m).1] at c;cases c).trans O;rw[gJ _ _<|gR<|aZ x,gJ _ _<|aF nb];exact aY _ x
  ·refine H.of_keeps λb o c j=>?_;obtain⟨k,q⟩:=sg.2.2 b o c;have nb:b≠e:=λz=>by rw[z,i] at c;cases c;exact j d rfl
   refine⟨{ o with slots:=k },?_,rfl⟩;rw[gJ _ _<|gR<|aZ q,gJ _ _<|aF nb];exact aY _ q
  ·rw[gJ _ _ n];exact N
  ·cases c:B.get? g.objs.size with
   |none=>rfl
   |some o=>
    have:=aZ<|v _ o c;rw[sg.1] at this;exact absurd this<|gQ _
  ·exact l6 _ X<|uT<|mB h _
  ·simp[w]
  ·obtain⟨k,q⟩:=sg.2.2 b o c;have nb:b≠e:=λz=>by rw[z,i] at c;cases c;exact j d rfl
   refine⟨k,?_⟩;rw[gJ _ _<|gR<|aZ q,gJ _ _<|aF nb];exact aY _ q
  ·obtain⟨k,q⟩:=sg.2.2 b o c;by_cases nb:b=e
   ·subst nb;exact⟨_,by rw[gJ _ _ n];exact N⟩
   ·refine⟨{ o with slots:=k },?_⟩;rw[gJ _ _<|gR<|aZ q,gJ _ _<|aF nb];exact aY _ q
 unfold noteFrame;simp only[S];rcases ht with h1|⟨T,t,K,h1,P,R,y,h,w⟩
 ·refine wpAny_bind<|wpAny_field G rfl h1 ?_;rw[.be];exact u s vs _ _ F.frames F.stays G (oG.mp h1).1 U
 ·refine wpAny_bind<|wpAny_field G rfl h1 ?_;rw[if_pos<|by simp];refine wpAny_bind<|wpAny_field y h w ?_;rw[if_neg<|show ¬((dC == rawInt L)=true) by simp[rawInt]];refine wpAny_bind<|wpAny_setField y h (oG.mp w).1 ?_;have l:∀b,b≠T->(s.heap.update T<|iw (·.setIfInBounds 3 dC)).get? b=s.heap.get? b:=λb c=>gJ _ _<|aF c;have Z:∀b o,.bx->(∀vs,o.data≠ .ci)->b≠T:=λb o c j z=>by
   rw[z,y] at c;cases c;exact j K h
  have K1:Kept s.heap (s.heap.update T (iw (·.setIfInBounds 3 dC))):=⟨λb o c j=>⟨o.slots,(l b (Z b o c j)).trans c⟩,λb o c=>by
   by_cases z:b=T
   ·subst z;rw[y] at c;cases c;exact⟨_,l6 _ y<|uT<|mB h _⟩
   ·exact⟨o,(l b z).trans c⟩⟩
  refine u { s with heap:=s.heap.update T (iw (·.setIfInBounds 3 dC)) } vs _ _ (F.frames.of_keeps λb o c j=>⟨o,(l b<|Z b o c j).trans c,rfl⟩)
   (λb o c=>(l b λz=>by rw[z,P] at c;cases c).trans<|F.stays b o c) ((l e<|aF R).trans G) (oG.mp h1).1 λh' F' K'=>U h' F'<|K1.trans K'
theorem o5.tail{B h:Heap}{env:Env}{outer:.a0}{e C dx:Addr}(F:o5 B .cE e C dx h):o5 B outer e C dx h:=⟨F.stays,F.new,F.frames.2.2,F.obj⟩
theorem Xu{B:Heap}{env:Env}{outer:.a0}{L e C dx:Addr}{Q:Unit->.aT}(a:A.frames=some .cE)(b:env.frame=some L)(F:o5 B .cE e C dx s.heap)
  (c:∀h',o5 B outer e C dx h'->Kept s.heap h'->Q () .cO):wpAny M A (leaving env<|.ref e) Q E s:=
 wpAny_bind (Wj a b F λh' d f=>c h' d.tail f)
theorem aab{B:Heap}{l:.a0}{e C dx:Addr}{Q:Unit->.aT}(F:o5 B l e C dx s.heap)(m:∀h',o5 B l e C dx h'->Kept s.heap h'->Q () .cO):wpAny M A (setFlight .a_ none) Q E s:=by
 obtain⟨vs,r,i,ht⟩:=F.obj;unfold setFlight;rcases ht with h1|⟨T,t,j,h1,f,g,k,d,u⟩
 ·refine wpAny_bind<|wpAny_field i rfl h1 ?_;rw[.be];exact wpAny_pure<|m s.heap F<|Kept.refl _
 ·refine wpAny_bind<|wpAny_field i rfl h1 ?_;rw[if_pos<|by simp];have n:3<j.size:=(oG.mp u).1;refine wpAny_setField k d n ?_;have c:∀b,b≠T->(s.heap.update T<|iw (·.setIfInBounds 3 dC)).get? b=s.heap.get? b:=λb a=>gJ _ _<|aF a;have p:=l6 (iw (·.setIfInBounds 3 dC)) k<|uT<|mB d _;have q:∀b o,.bx->(∀vs,o.data≠ .ci)->b≠T:=λb o a h z=>by
   rw[z,k] at a;cases a;exact h j d
  refine m _ ⟨λb o a=>(c b λz=>by rw[z,f] at a;cases a).trans (F.stays b o a),F.new,F.frames.of_keeps λb o a h=>⟨o,(c b (q b o a h)).trans a,rfl⟩,
   vs,r,(c e (aF g)).trans i,.inr ⟨T,iw (·.setIfInBounds 3 dC) t,j.setIfInBounds 3 dC,h1,f,g,p,mB d _,by simp[n]⟩⟩ ⟨λb o a h=>⟨o.slots,(c b (q b o a h)).trans a⟩,λb o a=>?_⟩
  by_cases z:b=T
  ·exact⟨_,by rw[z];exact p⟩
  ·exact⟨o,(c b z).trans a⟩
end
open PySem.W PySem.Calls PyProof.Rows Builtin Builtin.ObjectAttr
structure Jp(h:Heap)(C:Addr)(bm:.u):Prop where
 obj:∃(nm q:Str) (N:Addr) (bs:.u) (hd:Bool) (sn:.L) (sub:.u) (ab:Bool) (col:Option Bool) (dd:.bS) (k0 k1 k2 k3 k5:.br),
  h.get? C=some (excClassObj nm q C N bs bm hd sn sub ab col dd k0 k1 k2 k3 k5 "Exception.__new__")
 isE:bm.contains (.type "Exception")=true
 isB:bm.contains .cy=true
 Pg:bm.contains (.type "AttributeError")=false
 noN:bm.contains (.type "NameError")=false
theorem Jp.keeps{h h':Heap}{C:Addr}{bm:.u}(x:Jp h C bm)(k:∀b o,.bK->.aQ=.i):Jp h' C bm:=by
 obtain⟨⟨nm,q,N,bs,g,i,sub,j,f,l,m,n,p,r,s,e⟩,a,b,c,d⟩:=x;exact⟨⟨nm,q,N,bs,g,i,sub,j,f,l,m,n,p,r,s,k _ _ e⟩,a,b,c,d⟩
theorem vw{C:Addr}{bm:.u}{n:String}{b:Bool}(e:bm.contains (.type n)=b):(br C::bm).contains (.type n)=b:=by
 rw[uu,e];rfl
section
variable{prog:Program}{w:World}{A:Around}{h:Heap}{g:Array GenState}{d:Drawn}{t:Nat}{os:OsState}{C:Addr}{bm:.u}
theorem Xv{M:Model}{E:.ac}{rest:.u}{Q:Unit->.aT}(x:Jp h C bm)(f:Q () ⟨h,g,d,t,os⟩):wpAny M A (checkBuiltinCall "Exception.__new__" ⟨ .I::rest,[]⟩) Q E ⟨h,g,d,t,os⟩:=by
 obtain⟨⟨nm,q,N,bs,m,n,sub,o,i,p,r,s,u,v,w,a⟩,c,j,y,k⟩:=x;have b:=zk;have l:=vw (C:=C) c;have e:=b.noStar;simp only[checkBuiltinCall,b.newKind,b.newSplit,b.newRow];repeat (first
  |refine wpAny_loadPart_at a ?_
  |(refine wpAny_isSubtype_exc a ?_;rw[l])
  |refine wpAny_staticBase_exc a ?_
  |refine wpAny_madeBy_exc a ?_
  |simp only[bne_self_eq_false,ze,if_false]
  |wp_step)
 exact f
theorem ab2{R:Result->.aT}{rest:.u}(x:Jp h C bm)(i:rest.length<=sizeLine)
  (k:R (.ok<|.ret<|.ref<|h.objs.size+1) ⟨ .eG,g,d,t,os⟩):
  codeAny .ad A (.builtin "Exception.__new__" ⟨ .I::rest,[]⟩) R ⟨h,g,d,t,os⟩:=by
 obtain⟨⟨nm,q,N,bs,u,v,sub,y,l,z,B,D,E,F,G,b⟩,c,m,n,e⟩:=x;have a:=zk;have j:=a.ends;have o:=vw (C:=C) c;have r:=vw (C:=C) n;have s:=vw (C:=C) e;refine(codeAny_builtinAt a.entry ?_);unfold Builtin.«BaseException.__new__»;refine(FZ ?_);show PySem.wpAt _ _ _ (stack >>= _) _ _ _;refine(FZ (PySem.wpAt_stack λp f=>FY ?_));wp_walk;refine(FY ?_);rw[a.owner];repeat (first
  |with_reducible refine wpAny_madeHere_exc a.canon b ?_
  |with_reducible refine wpAny_loadPart_at b ?_
  |(with_reducible refine wpAny_isSubtype_exc b ?_;first|rw[o]|rw[r]|rw[s])
  |wp_step)
 show R _ _;rw[dB];exact k
theorem aac{K:Frag}{R:Result->.aT}{rest:.u}{f:Addr}(x:Jp h C bm)(X:K.In h)(c:rest.length<=sizeLine)(hi:findIn K .I "__init__"=.c2)(m:typeIn K .aG=some (.type "function"))
  (n:codeAny .ad (A.under (.builtin "type.__call__" ⟨ .I::rest,[]⟩)) (.call .aG ⟨.ref (h.objs.size+1)::rest,[]⟩) (InitBack (h.objs.size+1) R)
   ⟨ .eG,g,d,t,os⟩):
  codeAny .ad A (.call .I ⟨rest,[]⟩) R ⟨h,g,d,t,os⟩:=by
 have l:=x;obtain⟨⟨nm,q,N,bs,F,G,sub,H,p,I,J,L,O,P,Q,a⟩,s,u,S,y⟩:=x;have T:=tc_lookup;have U:=tc_bind<|.ref C;have B:=zk;have V:(⟨h,g,d,t,os⟩:Shared).TypeIs .I "type":=⟨_,a,rfl⟩;refine(codeAny_of_tree ?_);show wpAny _ _ (callAny .I _) _ _ _;repeat (any_goals (first|assumption|with_reducible refine wpAny_loadPart_at a ?_|wp_step))
 refine⟨rfl,?_⟩;refine codeAny_call_builtin_at (Gw _<|by decide +kernel) entry_typeCall<|wpAny_check_type_call_sub a ?_;repeat (first|with_reducible refine wpAny_loadPart_at a ?_|with_reducible refine wpAny_madeBy_exc a ?_|wp_step)
 refine codeAny_call_builtin_code (Gw _ B.quiet)<|Xv l ?_;refine ab2 l c ?_;have k:∀b o,.bK->(.eG).get? b=.i:=
  λb o e=>aY _<|aY _ e
 have i:=k _ _ a;have j:(.eG).get? (h.objs.size+1)=some
   { cls:=.I,data:=.fields #[.ref h.objs.size,.none,.none,.none,.bool false,.none] }:=by heap_get
 have D:(br C::bm).contains .I=true:=.m
 have E:=(looks_findIn (M:=.ad) X hi).keeps k;have b1:=(bind_fn (M:=.ad) X (.ref<|h.objs.size+1) m).keeps k;have t1:Looks .ad .eG (typeOf<|.ref<|h.objs.size+1) .I:=(uZ j).andThen .now;show wpAny _ _ _ _ _ _;unfold isInstance;repeat (first|with_reducible refine wpAny_loadPart_at j ?_|wp_step)
 refine(wpAny_isSubtype_exc i ?_);rw[D];unfold callSpecial? specialOf;repeat (first|with_reducible refine wpAny_loadPart_at j ?_|wp_step)
 refine E.at ?_;refine(wpAny_holding<|wpAny_bind<|b1.at ?_);refine(wpAny_bind<|wpAny_call<|codeAny_mono n λr s' z=>?_);rcases r with e|(v|_|_|_)<;>first|exact z|exact z.elim|skip
 obtain⟨rfl,z⟩:=z;exact(wpAny_pure<|wpAny_pure z)
end
def mG:.u->Bool
 |.ref _::r=>mG r
 |l=>l == [.type "Exception",.cy,.type "object"]
theorem qh(self:Value):∀{l:.u},mG l=true->refuseLoop self "__setattr__" l=pure ()
 |[],e=>by cases e
 |v::r,e=>by
  cases v with
  |ref c=>rw[refuseLoop_ref];exact qh self (l:=r) e
  |_=>
   have z:=.ft;rw[z];exact PySem.F.store_Exception.passes self
theorem vx:∀{l:.u},mG l=true->l.contains (.type "object")=true/\l.isEmpty=false
 |[],e=>by cases e
 |v::r,e=>by
  cases v with
  |ref c=>
   obtain⟨h1,_⟩:=vx (l:=r) e;exact⟨by rw[uu,h1,zh],rfl⟩
  |_=>
   have z:=.ft;rw[z];exact⟨ .aq,rfl⟩
section
variable{prog:Program}{w:World}{A:Around}{E:.ac}{s:Shared}{K:Frag}{C x:Addr}{ox:Obj}{od:Option Obj}{cd:ClassData}{name:Str}{v:Value}
theorem ab3{mA:.aa}{ns:.L}{Q:Unit->.aT}(X:K.In s.heap)(i:s.heap.get? x=some ox)(g:ox.cls=.I)(u:∃vs,ox.data=.ci)
  (B:(ox.dict=none/\∀n,mA n=none)\/∃dx,ox.dict=some dx/\dx≠x/\s.heap.Ns1 dx mA)
  (hs:findIn K .I "__setattr__"=.el) (D:clsIn K C=some cd) (U:mG cd.mro=true) (W:cd.hasDict=true) (ht:takerIn K C name=.am)
  (Y:Within mA ns) (hsz:ns.length<sizeLine)
  (G:∀(h':Heap) (dx:Addr) (tk:Nat),h'.get? x=some { ox with dict:=some dx }->dx≠x->h'.Ns1 dx (λy=>if y=name then .av else mA y)->(ox.dict=some dx\/(ox.dict=none/\s.heap.get? dx=none/\s.heap.objs.size<=dx))->
   (∀b o,b≠x->b≠dx->.bx->.aQ=.i)->Q () .c_):
  wpAny .ad A (setAttr .aB name v) Q E s:=by
 obtain⟨vs,c⟩:=u;have m:=PySem.F.store_object;have ty:Looks .ad s.heap (typeOf<|.ref x) .I:=g▸(uZ i).andThen .now;obtain⟨H,ne⟩:=vx U;have sub:Looks .ad s.heap (isInstance .aB<|.type "object") true:=ty.andThen (looks_mroIn X (by unfold mroIn;rw[D,jQ,if_neg (by rw[ne];decide),H]));have p:Looks .ad s.heap (mroOf<|.ref C) cd.mro:=(looks_clsIn X D).andThen .now;obtain⟨j,Z,V⟩:=Option.bind_eq_some_iff.mp ht;have J:Looks .ad s.heap (storeTaker? j) none:=by
  cases j with
  |none=>cases V;exact .now
  |some a=>
   obtain⟨b,L,e⟩:=oI.mp V;refine(looks_takesIn X L).andThen ?_;cases b with
   |true=>cases e
   |false=>exact .now
 obtain⟨od,I⟩:∃od,InstAt s.heap x ox C od:=by
  rcases B with⟨e,_⟩|⟨dx,e,_,o,es,ep,ho,_⟩
  ·exact⟨none,i,g,by unfold notCls;rw[c],by rw[e];trivial⟩
  ·exact⟨ .i,i,g,by unfold notCls;rw[c],by rw[e];exact ho⟩
 refine(set_plain X I hs ?_);refine(codeAny_call_builtin m.slot.plain m.entry<|@check_slot .ad _ _ .bE "object.__setattr__" "object" "__setattr__" .aB [.str name s.toks,v] [] _ m.kind m.split sub (m.args .aB (.str name s.toks) v) ?_);rw[osa_eq,refuse_eq];refine(wpAny_bind<|wpAny_bind<|mC (s:=.bE) ty<|wpAny_bind<|mC (s:=.bE) p ?_);rw[qh _ U];refine(wpAny_pure<|wpAny_bind<|mC (s:=.bE) ty<|wpAny_bind<|mC (s:=.bE) (looks_findIn X Z)<|wpAny_bind<|mC (s:=.bE) J ?_);clear I;obtain⟨oc,odd,oda,osl⟩:=ox;dsimp only at g c B i G;subst g c;refine(wpAny_bind<|wpAny_pure<|wpAny_bind<|wpAny_bind<|wpAny_loadPart i<|wpAny_bind<|mC (s:=.bE) (looks_clsIn X D) ?_);rw[W];have h:∀(dx:Addr) (s1:Shared),s1.heap.Ns1 dx mA->(∀h',h'.Ns1 dx (λy=>if y=name then .av else mA y)->kK dx s1.heap h'->∀tk,Q () { s1 with heap:=h',toks:=tk })->
   wpAny .ad (A.in1) (storeInDict dx (.str name s.toks) name v)
    (λh s'=>match h with|.done f=>(match (.ok f:Result) with|.ok (.ret _)=>Q () s'|.ok _=>False|.error e=>E e s')|.again c'=>c'.quiet=true/\codeAny .ad A c' (λr s'=>match r with|.ok (.ret _)=>Q () s'|.ok _=>False|.error e=>E e s') s') (λe s'=>E e s') s1:=by
  intro dx s1 n1 M;unfold storeInDict newKeyGuard;refine(wpAny_bind<|wpAny_pure<|wpAny_bind<|wpAny_nsSet1 n1 λh' l k=>?_);obtain⟨oD,esD,epD,N,O,P⟩:=l.count<|GK name v Y;refine(wpAny_bind<|wpAny_lookBehind N (by rw[O];exact pastItsLine_dict<|bK P (by rw[bB];omega)) ?_);exact wpAny_pure<|M h' l k _
 rcases B with⟨rfl,R⟩|⟨dx,rfl,q,S⟩
 ·have t:(.cc).get? x=some ⟨ .I,none,.ci,osl⟩:=aY _ i;have nx:x≠s.heap.objs.size:=cy<|aZ i;show wpAny _ _ (do let d <-alloc { cls:=.type "dict",data:=.dict #[] };update x λo=>{ o with dict:=.aS };dictMade .I x d) _ _ _
  refine(wpAny_bind<|wpAny_alloc' ?_);refine(wpAny_bind<|wpAny_update' t ?_);refine(wpAny_pure (a:=some s.heap.objs.size) ?_);have gd:(.fG).get? s.heap.objs.size=some .bi:=
   (Fg _ _ _ _<|aF nx).trans (Heap.get?_push_at rfl rfl)
  have gx:(.fG).get? x=some ⟨ .I,some s.heap.objs.size,.ci,osl⟩:=
   l6 _ t rfl
  have nd:(.fG).Ns s.heap.objs.size (λ_=>none):=
   ⟨_,#[],_,gd,rfl,λe he=>absurd he<|by simp,λ_=>rfl⟩
  have T:mA=λ_=>none:=funext R;refine(wpAny_mono (h s.heap.objs.size _ (by rw[T];exact Gz nd) λh' l k tk=>?_) (λf s' z=>z) λ_ _ z=>z);refine(G h' s.heap.objs.size tk ((k.2 x nx).trans gx) (aF nx) l (.inr ⟨rfl,Ff<|aG _,aG _⟩) λb o h1 h2 e=>?_);exact(k.2 b h2).trans<|(Fg _ _ _ _ h1).trans<|aY _ e
 ·refine(wpAny_pure (a:=some dx) ?_);refine(wpAny_mono (h dx .bE S λh' l k tk=>G h' dx tk ((k.2 x<|aF q).trans i) q l .ar λb o _ L e=>(k.2 b L).trans e) (λf s' z=>?_) λ_ _ z=>z);exact z
theorem ab5{a:Bool}{Q:.ac}(X:K.In s.heap)(I:InstAt s.heap x ox C od)(h:clsIn K C=some cd)(c:cd.mro.contains .cy=true)
  (d:findIn K .I "__getattribute__"=.fL) (f:findIn K .I "__getattr__"=.am)
  (i:findObj K C od name=some (.value v)) (hv:handedIn v=true) (j:Q v .bE):wpAny .ad A (getAttr .aB name a) Q E s:=by
 have ty:=I.type (M:=.ad);have ne:cd.mro.isEmpty=false:=by
  cases e:cd.mro with
  |nil=>rw[e] at c;cases c
  |cons _ _=>rfl
 have sub:Looks .ad s.heap (isInstance .aB .cy) true:=ty.andThen (looks_mroIn X (by unfold mroIn;rw[h,jQ,if_neg (by rw[ne];decide),c]));have b:Looks .ad s.heap (hookBefore .I) none:=looks_hook X (by rw[if_pos (show onTheHeap .I=true from rfl)];exact f);have fd:=looks_find (M:=.ad) X I i;have g:=PySem.F.attr_Exception.ga;refine(wpAny_bind (wpAny_mkText (wpAny_holding (wpAny_bind (ty _ _ _ _ (λ_ _ e=>e) (wpAny_bind (looks_findIn X d _ _ _ _ (λ_ _ e=>e) ?_)))))));dsimp only;rw[show (onTheHeap (br C)&&oz "BaseException.__getattribute__" == oz "object.__getattribute__")=false from by
  rw[show (oz "BaseException.__getattribute__" == oz "object.__getattribute__")=false from .aq,zg],if_neg .O]
 refine(wpAny_bind<|b _ _ _ _ (λ_ _ e=>e)<|wpAny_bind<|wpAny_attempt<|wpAny_holding ?_);unfold callGetattribute;rw[show (a&&onTheHeap (oz "BaseException.__getattribute__"))=false from zg _,.be];unfold boundAndCalled;rw[g.bind];refine(wpAny_bind<|wpAny_pure ?_);show wpAny _ _ (call (.builtin "BaseException.__getattribute__") [.aB,.str name s.toks]) _ _ _;refine(wpAny_call ?_);refine(codeAny_call_builtin g.plain PySem.F.entry_bexc_ga ?_);refine(@check_slot .ad _ _ .bE "BaseException.__getattribute__" "BaseException" "__getattribute__" .aB [.str name s.toks] [] _ .aq .aq sub (PySem.F.args_bexc_ga .aB<|.str name s.toks) ?_);unfold Builtin.«object.__getattribute__»;refine(wpAny_bind<|wpAny_pure<|wpAny_bind<|wpAny_pure<|wpAny_bind<|ty.here (s:=.bE)<|wpAny_bind<|fd.here (s:=.bE) ?_);refine(wpAny_pure ?_);show wpAny _ _ (handedOut v) _ _ _;rw[handedOut_of hv];exact(wpAny_pure j)
theorem Xw{env:Env}{m:Sem Value}{Q:Flow->.aT}(p:.c5)
  (h:wpAny .ad A m (λu s1=>∃(e C:Addr) (dx:.bS) (vs:.aE) (cd:ClassData),u=.a_/\K.In s1.heap/\s1.heap.get? e=some { cls:=.I,dict:=dx,data:=.ci }/\vs[1]?=some .none/\
   clsIn K C=some cd/\cd.mro.contains .cy=true/\cd.mro.contains .bN=false/\typeIn K .I=some .bN/\E .a_ s1) E s):wpAny .ad A (raiseStmt env (some m) none) Q E s:=by
 unfold raiseStmt;refine(wpAny_bind<|wpAny_mono h (λu s1 ⟨e,C,dx,vs,cd,q,X,a,h1,k,b,r,c,t⟩=>?_) λ_ _ z=>z);subst q;have ne:cd.mro.isEmpty=false:=by
  cases e:cd.mro with
  |nil=>rw[e] at b;cases b
  |cons _ _=>rfl
 have ty:Looks .ad s1.heap (typeOf<|.ref e) .I:=(uZ a).andThen .now;have l:Looks .ad s1.heap (isSubtype .I<|.type "BaseException") true:=looks_mroIn X (by unfold mroIn;rw[k,jQ,if_neg (by rw[ne];decide),b]);have n:Looks .ad s1.heap (isSubtype .I<|.type "type") false:=looks_mroIn X (by unfold mroIn;rw[k,jQ,if_neg (by rw[ne];decide),r]);obtain⟨f,i,j⟩:∃f,K.lookup C=some f/\f.cls=.bN:=oI.mp<|show(K.lookup C).map (·.cls)=some .bN from c;have o:=X _ _ i;obtain⟨hp,g,d,tk,os⟩:=s1;dsimp only at X a ty l n o;repeat (first|with_reducible refine wpAny_loadPart_at a ?_|with_reducible refine l.at ?_|with_reducible refine n.at ?_|with_reducible refine wpAny_field a rfl h1 ?_|(with_reducible refine wpAny_loadPart_at o ?_;rw[j])|wp_step)
 exact(wpAny_raiseNew_none p t)
theorem Xx{e D:Addr}{k:Obj}{b:Bool}{cD:ClassData}{Q:Bool->.aT}(X:K.In s.heap)(l:s.heap.get? e=some k)(h:k.cls=.I)(t:clsIn K C=some cd)(ne:cd.mro.isEmpty=false)(u:cd.mro.contains .bw=b)
  (c:clsIn K D=some cD) (a:cD.mro.contains .cy=true) (i:typeIn K .bw=some .bN) (v:Q b s):wpAny .ad A (excMatches .a_<|.ref D) Q E s:=by
 have x:cD.mro.isEmpty=false:=by
  cases q:cD.mro with
  |nil=>rw[q] at a;cases a
  |cons _ _=>rfl
 have ty:Looks .ad s.heap (typeOf<|.ref e) .I:=h▸(uZ l).andThen .now;have m:Looks .ad s.heap (typeOf<|.ref D) .bN:=looks_typeIn X i;have s1:Looks .ad s.heap (isSubtype .bw<|.type "BaseException") true:=looks_mroIn X (by unfold mroIn;rw[c,jQ,if_neg (by rw[x];decide),a]);have n:Looks .ad s.heap (isSubtype .I<|.ref D) b:=looks_mroIn X (by unfold mroIn;rw[t,jQ,if_neg (by rw[ne];decide),u]);have o:Looks .ad s.heap (isSubtype .bN<|.type "tuple") false:=Ge tc_notTuple;have p:Looks .ad s.heap (isSubtype .bN<|.type "type") true:=Ge tc_sub;obtain⟨oc,od,r,j⟩:∃oc od r,K.lookup D=some ⟨oc,od,.cls cD,r⟩:=by
  unfold clsIn at c;split at c
  ·rename_i q;cases c;exact⟨_,_,_,q⟩
  ·cases c
 have f:=X _ _ j;obtain⟨hp,g,d,tk,os⟩:=s;dsimp only at X l ty m s1 n o p f;unfold excMatches isInstance isExcClass isType;repeat (first|with_reducible refine ty.at ?_|with_reducible refine m.at ?_|with_reducible refine s1.at ?_|with_reducible refine n.at ?_|with_reducible refine o.at ?_|with_reducible refine p.at ?_|with_reducible refine wpAny_loadPart_at f ?_|wp_step)
 cases b<;>(wp_walk;exact v)
end
end XL
namespace L2
open PySem PySem.Spec PyProof.Rows
abbrev Key:=Sum Int Str
def vy:Key->Value->Bool
 |.inl k,v=>FU k v
 |.inr x,v=>FT x v
def aad(w:World):Key->Int
 |.inl k=>hashInt k
 |.inr x=>hashStr w x
theorem fY:∀{k:Key} {v:Value},vy k v=true->(∃i t,k=aU i/\v=oE i t)\/(∃x t,k=aK x/\v=uO x t)
 |.inl i,v,h=>by
  obtain⟨t,e⟩:=Value.isInt_shape (k:=i) (v:=v) h;exact .inl ⟨i,t,rfl,e⟩
 |.inr x,v,h=>by
  obtain⟨t,e⟩:=Value.isStrOf_shape (x:=x) (v:=v) h;exact .inr ⟨x,t,rfl,e⟩
theorem MT(i:Int)(t:Tok):vy (.inl i) (.int i t)=true:=by simp[vy,FU]
theorem MU(x:Str)(t:Tok):vy (.inr x) (.str x t)=true:=by simp[vy,FT]
theorem Xy(a b:Int):decide ((aU a:Key)=aU b)=(a == b):=by
 by_cases e:a=b
 ·subst e;simp
 ·have h:¬(aU a:Key)=aU b:=λq=>e<|qX q;rw[decide_eq_false h];exact(beq_eq_false_iff_ne.mpr e).symm
theorem Xz(a b:Str):decide ((aK a:Key)=aK b)=decide (a=b):=by
 by_cases e:a=b
 ·subst e;simp
 ·have h:¬(aK a:Key)=aK b:=λq=>e<|qY q;rw[decide_eq_false h,decide_eq_false e]
theorem XA(a:Int)(b:Str):decide ((aU a:Key)=aK b)=false:=decide_eq_false λq=>nomatch q
theorem XB(a:Str)(b:Int):decide ((aK a:Key)=aU b)=false:=decide_eq_false λq=>nomatch q
def dk(prog:Program)(w:World):PySem.KeyKind prog w Key where
 is:=vy
 hash:=aad w
 inj:=λv a b d c=>by
  rcases fY d with⟨i,t,rfl,rfl⟩|⟨x,t,rfl,rfl⟩
  ·rcases fY c with⟨j,u,rfl,e⟩|⟨y,u,rfl,e⟩
   ·injection e with e1 _;rw[e1]
   ·exact nomatch e
  ·rcases fY c with⟨j,u,rfl,e⟩|⟨y,u,rfl,e⟩
   ·exact nomatch e
   ·injection e with e1 _;rw[e1]
 byValue:=λk v h=>by
  rcases fY h with⟨i,t,rfl,rfl⟩|⟨x,t,rfl,rfl⟩<;>rfl
 pyHash:=λhv h=>by
  rcases fY hv with⟨i,t,rfl,rfl⟩|⟨x,t,rfl,rfl⟩
  ·exact wpAny_pyHash_int h
  ·exact wpAny_pyHash_str h
 eqBool:=λf hv h=>by
  rcases fY f with⟨i,t,rfl,rfl⟩|⟨x,t,rfl,rfl⟩
  ·rcases fY hv with⟨j,u,rfl,rfl⟩|⟨y,u,rfl,rfl⟩
   ·rw[Xy] at h;exact wpAny_eqBool_int h
   ·rw[XA] at h;exact Gx i t y u _ _ _ _ h
  ·rcases fY hv with⟨j,u,rfl,rfl⟩|⟨y,u,rfl,rfl⟩
   ·rw[XB] at h;exact Gy x t j u _ _ _ _ h
   ·rw[Xz] at h;exact wpAny_eqBool_str h
 «strs»:=λk x t v h=>by
  rcases fY h with⟨i,u,rfl,e⟩|⟨y,u,rfl,e⟩
  ·exact nomatch e
  ·injection e with e1 _;subst e1;cases v<;>rfl
theorem Hg(prog:Program)(w:World)(i:Int)(t:Tok):(dk prog w).is (.inl i) (.int i t)=true:=MT i t
theorem Hh(prog:Program)(w:World)(x:Str)(t:Tok):(dk prog w).is (.inr x) (.str x t)=true:=MU x t
inductive V where
 |non|bl (b:Bool)|int (i:Int)|str (x:Str)|Hi (b:Array UInt8)|flt (b:UInt64)|ref (a:Addr)|ty (n:String)
 deriving DecidableEq
def RelV:V->Value->Prop
 |.non,u=>u=dC
 |.bl b,u=>u=oB b
 |.int i,u=>∃t,u=oE i t
 |.str x,u=>∃t,u=uO x t
 |.Hi b,u=>∃t,u=FV b t
 |.flt b,u=>∃t,u=FW b t
 |.ref a,u=>u=br a
 |.ty n,u=>u=my n
abbrev Vals:.r->.u->Prop:=Paired RelV
theorem Vals.length{xs:.r}{us:.u}(r:.b4):xs.length=us.length:=ve r
theorem Vals.get:∀{xs:.r} {us:.u} {i:Nat} {x:V},.b4->.ck->∃u,us[i]?=.ai/\RelV x u
 |_,_,_,_,.nil,e=>by simp at e
 |_,_,0,_,.cons r _,e=>by simp at e;subst e;exact⟨_,rfl,r⟩
 |_,_,i+1,x,.cons _ t,e=>by
  obtain⟨u,h1,h2⟩:=Vals.get (i:=i) (x:=x) t .dS;exact⟨u,.cS,h2⟩
theorem Vals.set{x:V}{u:Value}(r:RelV x u):∀{xs:.r} {us:.u} (i:Nat),.b4->Vals (xs.set i x) (us.set i u)
 |_,_,_,.nil=>.nil
 |_,_,0,.cons _ t=>.cons r t
 |_,_,i+1,.cons q t=>.cons q<|Vals.set r i t
theorem Vals.append:∀{xs ys:.r} {us a:.u},.b4->Vals ys a->Vals (xs++ys) (us++a)
 |_,_,_,_,.nil,s=>s
 |_,_,_,_,.cons r t,s=>.cons r<|Vals.append t s
theorem Vals.take:∀{xs:.r} {us:.u} (n:Nat),.b4->Vals (xs.take n) (us.take n)
 |_,_,0,_=>.nil
 |_,_,_+1,.nil=>.nil
 |_,_,n+1,.cons r t=>.cons r<|Vals.take n t
theorem Vals.drop:∀{xs:.r} {us:.u} (n:Nat),.b4->Vals (xs.drop n) (us.drop n)
 |_,_,0,r=>r
 |_,_,_+1,.nil=>.nil
 |_,_,n+1,.cons _ t=>Vals.drop n t
theorem Vals.none_of:∀{xs:.r} {us:.u} {i:Nat},.b4->xs[i]?=none->us[i]?=none:=λ{xs us i} r e=>by
 have h1:=r.length;have h2:xs.length<=i:=kG.mp e;exact kG.mpr<|by omega
def lF:.aw->.br->Prop
 |some v,some u=>RelV v u
 |none,none=>True
 |_,_=>False
def KV{κ:Type}:.bt->List (κ×Value)->Prop:=Paired λ(p:κ×V) (q:κ×Value)=>p.1=q.1/\RelV p.2 q.2
def kV:Key->V
 |.inl i=>.int i
 |.inr x=>.str x
inductive HO where
 |lst (xs:.r)
 |tup (xs:.r)
 |dK (kvs:.an)|dT (kvs:.cP)
 |set (S:Int->Bool) (n:Nat)
 |ins (C dx:Addr) (fs:.az)
 |own (x:Addr)
 |xd (fs:.az)
 |met (f x:Addr)
 |rng (lo hi:Int)
 |BA (o:Obj) (u:HO)
 |Wl (ps:.aE)
 |ext (φ:Heap->Prop)
abbrev Hp:=Addr->Option HO
def upd(H:Hp)(a:Addr)(o:HO):Hp:=λb=>if b=a then .i else H b
theorem ai{H:Hp}{a:Addr}{o:HO}:upd H a o a=.i:=by unfold upd;rw[.ah]
theorem aq{H:Hp}{a b:Addr}{o:HO}(h:b≠a):upd H a o b=H b:=by unfold upd;rw[if_neg h]
theorem g9{H:Hp}{a:Addr}{o u:HO}:upd (upd H a o) a u=upd H a u:=by
 funext b;unfold upd;split<;>rfl
theorem jc{H:Hp}{a b:Addr}{o u:HO}(h:H a=.i)(h':H b=.ai)(d:o≠u):a≠b:=by
 intro e;subst e;rw[h] at h';exact d<|aI h'
theorem aC{H:Hp}{a b:Addr}{o:HO}(h:H a=.i)(h':.aR):a≠b:=by
 intro e;subst e;rw[h] at h';cases h'
section
variable(P:Program)(w:World)
def dM(H:Hp)(h:Heap)(a:Addr):HO->Prop
 |.lst xs=>.dx/\∃(its:.u) (n:Nat),Vals xs its/\.a5=some .dZ
 |.tup xs=>.dx/\∃its:.u,Vals xs its/\IsTup h a its.toArray
 |.dK kvs=>.fA
 |.dT kvs=>kvs.length<=sizeLine/\.dd/\∃xs:.d3,
   Paired (λ(p:List Key×V) (q:List Key×Addr×Value)=>p.1=q.1/\H q.2.1=some (.tup<|p.1.map kV)/\RelV p.2 q.2.2) kvs xs/\
   ∃o es b,.a5=.i/\o.ExactDict/\o.data=.dict es b/\es.toList=xs.map (entryOfKey<|tupleKind<|dk P w)/\(xs.map (·.1)).Nodup
 |.set S n=>h.SetOf (intKind P w) a S n
 |.ins C dx fs=>H dx=some (.own a)/\fs.length<=1000/\dx≠a/\.a5=some (kJ C dx)/\
   ∃mA,h.Ns1 dx mA/\.es/\oF mA (fs.map (·.1))
 |.own _=>∃o,.a5=.i
 |.xd fs=>∃mA,h.Ns1 a mA/\.es
 |.rng lo hi=>∃t u v,.a5=some .eg
 |.BA o u=>.a5=.i/\dM H h a u
 |.Wl ps=>.a5=some { cls:=.none,data:=.fields ps }
 |.met f x=>.a5=some (yY .aG<|.ref x)
 |.ext φ=>φ h/\(∃o,.a5=.i)/\∀h1 h2:Heap,φ h1->(∀o,h1.get? a=.i->h2.get? a=.i)->φ h2
def o6(H:Hp)(h:Heap):Prop:=∀a o,H a=.i->dM P w H h a o
end
section
variable{P:Program}{w:World}{H H':Hp}{h h':Heap}{a:Addr}{o:HO}
theorem dM.lt(x:dM P w H h a o):a<h.objs.size:=by
 cases o with
 |lst xs=>obtain⟨_,_,_,_,e⟩:=x;exact aZ e
 |tup xs=>obtain⟨_,_,_,p⟩:=x;exact p.lt
 |dK kvs=>obtain⟨_,_,_,_,o,_,_,e,_⟩:=x;exact aZ e
 |dT kvs=>obtain⟨_,_,_,_,o,_,_,e,_⟩:=x;exact aZ e
 |set S n=>obtain⟨o,_,_,_,e,_⟩:=x;exact aZ e
 |ins C dx fs=>obtain⟨_,_,_,e,_⟩:=x;exact aZ e
 |own y=>obtain⟨_,e⟩:=x;exact aZ e
 |xd fs=>obtain⟨_,⟨_,_,_,e,_⟩,_⟩:=x;exact aZ e
 |rng lo hi=>obtain⟨_,_,_,e⟩:=x;exact aZ e
 |BA ob u=>obtain⟨e,_⟩:=x;exact aZ e
 |Wl ps=>exact aZ<|show .a5=some _ from x
 |met f y=>exact aZ<|show .a5=some _ from x
 |ext φ=>obtain⟨_,⟨_,e⟩,_⟩:=x;exact aZ e
theorem Paired.wK{α β:Type}{F G:α->β->Prop}:∀{l₁:.aP} {l₂:List β},Paired F l₁ l₂->(∀a b,F a b->G a b)->Paired G l₁ l₂
 |_,_,.nil,_=>.nil
 |_,_,.cons r t,f=>.cons (f _ _ r)<|Paired.wK t f
theorem dM.stay(x:dM P w H h a o)(k:∀b u,(b=a\/H b=some (.own a))->.ea)
  (i:∀b,H b=some (.own a)->H' b=some (.own a)) (ht:∀b xs,H b=some (.tup xs)->H' b=some (.tup xs)):dM P w H' h' a o:=by
 induction o with
 |lst xs=>obtain⟨z,its,n,r,e⟩:=x;exact⟨z,its,n,r,k _ _ .ar e⟩
 |tup xs=>obtain⟨z,its,r,ob,e,c⟩:=x;exact⟨z,its,r,ob,k _ _ .ar e,c⟩
 |dK kvs=>obtain⟨z,y,vs,r,ob,es,g,e,c⟩:=x;exact⟨z,y,vs,r,ob,es,g,k _ _ .ar e,c⟩
 |dT kvs=>
  obtain⟨z,y,xs,r,ob,es,g,e,c⟩:=x;exact⟨z,y,xs,Paired.wK r λp q z=>⟨z.1,ht _ _ z.2.1,z.2.2⟩,ob,es,g,k _ _ .ar e,c⟩
 |set S n=>obtain⟨ob,es,g,t,e,c⟩:=x;exact⟨ob,es,g,t,k _ _ .ar e,c⟩
 |ins C dx fs=>
  obtain⟨d,z,ne,e,mA,⟨od,es,g,j,c⟩,r⟩:=x;exact⟨i _ d,z,ne,k _ _ .ar e,mA,⟨od,es,g,k _ _ (.inr d) j,c⟩,r⟩
 |own y=>obtain⟨ob,e⟩:=x;exact⟨ob,k _ _ .ar e⟩
 |xd fs=>obtain⟨mA,⟨od,es,g,e,c⟩,r⟩:=x;exact⟨mA,⟨od,es,g,k _ _ .ar e,c⟩,r⟩
 |rng lo hi=>obtain⟨t,u,v,e⟩:=x;exact⟨t,u,v,k _ _ .ar e⟩
 |BA ob u ih=>obtain⟨e,q⟩:=x;exact⟨k _ _ .ar e,ih q⟩
 |Wl ps=>
  have e:.a5=some { cls:=.none,data:=.fields ps }:=x;show h'.get? a=some { cls:=.none,data:=.fields ps };exact k a _ .ar e
 |met f y=>
  have e:.a5=some (yY .aG<|.ref y):=x;show h'.get? a=some (yY .aG<|.ref y);exact k a _ .ar e
 |ext φ=>obtain⟨p,⟨o,e⟩,st⟩:=x;exact⟨st _ _ p λo q=>k _ _ .ar q,⟨o,k _ _ .ar e⟩,st⟩
theorem o6.lt(x:.b6)(e:H a=.i):a<h.objs.size:=(x a o e).lt
theorem o6.fresh(x:.b6)(e:h.objs.size<=a):H a=none:=by
 cases q:H a with
 |none=>rfl
 |some u=>exact absurd (eQ (x.lt q) e)<|gQ _
theorem o6.kept(x:.b6)(k:∀b u,.ea):o6 P w H h':=λa o e=>
 (x a o e).stay (λb u _ q=>k b u q) (λ_ q=>q) λ_ _ q=>q
theorem o6.laid(x:.b6)(k:∀b u,.ea)(hp:h.objs.size<=a)(new:dM P w (upd H a o) h' a o):o6 P w (upd H a o) h':=λb u e=>by
 have d:=x.fresh hp;by_cases f:b=a
 ·subst f;rw[ai] at e;cases e;exact new
 ·rw[aq f] at e;exact(x b u e).stay (λc v _ q=>k c v q) (λc q=>by rw[aq<|aC q d];exact q) λc xs q=>by rw[aq<|aC q d];exact q
end
def Rd(H:Hp)(a:Addr)(u:HO):Prop:=H a=.ai\/∃o,H a=some (.BA o u)
theorem Rd.of{H:Hp}{a:Addr}{u:HO}(h:H a=.ai):Rd H a u:=.inl h
theorem Rd.ok{P:Program}{w:World}{H:Hp}{h:Heap}{a:Addr}{u:HO}(r:Rd H a u)(x:.b6):dM P w H h a u:=by
 rcases r with r|⟨o,r⟩
 ·exact x a u r
 ·obtain⟨_,q⟩:=x a _ r;exact q
def Mut:Option HO->Prop
 |some (.lst _)=>True
 |some (.dK _)=>True
 |some (.dT _)=>True
 |some (.set _ _)=>True
 |some (.ins _ _ _)=>True
 |some (.ext _)=>True
 |_=>False
section
variable{P:Program}{w:World}{H:Hp}{h h':Heap}{x e:Addr}{o':HO}
theorem o6.write(ok:.b6)(f:Mut (H x))(m:e=x\/H e=some (.own x))(k:∀b u,b≠e->.ea)(j:∃u,h'.get? e=.ai)
  (new:dM P w (upd H x o') h' x o'):o6 P w (upd H x o') h':=λb u q=>by
 have d:∀c y,H c=some (.own y)->c≠x:=λc y r z=>by subst z;rw[r] at f;exact f
 have l:∀c xs,H c=some (.tup xs)->c≠x:=λc xs r z=>by subst z;rw[r] at f;exact f
 by_cases g:b=x
 ·subst g;rw[ai] at q;cases q;exact new
 ·rw[aq g] at q;by_cases a:b=e
  ·have n:H b=some (.own x):=by
    rcases m with z|z
    ·exact absurd (a.trans z) g
    ·rw[a];exact z
   rw[q] at n;cases n;obtain⟨v,hv⟩:=j;exact⟨v,by rw[a];exact hv⟩
  ·refine(ok b u q).stay (λc v i r=>k c v ?_ r) (λc r=>by rw[aq<|d c b r];exact r) λc xs r=>by rw[aq<|l c xs r];exact r
   rcases i with rfl|i
   ·exact a
   ·rintro rfl;rcases m with z|z
    ·exact d c b i z
    ·rw[i] at z;cases z;exact g rfl
end
structure Un(fs ex:.B)(H H':Hp)(h h':Heap):Prop where
 keep:∀b o,.bK->.aR->b∉fs->b∉ex->.aQ=.i
 slot:∀b o,.bK->.aR->b∈fs->b∉ex->∃sl,.aQ=some { o with slots:=sl }
 free:∀b o,.bK->.aR->b∉ex->H' b=none
 there:∀b o,.bK->b∉ex->∃o',.aQ=some o'
 tups:∀b xs,H b=some (.tup xs)->H' b=some (.tup xs)
 pM:∀b o u,H b=some (.BA o u)->H' b=some (.BA o u)
 qt:∀b ps,H b=some (.Wl ps)->∃more,H' b=some (.Wl<|ps++more)
section
variable{fs fs' ex ex':.B}{H H1 H2:Hp}{h h1 h2 h':Heap}{a x e:Addr}{o:HO}
theorem Un.any(u:Un fs ex H H1 h h1){b:Addr}{ob:Obj}(q:h.get? b=some ob)(n:.aR)(a:b∉ex):∃d,h1.get? b=some { ob with slots:=d }:=by
 by_cases c:b∈fs
 ·exact u.slot b ob q n c a
 ·exact⟨ob.slots,u.keep b ob q n c a⟩
theorem Un.trans(a:Un fs ex H H1 h h1)(b:Un fs ex H1 H2 h1 h2):Un fs ex H H2 h h2 where
 keep:=λc ob q n f d=>b.keep c ob (a.keep c ob q n f d) (a.free c ob q n d) f d
 slot:=λc ob q n f d=>by
  obtain⟨j,e⟩:=a.slot c ob q n f d;obtain⟨g,i⟩:=b.slot c _ e (a.free c ob q n d) f d;exact⟨g,i⟩
 free:=λc ob q n d=>by
  obtain⟨o',e⟩:=a.there c ob q d;exact b.free c o' e (a.free c ob q n d) d
 there:=λc ob q d=>by
  obtain⟨o',e⟩:=a.there c ob q d;exact b.there c o' e d
 tups:=λc xs q=>b.tups c xs<|a.tups c xs q
 pM:=λc ob xs q=>b.pM c ob xs<|a.pM c ob xs q
 qt:=λc ps q=>by
  obtain⟨m1,e⟩:=a.qt c ps q;obtain⟨m2,i⟩:=b.qt c _ e;exact⟨m1++m2,by rw[i,zx]⟩
theorem Un.kept(k:∀b u,.ea):Un fs ex H H h h':=
 ⟨λb ob q _ _ _=>k b ob q,λb ob q _ _ _=>⟨ob.slots,k b ob q⟩,λ_ _ _ n _=>n,λb ob q _=>⟨ob,k b ob q⟩,λ_ _ q=>q,λ_ _ _ q=>q,λ_ ps q=>⟨#[],by rw[q];simp⟩⟩
theorem Un.refl:Un fs ex H H h h:=Un.kept λ_ _ q=>q
theorem Un.laid(k:∀b u,.ea)(hp:h.objs.size<=a)(c:H a=none):Un fs ex H (upd H a o) h h' where
 keep:=λb u q _ _ _=>k b u q
 slot:=λb u q _ _ _=>⟨u.slots,k b u q⟩
 free:=λb u q n _=>by rw[aq<|cy<|eQ (aZ q) hp];exact n
 there:=λb u q _=>⟨u,k b u q⟩
 tups:=λb xs q=>by rw[aq<|aC q c];exact q
 pM:=λb u xs q=>by rw[aq<|aC q c];exact q
 qt:=λb ps q=>⟨#[],by rw[aq<|aC q c,q];simp⟩
theorem Un.write(c:Mut (H x))(j:e=x\/H e=some (.own x))(k:∀b u,b≠e->.ea)(d:∃u,h'.get? e=.ai):Un fs ex H (upd H x o) h h':=by
 have g:∀b,.aR->b≠x:=λb n z=>by subst z;rw[n] at c;exact c
 have i:∀b,.aR->b≠e:=λb n z=>by
  subst z;rcases j with r|r
  ·exact g b n r
  ·rw[n] at r;cases r
 have f:∀b u,H b=.ai->¬Mut .ai->b≠x:=λb u q nm z=>by subst z;rw[q] at c;exact nm c
 refine⟨λb u q n _ _=>k b u (i b n) q,λb u q n _ _=>⟨u.slots,k b u (i b n) q⟩,λb u q n _=>by rw[aq (g b n)];exact n,λb u q _=>?_,
  λb xs q=>by rw[aq (f b _ q λz=>z)];exact q,λb u xs q=>by rw[aq (f b _ q λz=>z)];exact q,λb ps q=>⟨#[],by rw[aq (f b _ q λz=>z),q];simp⟩⟩
 by_cases a:b=e
 ·subst a;exact d
 ·exact⟨u,k b u a q⟩
theorem Un.mono(u:Un fs ex H H1 h h1)(hs:∀b∈fs,b∈fs')(c:∀b∈ex,b∈ex'):Un fs' ex' H H1 h h1:=
 ⟨λb ob q n d a=>u.keep b ob q n (λz=>d<|hs b z) λz=>a<|c b z,λ_ _ q n _ a=>u.any q n λz=>a<|c _ z,λb ob q n a=>u.free b ob q n λz=>a<|c b z,λb ob q a=>u.there b ob q λz=>a<|c b z,u.tups,u.pM,u.qt⟩
end
def trk(h:Heap)(H:Hp):.B:=(a8 h.objs.size).filter λa=>(H a).isSome
def Dr(h:Heap)(H:Hp):Heap:=Fc h<|trk h H
theorem MV(h:Heap)(H:Hp):(Dr h H).objs.size=h.objs.size:=PySem.W.hideAll_size _ _
theorem Ph{h:Heap}{H:Hp}{b:Addr}{o:Obj}(e:.bK)(n:.aR):(Dr h H).get? b=.i:=
 yV _ e λa=>by
  have q:(H b).isSome=true:=(bJ.mp a).2;rw[n] at q;simp at q
theorem TB{h:Heap}{H:Hp}{b:Addr}{o:Obj}(e:(Dr h H).get? b=.i):.bK/\.aR:=by
 have a:.bK:=E7 (trk h H) e;refine⟨a,?_⟩;cases q:H b with
 |none=>rfl
 |some x=>
  have c:b∈trk h H:=bJ.mpr ⟨dU.mpr<|aZ a,by simp[q]⟩;have z:(Dr h H).get? b=none:=E5 (trk h H) c;rw[z] at e;cases e
def TC(g h:Heap)(L:Addr):.U:=(a8 h.objs.size).filterMap λa=>if a=L\/(g.get? a).isSome=true then none else(.a5).map λo=>(a,o)
def rest(g h:Heap)(L d:Addr):.U:=(TC g h L).filter λp=>decide (p.1≠d)
structure Mod(K:ah)(mg:.aa)(base:Heap):Prop where
 XC:K.In base
 glob:base.Ns mainGlobals mg
 blt:∃mb,base.Ns builtinsNs mb/\∀x:Str,x≠"__name__"->mb x=bootBuiltins x
 nolimit:base.NoLimit
structure Cx where
 prog:Program
 w:World
 K:ah
 mg:.aa
 base:Heap
 A:Around
 N:.L
 wL:Shared
 TF:Hp
 env:Env
 outer:.a0
 stack:.a0
 ex:.B
 fn:Str->Bool
 calm:Bool
 pn:.U
 xe:.ac
def frs(l:.a0):.B:=l.filterMap (·.frame)
abbrev Cx.fs(X:Cx):.B:=frs X.outer
def ZU(a:Scope)(x:Str):Prop:=a.names.lookup x=some .local\/a.names.lookup x=.b7\/a.names.lookup x=some .free
def Loc(a:Scope)(x:Str):Prop:=a.names.lookup x=some .local\/a.names.lookup x=.b7
def Look(env:Env)(h:Heap)(m:.aa)(x:Str)(u:Value):Prop:=
 (env.kindOf x=some .local/\m x=.ai)\/((env.kindOf x=.b7\/env.kindOf x=some .free)/\∃c,env.cells.lookup x=some c/\h.IsCell c .ai)
structure Cx.Ok(X:Cx):Prop where
 mod:Mod X.K X.mg X.base
 kind:X.env.scope.kind=.function
 glob:X.env.globals=mainGlobals
 blt:X.env.builtins=builtinsNs
 above:X.wL.heap.objs.size<=X.env.locals
 inj:∀x y c,.cx->X.env.cells.lookup y=some c->x=y
 has:∀x,(X.env.kindOf x=.b7\/X.env.kindOf x=some .free)->∃c,.cx
 cab:∀x c,X.fn x=true->.cx->X.wL.heap.objs.size<=c
 hd:.ce->X.A.handled=none
 frames:X.A.frames=some X.stack
 stk:X.stack=X.outer\/(X.stack=X.env::X.outer/\X.env.frame=some X.env.locals)
 XD:∀b∈X.ex,b≠X.env.locals/\∀x c,.cx->c≠b
 bs:∀b o,X.base.get? b=.i->.dN/\X.TF b=none
 Kw:X.base.objs.size<=X.wL.heap.objs.size
 o7:∀b o,X.base.get? b=.i->b∉X.ex
 Hj:∀b∈X.ex,b∉X.fs
 qu:X.wL.heap.FunFrames X.base X.outer
 Pj:∀b∈X.fs,X.TF b=none
structure Inv(X:Cx)(pins:.U)(σ:List .aw)(H:Hp)(s:Shared):Prop where
 ok:X.Ok
 os:s.os=X.wL.os
 bare:AllBare s.gens
 base:Un X.fs X.ex X.TF H X.wL.heap s.heap
 loc:∃m,s.heap.Ns X.env.locals m/\∀(i:Nat) (x:Str) (v:V),X.N[i]?=.v->σ[i]?=some .av->ZU X.env.scope x->∃u,RelV v u/\Look X.env s.heap m x u
 cell:∀x c,.cx->∃v,s.heap.IsCell c v
 free:H X.env.locals=none
 lq:∀x c,.cx->H c=none
 pin:∀p∈X.pn++pins,s.heap.get? p.1=some p.2/\H p.1=none/\p.1≠X.env.locals/\p.1∉X.fs/\∀v,p.2.data≠.cell v
 hok:o6 X.prog X.w H s.heap
 len:σ.length=X.N.length
section
variable{X:Cx}{pins:.U}{σ:List .aw}{H H':Hp}{s:Shared}{h':Heap}
theorem Cx.Ok.ab7(ok:X.Ok){b:Addr}{o:Obj}(e:X.base.get? b=.i):b∉X.fs:=λa=>by
 have:=(ok.qu.mem a).1;rw[e] at this;cases this
theorem Inv.bs(I:.D):∀b o,X.base.get? b=.i->.bx/\.aR:=λb o e=>
 ⟨I.base.keep b o (I.ok.bs b o e).1 (I.ok.bs b o e).2 (I.ok.ab7 e)<|I.ok.o7 b o e,I.base.free b o (I.ok.bs b o e).1 (I.ok.bs b o e).2<|I.ok.o7 b o e⟩
theorem Inv.bk(I:.D):∀b o,X.base.get? b=.i->.bx:=λb o e=>(I.bs b o e).1
theorem Inv.mod(I:.D):Mod X.K X.mg X.base:=I.ok.mod
theorem Inv.ug(I:.D):X.K.In s.heap:=I.ok.mod.XC.keeps I.bk
theorem Inv.nolimit(I:.D):s.heap.NoLimit:=I.ok.mod.nolimit.keeps I.bk
theorem Inv.fr(I:.D):∃m,Fr X.base X.env.locals s.heap m:=
 let ⟨m,hn,_⟩:=I.loc
 ⟨m,hn,I.bk,bK I.ok.Kw I.ok.above⟩
theorem Inv.lt(I:.D):X.env.locals<s.heap.objs.size:=let ⟨_,hn,_⟩:=I.loc;hn.lt
theorem Inv.sz(I:.D):X.wL.heap.objs.size<=s.heap.objs.size:=bK I.ok.above<|uH I.lt
theorem Inv.ab8(I:.D){a:Addr}(h:s.heap.objs.size<=a):a∉X.fs:=λb=>by
 obtain⟨_,o,c,_⟩:=I.ok.qu.mem b;exact absurd (eQ (aZ c)<|bK I.sz h)<|gQ _
theorem Inv.Wm(I:.D):∀x c,.cx->c≠X.env.locals:=λx c e z=>by
 obtain⟨v,o,d,f⟩:=I.cell x c e;obtain⟨m,⟨o',es,g,a,b,_⟩,_⟩:=I.loc;rw[z,a] at d;cases d;rw[b] at f;cases f
theorem Inv.qu(I:.D):s.heap.FunFrames X.base X.outer:=by
 have all:∀(l:.a0),(∀b∈frs l,b∈X.fs)->X.wL.heap.FunFrames X.base l->s.heap.FunFrames X.base l:=by
  intro l;induction l with
  |nil=>intro _ _;trivial
  |cons env r ih=>
   intro hs f;obtain⟨hk,⟨L,o,a,g,h,i⟩,j⟩:=f;have c:L∈X.fs:=hs L (by unfold frs;rw[lT,a];exact bf);obtain⟨k,e⟩:=I.base.slot L o h (I.ok.Pj L c) c λz=>I.ok.Hj L z c;exact⟨hk,⟨L,_,a,g,e,i⟩,ih (λb d=>hs b (by unfold frs;rw[lT,a];exact aV _ d)) j⟩
 exact all X.outer (λ_ d=>d) I.ok.qu
theorem Inv.stack(I:.D):s.heap.FunFrames X.base X.stack:=by
 rcases I.ok.stk with e|⟨e,a⟩
 ·rw[e];exact I.qu
 ·rw[e];obtain⟨m,b,_⟩:=I.loc;refine .cons (by rw[I.ok.kind];decide) a b ?_ I.qu;exact Ff<|bK I.ok.Kw I.ok.above
theorem Inv.wM(I:.D):∀b∈frs X.stack,b∈X.env.locals::X.fs:=λb a=>by
 rcases I.ok.stk with e|⟨e,c⟩
 ·rw[e] at a;exact aV _ a
 ·rw[e] at a;unfold frs at a;rw[lT,c] at a;exact a
theorem Inv.ym(I:.D):∀b∈frs X.stack,.aR:=λb a=>by
 rcases aH.mp (I.wM b a) with e|a
 ·rw[e];exact I.free
 ·obtain⟨_,o,c,_⟩:=I.ok.qu.mem a;exact I.base.free b o c (I.ok.Pj b a) λz=>I.ok.Hj b z a
theorem Inv.step{g':Array GenState}{t':Nat}{d':Drawn}{ch:.B}(I:.D)
  (f:∀b∈ch,.fj)
  (keep:∀b o,b≠X.env.locals->b∉X.fs->b∉ch->.bx->.aR->.aQ=.i)
  (slot:∀b o,b≠X.env.locals->b∈X.fs->b∉ch->.bx->.aR->∃C,.aQ=some { o with slots:=C }) (free:∀b o,b∉ch->.bx->.aR->H' b=none)
  (there:∀b o,b∉ch->.bx->∃o',.aQ=some o')
  (tups:∀b xs,H b=some (.tup xs)->H' b=some (.tup xs)) (pM:∀b o u,H b=some (.BA o u)->H' b=some (.BA o u)) (qt:∀b ps,H b=some (.Wl ps)->∃more,H' b=some (.Wl<|ps++more))
  (ns:∀m,s.heap.Ns X.env.locals m->h'.Ns X.env.locals m) (D:o6 X.prog X.w H' h') (L:AllBare g'):
  Inv X pins σ H' { s with heap:=h',gens:=g',drawn:=d',toks:=t' }:=by
 have G:∀b o,.dN->b≠X.env.locals:=λb o e=>cy<|eQ (aZ e) I.ok.above;have j:∀b o,.dN->b∉X.ex->b∉ch:=λb o e a y=>by
  rcases (f b y).1 with z|z
  ·exact a z
  ·exact absurd (eQ (aZ e) z)<|gQ _
 have g:∀x c,.cx->∀v,s.heap.IsCell c v->h'.IsCell c v:=λx c e v ⟨o,A,E⟩=>by
  have h:c∉ch:=λz=>(f c z).2.2.1 x c e rfl;by_cases J:c∈X.fs
  ·obtain⟨C,q⟩:=slot c o (I.Wm x c e) J h A<|I.lq x c e;exact⟨_,q,E⟩
  ·exact⟨o,keep c o (I.Wm x c e) J h A<|I.lq x c e,E⟩
 refine⟨I.ok,I.os,L,⟨λb o e n y a=>?_,λb o e n y a=>?_,λb o e n a=>?_,λb o e a=>?_,λb xs e=>tups b xs<|I.base.tups b xs e,λb o xs e=>pM b o xs<|I.base.pM b o xs e,λb ps e=>?_⟩,?_,λx c e=>?_,?_,λx c e=>?_,λp hp=>?_,D,I.len⟩
 ·exact keep b o (G b o e) y (j b o e a) (I.base.keep b o e n y a)<|I.base.free b o e n a
 ·obtain⟨C,t⟩:=I.base.slot b o e n y a;obtain⟨F,B⟩:=slot b _ (G b o e) y (j b o e a) t<|I.base.free b o e n a;exact⟨F,B⟩
 ·obtain⟨o',t⟩:=I.base.there b o e a;exact free b o' (j b o e a) t<|I.base.free b o e n a
 ·obtain⟨o',t⟩:=I.base.there b o e a;exact there b o' (j b o e a) t
 ·obtain⟨m1,t⟩:=I.base.qt b ps e;obtain⟨m2,B⟩:=qt b _ t;exact⟨m1++m2,by rw[B,zx]⟩
 ·obtain⟨m,M,N⟩:=I.loc;refine⟨m,ns m M,λi x v t B O=>?_⟩;obtain⟨u,r,l⟩:=N i x v t B O;refine⟨u,r,?_⟩;rcases l with l|⟨k,c,e,z⟩
  ·exact .inl l
  ·exact .inr ⟨k,c,e,g x c e _ z⟩
 ·obtain⟨v,z⟩:=I.cell x c e;exact⟨v,g x c e v z⟩
 ·obtain⟨m,⟨o,_,_,A,_⟩,_⟩:=I.loc;exact free _ o (λz=>(f _ z).2.1 rfl) A I.free
 ·obtain⟨v,o,A,E⟩:=I.cell x c e;exact free c o (λz=>(f c z).2.2.1 x c e rfl) A<|I.lq x c e
 ·obtain⟨e,n,ne,K,d⟩:=I.pin p hp;have h:p.1∉ch:=λz=>(f p.1 z).2.2.2 p hp rfl;exact⟨keep p.1 p.2 ne K h e n,free p.1 p.2 h e n,ne,K,d⟩
theorem Inv.un{t':Nat}(I:.D)(u:Un X.fs [] H H' s.heap h')(c:o6 X.prog X.w H' h'):Inv X pins σ H' .dH:=by
 obtain⟨m,⟨o,es,l,h,r⟩,_⟩:=id I.loc;obtain⟨p,i⟩:=u.any h I.free .m;exact I.step (g':=s.gens) (d':=s.drawn) (ch:=[]) (λ_ z=>nomatch z) (λb o _ d _ e n=>u.keep b o e n d .m) (λb o _ d _ e n=>u.slot b o e n d .m) (λb o _ e n=>u.free b o e n .m) (λb o _ e=>u.there b o e .m) u.tups u.pM u.qt (λq j=>by
  obtain⟨o',f,g,a,k⟩:=j;rw[h] at a;cases a;exact⟨_,f,g,i,k⟩) c I.bare
theorem Inv.call{g':Array GenState}{t':Nat}{d':Drawn}{ch:.B}(I:.D)(u:Un (frs X.stack) ch H H' s.heap h')(g:o6 X.prog X.w H' h')(l:AllBare g')
  (d:∀b∈ch,.fj):
  Inv X pins σ H' { s with heap:=h',gens:=g',drawn:=d',toks:=t' }:=by
 obtain⟨m,⟨o,es,y,k,r⟩,_⟩:=id I.loc;obtain⟨A,h⟩:=u.any k I.free λz=>(d _ z).2.1 rfl;exact I.step (ch:=ch) d (λb o h q a e n=>u.keep b o e n (λz=>(aH.mp (I.wM b z)).elim h q) a) (λb o _ _ a e n=>u.any e n a) (λb o a e n=>u.free b o e n a) (λb o a e=>u.there b o e a) u.tups u.pM u.qt (λB t=>by
  obtain⟨o',i,j,f,v⟩:=t;rw[k] at f;cases f;exact⟨_,i,j,h,v⟩) g l
theorem Inv.turned{t':Nat}{a:Addr}(I:.D)(k:∀b o,b≠a->.bx->.aQ=.i)(h:H a=none)(f:a≠X.env.locals)
  (h1:a∈X.ex\/X.wL.heap.objs.size<=a) (h2:∀x c,.cx->c≠a) (i:∀p∈X.pn++pins,p.1≠a):Inv X pins σ H .dH:=by
 have g:∀b u,H b=.ai->b≠a:=λb u e z=>by rw[z,h] at e;cases e
 refine I.step (g':=s.gens) (d':=s.drawn) (ch:=[a]) (λb j=>?_) (λb o _ _ d e _=>k b o (λz=>d<|by simp[z]) e) (λb o _ _ d e _=>⟨o.slots,k b o (λz=>d<|by simp[z]) e⟩) (λ_ _ _ _ n=>n)
  (λb o d e=>⟨o,k b o (λz=>d<|by simp[z]) e⟩) (λ_ _ e=>e) (λ_ _ _ e=>e) (λb ps e=>⟨#[],by rw[e];simp⟩) (λm l=>?_) (λb u e=>?_) I.bare
 ·have e:b=a:=by simpa using j
  subst e;exact⟨h1,f,h2,i⟩
 ·obtain⟨o,es,t,w,r⟩:=l;exact⟨o,es,t,k _ o (aF f) w,r⟩
 ·refine(I.hok b u e).stay (λc v d q=>k c v ?_ q) (λ_ q=>q) λ_ _ q=>q;rcases d with z|z
  ·rw[z];exact g b u e
  ·exact g c _ z
theorem Inv.tok(I:.D)(t:Nat):Inv X pins σ H { s with toks:=t }:=I.un (h':=s.heap) (t':=t) Un.refl I.hok
theorem Inv.kept{t':Nat}(I:.D)(k:∀b u,s.heap.get? b=.ai->.aQ=.ai):Inv X pins σ H .dH:=I.un (Un.kept k)<|I.hok.kept k
theorem Inv.laid{a:Addr}{o:HO}{t':Nat}(I:.D)(k:∀b u,s.heap.get? b=.ai->.aQ=.ai)(hp:s.heap.objs.size<=a)(new:dM X.prog X.w (upd H a o) h' a o):
  Inv X pins σ (upd H a o) .dH:=I.un (Un.laid k hp<|I.hok.fresh hp)<|I.hok.laid k hp new
theorem Inv.write{x e:Addr}{o:HO}{t':Nat}(I:.D)(c:Mut (H x))(d:e=x\/H e=some (.own x))(k:∀b u,b≠e->s.heap.get? b=.ai->.aQ=.ai)(a:∃u,h'.get? e=.ai)
  (new:dM X.prog X.w (upd H x o) h' x o):Inv X pins σ (upd H x o) .dH:=I.un (Un.write c d k a)<|I.hok.write c d k a new
theorem Inv.weak{σ':List .aw}(I:.D)(a:σ'.length=σ.length)(w:∀(i:Nat) v,σ'[i]?=some .av->σ[i]?=some .av):Inv X pins σ' H s:=
 ⟨I.ok,I.os,I.bare,I.base,let ⟨m,hn,hl'⟩:=I.loc;⟨m,hn,λi x v b c d=>hl' i x v b (w i v c) d⟩,I.cell,I.free,I.lq,I.pin,I.hok,a.trans I.len⟩
theorem Inv.Kx{a:.U}(I:.D)(h:∀p∈a,s.heap.get? p.1=some p.2/\H p.1=none/\p.1≠X.env.locals/\p.1∉X.fs/\∀v,p.2.data≠.cell v):Inv X a σ H s:=
 ⟨I.ok,I.os,I.bare,I.base,I.loc,I.cell,I.free,I.lq,λp hp=>(bZ.mp hp).elim (λz=>I.pin p<|dF _ z)<|h p,I.hok,I.len⟩
theorem Aj{N:.L}(c:N.Nodup){i j:Nat}{x:Str}(a:N[i]?=.v)(b:N[j]?=.v):i=j:=by
 obtain⟨h1,d⟩:=aB.mp a;obtain⟨h2,e⟩:=aB.mp b;exact(oa c).mp<|d.trans e.symm
theorem Cq{M:Model}{A:Around}{E:.ac}{i:Nat}{x:Str}{v:V}{u:Value}{Q:Unit->.aT}(I:.D)(hN:X.N.Nodup)(hi:X.N[i]?=.v)(t:Loc X.env.scope x)(r:RelV v u)
  (h:∀s',Inv X pins (σ.set i<|some v) H s'->(∃a,kK a s.heap s'.heap/\(a=X.env.locals\/X.env.cells.lookup x=some a))->Q () s') (hf:.dX:=by first|exact .ar|exact .inr rfl|assumption):wpAny M A (storeName X.env x u) Q E s:=by
 obtain⟨m,P,hl⟩:=id I.loc;have J:(X.env.scope.kind == .class||(X.env.scope.kind == .module&&X.env.locals != X.env.globals))=false:=by rw[I.ok.kind];rfl
 have hiσ:i<σ.length:=by rw[I.len];exact .ch
 have Wm:=I.Wm;have f:∀{a:Addr} {h':Heap},(∃o,s.heap.get? a=.i/\H a=none)->kK a s.heap h'->o6 X.prog X.w H h':=λ{a h'} ha hs b ob e=>by
  obtain⟨_,_,B⟩:=ha;refine(I.hok b ob e).stay (λc w' l q=>(hs.2 c ?_).trans q) (λ_ q=>q) λ_ _ q=>q;rintro rfl;rcases l with rfl|l
  ·rw[B] at e;cases e
  ·rw[B] at l;cases l
 rcases t with hk|hk
 ·refine wpAny_storeName_local hk P (λh' R hs=>?_) J;obtain⟨oL,_,_,S,_⟩:=id P;refine h _ ⟨I.ok,I.os,I.bare,⟨λb o e n D t=>?_,λb o e n D t=>?_,I.base.free,λb o e t=>?_,I.base.tups,I.base.pM,I.base.qt⟩,⟨_,R,λj y T g C U=>?_⟩,λy c e=>?_,I.free,I.lq,λp hp=>?_,f ⟨oL,S,I.free⟩ hs,by simpa using I.len⟩ ⟨_,hs,.ar⟩
  ·exact(hs.2 b<|cy<|eQ (aZ e) I.ok.above).trans<|I.base.keep b o e n D t
  ·obtain⟨W,g⟩:=I.base.slot b o e n D t;exact⟨W,(hs.2 b<|cy<|eQ (aZ e) I.ok.above).trans g⟩
  ·obtain⟨o',g⟩:=I.base.there b o e t;exact⟨o',(hs.2 b<|cy<|eQ (aZ e) I.ok.above).trans g⟩
  ·by_cases F:j=i
   ·subst F;rw[hi] at g;cases g;rw[gI hiσ] at C;cases C;exact⟨u,r,.inl ⟨hk,.m⟩⟩
   ·rw[fQ<|aF F] at C;obtain⟨Y,Z,q⟩:=hl j y T g C U;refine⟨Y,Z,?_⟩;rcases q with⟨k,e⟩|⟨k,c,e,z⟩
    ·refine .inl ⟨k,?_⟩;have:y≠x:=λe=>F<|Aj hN g<|e▸hi;simp[this,e]
    ·exact .inr ⟨k,c,e,z.sameBut hs<|Wm y c e⟩
  ·obtain⟨w',z⟩:=I.cell y c e;exact⟨w',z.sameBut hs<|Wm y c e⟩
  ·obtain⟨e,n,ne,nf,d⟩:=I.pin p hp;exact⟨(hs.2 p.1 ne).trans e,n,ne,nf,d⟩
 ·have G:X.fn x=true:=by
   rcases hf with z|z
   ·exact z
   ·rw[z] at hk;cases hk
  obtain⟨c,l⟩:=I.ok.has x<|.inl hk;obtain⟨w',z⟩:=I.cell x c l;refine wpAny_storeName_cell I.ok.kind hk l z λh' K hs=>?_;obtain⟨oc,L,ab9⟩:=id z;refine h .cO ⟨I.ok,I.os,I.bare,⟨λb o e n D t=>?_,λb o e n D t=>?_,I.base.free,λb o e t=>?_,I.base.tups,I.base.pM,I.base.qt⟩,⟨m,P.sameBut hs<|aF<|Wm x c l,λj y T g C U=>?_⟩,λy c' e=>?_,I.free,I.lq,λp hp=>?_,f ⟨oc,L,I.lq x c l⟩ hs,by simpa using I.len⟩ ⟨c,hs,.inr l⟩
  ·exact(hs.2 b<|cy<|eQ (aZ e)<|I.ok.cab x c G l).trans<|I.base.keep b o e n D t
  ·obtain⟨W,g⟩:=I.base.slot b o e n D t;exact⟨W,(hs.2 b<|cy<|eQ (aZ e)<|I.ok.cab x c G l).trans g⟩
  ·obtain⟨o',g⟩:=I.base.there b o e t;exact⟨o',(hs.2 b<|cy<|eQ (aZ e)<|I.ok.cab x c G l).trans g⟩
  ·by_cases F:j=i
   ·subst F;rw[hi] at g;cases g;rw[gI hiσ] at C;cases C;exact⟨u,r,.inr ⟨.inl hk,c,l,K⟩⟩
   ·rw[fQ<|aF F] at C;obtain⟨Y,Z,q⟩:=hl j y T g C U;refine⟨Y,Z,?_⟩;rcases q with q|⟨k,c',e,z'⟩
    ·exact .inl q
    ·refine .inr ⟨k,c',e,z'.sameBut hs ?_⟩;rintro rfl;exact F<|Aj hN g<|I.ok.inj _ _ _ e l▸hi
  ·by_cases O:c'=c
   ·subst O;exact⟨_,K⟩
   ·obtain⟨w2,z2⟩:=I.cell y c' e;exact⟨w2,z2.sameBut hs O⟩
  ·obtain⟨e,n,ne,nf,d⟩:=I.pin p hp;refine⟨(hs.2 p.1 ?_).trans e,n,ne,nf,d⟩;intro q;rw[q,L] at e;have q':oc=p.2:=aI e;exact d w' (by rw[<-q'];exact ab9)
theorem vz{M:Model}{A:Around}{E:.ac}{i:Nat}{x:Str}{v:V}{u:Value}{Q:Unit->.aT}(I:.D)(a:X.N.Nodup)(hi:X.N[i]?=.v)(b:Loc X.env.scope x)(r:RelV v u)
  (h:∀s',Inv X pins (σ.set i<|some v) H s'->Q () s') (c:.dX:=by first|exact .ar|exact .inr rfl|assumption):wpAny M A (storeName X.env x u) Q E s:=
 Cq I a hi b r (λs' d _=>h s' d) c
theorem Inv.call'{s':Shared}{ch:.B}(I:.D)(f:s'.os=s.os)(u:Un (frs X.stack) ch H H' s.heap s'.heap)(a:o6 X.prog X.w H' s'.heap)(g:AllBare s'.gens)
  (d:∀b∈ch,.fj):.df:=by
 obtain⟨h',g',d',t',o'⟩:=s';have e:o'=s.os:=f;subst e;exact I.call (g':=g') (t':=t') (d':=d') u a g d
end
abbrev XK:=Value->.bS->.Z
abbrev St:=List<|Option V
abbrev VK:=V->.Z
abbrev TE:=St->.aD
abbrev TT:=St->Hp->(Bool->.Z)->Prop
abbrev TA:=St->Hp->(.r->.Z)->Prop
structure Ends where
 nx:.a6
 rt:VK
 bk:.a6:=λ_ _=>False
 ct:.a6:=λ_ _=>False
abbrev TS:=Ends->.a6
def EP(X:Cx)(pins:.U)(σ:St)(Q:VK)(u:Value)(s':Shared):Prop:=∃v H',.df/\RelV v u/\Q v H'
def TP(X:Cx)(pins:.U)(σ:St)(Q:Bool->.Z)(b:Bool)(s':Shared):Prop:=∃H',.df/\Q b H'
def AP(X:Cx)(pins:.U)(σ:St)(Q:.r->.Z)(us:.u)(s':Shared):Prop:=∃vs H',.df/\Vals vs us/\Q vs H'
def SP(X:Cx)(pins:.U)(D:Ends)(f:Flow)(s':Shared):Prop:=
 match f with
 |.next=>∃σ' H',.dL/\D.nx σ' H'
 |.brk=>∃σ' H',.dL/\D.bk σ' H'
 |.cont=>∃σ' H',.dL/\D.ct σ' H'
 |.ret u=>∃v σ' H',.dL/\RelV v u/\D.rt v H'
def PE(X:Cx)(e:Expr)(t:TE):Prop:=
 ∀(pins:.U) (s:Shared) (σ:St) (H:Hp) (Q:VK),.D->t σ H Q->wpAny .af X.A .bA .cb X.xe s
def PT(X:Cx)(e:Expr)(t:TT):Prop:=
 ∀(pins:.U) (s:Shared) (σ:St) (H:Hp) (Q:Bool->.Z),.D->t σ H Q->wpAny .af X.A (isTrue e X.env<|eval e X.env) (TP X pins σ Q) X.xe s
def PW(X:Cx)(e:Expr)(t:TT):Prop:=
 ∀(whole:Sem Value) (pins:.U) (s:Shared) (σ:St) (H:Hp) (Q:Bool->.Z),.D->t σ H Q->wpAny .af X.A (isTrue e X.env whole) (TP X pins σ Q) X.xe s
theorem PW.pt{X:Cx}{e:Expr}{t:TT}(h:PW X e t):PT X e t:=h _
def PA(X:Cx)(es:.aU)(t:TA):Prop:=
 ∀(pos:Pos) (pins:.U) (s:Shared) (σ:St) (H:Hp) (Q:.r->.Z),.D->t σ H Q->wpAny .af X.A (spliced<|backTo pos<|starEach es X.env) (AP X pins σ Q) X.xe s
def PS(X:Cx)(st:Stmt)(t:TS):Prop:=
 ∀(pins:.U) (s:Shared) (σ:St) (H:Hp) (D:Ends),.D->t D σ H->wpAny .af X.A (exec st X.env) (SP X pins D) X.xe s
def Dt(X:Cx)(st:List Stmt)(t:TS):Prop:=
 ∀(pins:.U) (s:Shared) (σ:St) (H:Hp) (D:Ends),.D->t D σ H->wpAny .af X.A (execs st X.env) (SP X pins D) X.xe s
theorem eF{α:Type}{t:Sem α}{Q b:α->.aT}{M:Model}{A:Around}{E:.ac}{s:Shared}(h:wpAny M A t Q E s)(c:∀a s,Q a s->b a s):wpAny M A t b E s:=wpAny_mono h c λ_ _ x=>x
section
variable{X:Cx}
def aaf(i:Nat):TE:=λσ H Q=>∃v,σ[i]?=some .av/\Q v H
def tC(v:V):TE:=λ_ H Q=>Q v H
theorem XE{i:Nat}{x:Str}{pos:Pos}(j:X.N[i]?=.v)(hv:ZU X.env.scope x)(d:.bc:=by decide)(f:(x == ("__classdict__":Str))=false:=by decide):PE X (.Name x pos) (aaf i):=by
 intro pins s σ H Q I h;obtain⟨v,e,h⟩:=h;obtain⟨m,k,n⟩:=I.loc;obtain⟨u,r,l⟩:=n i x v j e hv;have b:EP X pins σ Q u s:=⟨v,H,I,r,h⟩;rcases l with⟨hk,o⟩|⟨hk,c,g,a⟩
 ·exact wpAny_Name (wpAny_loadName_local I.ok.kind hk k o b) d
 ·rcases hk with hk|hk
  ·exact wpAny_Name (wpAny_loadName_cell I.ok.kind hk g a b) d
  ·exact wpAny_Name (wpAny_loadName_free I.ok.kind hk g a b f) d
theorem aD{i j pos}:PE X (.Constant (.int i) j pos) (tC<|.int i):=λ_ _ _ H _ I h=>wpAny_Constant_int ⟨.int i,H,I.tok _,.Y,h⟩
theorem mH{b j pos}:PE X (.Constant (.bool b) j pos) (tC<|.bl b):=λ_ _ _ H _ I h=>Constant_bool ⟨.bl b,H,I,rfl,h⟩
theorem rq{j pos}:PE X (.Constant .none j pos) (tC .non):=λ_ _ _ H _ I h=>Constant_none ⟨.non,H,I,rfl,h⟩
theorem eU{x j pos}:PE X (.Constant (.str x) j pos) (tC<|.str x):=λ_ _ _ H _ I h=>Calls.Constant_str ⟨.str x,H,I.tok _,.Y,h⟩
def Gl(X:Cx)(x:Str):Prop:=X.env.kindOf x=some .globalImplicit
theorem nh{E:.ac}{pins:.U}{s:Shared}{σ:St}{H:Hp}{x:Str}{u:Value}{pos:Pos}{Q:.ac}(I:.D)(a:Gl X x)(b:X.mg x=.ai)(h:Q u s)
  (c:.bc:=by decide):wpAny .af X.A (eval (.Name x pos) X.env) Q E s:=
 Gf I.ok.kind a (Calls.loadGlobal_global (by rw[I.ok.glob];exact I.mod.glob.keeps I.bk) b h) c
theorem Ak{E:.ac}{pins:.U}{s:Shared}{σ:St}{H:Hp}{x:Str}{u:Value}{pos:Pos}{Q:.ac}(I:.D)(a:Gl X x)(b:X.mg x=none)(hv:bootBuiltins x=.ai)(h:Q u s)
  (c:x≠"__name__":=by decide) (d:.bc:=by decide):wpAny .af X.A (eval (.Name x pos) X.env) Q E s:=by
 obtain⟨e,h1,h2⟩:=I.mod.blt;exact Gf I.ok.kind a (Calls.loadGlobal_builtin (by rw[I.ok.glob];exact I.mod.glob.keeps I.bk) b (by rw[I.ok.blt];exact h1.keeps I.bk) ((h2 x c).trans hv) h) d
theorem aR{x:Str}{v:V}{u:Value}{pos:Pos}(a:Gl X x)(b:X.mg x=.ai)(r:RelV v u)(c:.bc:=by decide):PE X (.Name x pos) (tC v):=
 λ_ _ _ H _ I h=>nh I a b ⟨v,H,I,r,h⟩ c
variable{a b:Expr}{ta tb:TE}{pos:Pos}
def PC(X:Cx)(c:CmpOp)(a b:Expr)(t:TE):Prop:=
 ∀(pins:.U) (s:Shared) (σ:St) (H:Hp) (Q:VK),.D->t σ H Q->
  wpAny .af X.A (eval a X.env) (λv s₁=>wpAny .af X.A (eval b X.env) (λu s₂=>wpAny .af X.A (compareOp c v u) .cb X.xe s₂) X.xe s₁) X.xe s
theorem Hk(b:Expr){a:CmpOp}(h:a≠.In)(h2:a≠.NotIn):behindInMarks a b=false:=by
 have c:(a == Cf)=false:=by cases a<;>first|rfl|exact absurd rfl h
 have d:(a == Ce)=false:=by cases a<;>first|rfl|exact absurd rfl h2
 cases b<;>simp[behindInMarks,c,d]
def aca(ta:TE):TE:=λσ H Q=>ta σ H λx H1=>Q (.bl<|decide (x=.non)) H1
def aag(ta:TE):TE:=λσ H Q=>ta σ H λx H1=>Q (.bl<|!decide (x=.non)) H1
theorem RelV.Hl{x:V}{v:Value}(r:RelV x v):(v == dC)=decide (x=.non):=by
 cases x with
 |non=>cases r;rfl
 |bl _=>cases r;rfl
 |int _=>obtain⟨t,rfl⟩:=r;rfl
 |str _=>obtain⟨t,rfl⟩:=r;rfl
 |Hi _=>obtain⟨t,rfl⟩:=r;rfl
 |flt _=>obtain⟨t,rfl⟩:=r;rfl
 |ref _=>cases r;rfl
 |ty _=>cases r;rfl
theorem mI{j pos'}(b:PE X a ta):PC X .Is a (.Constant .none j pos') (aca ta):=by
 intro pins s σ H Q I h;refine eF (b pins s σ H _ I h) λv s1 ⟨x,H1,c,d,e⟩=>?_;exact Constant_none<|is_none_gen ⟨.bl _,H1,c,by rw[d.Hl];rfl,e⟩
theorem yn{j pos'}(b:PE X a ta):PC X .IsNot a (.Constant .none j pos') (aag ta):=by
 intro pins s σ H Q I h;refine eF (b pins s σ H _ I h) λv s1 ⟨x,H1,c,d,e⟩=>?_;exact Constant_none<|isnot_none_gen ⟨.bl _,H1,c,by rw[d.Hl];rfl,e⟩
def tB(t:TE):TT:=λσ H Q=>t σ H λx H1=>∃c,x=.bl c/\Q c H1
theorem nM{c:CmpOp}{t:TE}(h:PC X c a b t)(h1:behindInMarks c b=false:=by first|exact Hk _ .O .O|rfl):PE X (.Compare a [c] [b] pos) t:=λpins s σ H Q I d=>wpAny_Compare1 (h pins s σ H Q I d) h1
theorem iA{e:CmpOp}{t:TE}(h:PC X e a b t)(h1:behindInMarks e b=false:=by first|exact Hk _ .O .O|rfl):PT X (.Compare a [e] [b] pos) (tB t):=by
 intro pins s σ H Q I f;refine wpAny_isTrue_Compare1 (eF (h pins s σ H _ I f) λv s1 h1=>eF h1 λu k h2=>eF h2 λc l ⟨x,H1,g,i,j⟩=>?_) h1;obtain⟨d,rfl,q⟩:=j;cases i;exact wpAny_truthy_bool ⟨H1,g,q⟩
theorem ko{e:Expr}{t:TE}(h:PE X e t)(a:∀whole,isTrue e X.env whole=(do let v <-whole;standAt e.pos;holding [v]<|truthy v):=by intro _;rfl):PT X e (tB t):=by
 intro pins s σ H Q I b;refine isTrue_plain (eF (h pins s σ H _ I b) λv s1 ⟨x,H1,c,f,g⟩=>?_)<|a _;obtain⟨d,rfl,q⟩:=g;cases f;exact wpAny_truthy_bool ⟨H1,c,q⟩
variable{tA tB':TT}{rest:.aU}
def acb(t u:TT):TT:=λσ H Q=>t σ H λc H1=>if c=true then u σ H1 Q else Q false H1
def tOr(t u:TT):TT:=λσ H Q=>t σ H λc H1=>if c=true then Q true H1 else u σ H1 Q
def acd(t:TT):TT:=λσ H Q=>t σ H λc H1=>Q (!c) H1
theorem Ky(b:PT X a tA):PW X (.BoolOp .And [a] pos) tA:=by
 intro d pins s σ H Q I h;refine isTrue_and<|eF (b pins s σ H Q I h) λc s1 e=>?_;cases c with
 |true=>exact isTrue_and_nil e
 |false=>exact e
theorem Du(b:PT X a tA):PW X (.BoolOp .Or [a] pos) tA:=by
 intro d pins s σ H Q I h;refine isTrue_or<|eF (b pins s σ H Q I h) λc s1 e=>?_;cases c with
 |false=>exact isTrue_or_nil e
 |true=>exact e
theorem Jq(f:PT X a tA)(g:PW X (.BoolOp .And (b::rest) pos) tB'):PW X (.BoolOp .And (a::b::rest) pos) (acb tA tB'):=by
 intro i pins s σ H Q I h;refine isTrue_and<|eF (f pins s σ H _ I h) λc s1 ⟨H1,d,e⟩=>?_;cases c with
 |true=>exact g i pins s1 σ H1 Q d e
 |false=>exact⟨H1,d,e⟩
theorem Hm(f:PT X a tA)(g:PW X (.BoolOp .Or (b::rest) pos) tB'):PW X (.BoolOp .Or (a::b::rest) pos) (tOr tA tB'):=by
 intro i pins s σ H Q I h;refine isTrue_or<|eF (f pins s σ H _ I h) λc s1 ⟨H1,d,e⟩=>?_;cases c with
 |true=>exact⟨H1,d,e⟩
 |false=>exact g i pins s1 σ H1 Q d e
theorem tF(b:PT X a tA):PT X (.UnaryOp .Not a pos) (acd tA):=by
 intro pins s σ H Q I h;exact isTrue_not<|b pins s σ H (λc H1=>Q (!c) H1) I h
def aah(ta tb:TE):TE:=λσ H Q=>ta σ H λx H1=>∃c,x=.bl c/\if c=true then tb σ H1 Q else Q (.bl false) H1
def ace(ta tb:TE):TE:=λσ H Q=>ta σ H λx H1=>∃c,x=.bl c/\if c=true then Q (.bl true) H1 else tb σ H1 Q
def aai(ta:TE):TE:=λσ H Q=>ta σ H λx H1=>∃c,x=.bl c/\Q (.bl<|!c) H1
theorem wN{op}{t:TE}(h:PE X a t):PE X (.BoolOp op [a] pos) t:=λpins s σ H Q I b=>BoolOp_one<|h pins s σ H Q I b
theorem wO(f:PE X a ta)(g:PE X (.BoolOp .And (b::rest) pos) tb):PE X (.BoolOp .And (a::b::rest) pos) (aah ta tb):=by
 intro pins s σ H Q I h;refine BoolOp_and<|eF (f pins s σ H _ I h) λv s1 ⟨x,H1,e,i,d⟩=>?_;obtain⟨c,rfl,d⟩:=d;cases i;refine wpAny_truthy_bool ?_;cases c with
 |true=>exact g pins s1 σ H1 Q e d
 |false=>exact⟨.bl false,H1,e,rfl,d⟩
theorem aaj(f:PE X a ta)(g:PE X (.BoolOp .Or (b::rest) pos) tb):PE X (.BoolOp .Or (a::b::rest) pos) (ace ta tb):=by
 intro pins s σ H Q I h;refine BoolOp_or<|eF (f pins s σ H _ I h) λv s1 ⟨x,H1,e,i,d⟩=>?_;obtain⟨c,rfl,d⟩:=d;cases i;refine wpAny_truthy_bool ?_;cases c with
 |false=>exact g pins s1 σ H1 Q e d
 |true=>exact⟨.bl true,H1,e,rfl,d⟩
theorem Pk(d:PE X a ta):PE X (.UnaryOp .Not a pos) (aai ta):=by
 intro pins s σ H Q I h;refine UnaryOp_<|eF .d_ λv s1 ⟨x,H1,e,f,b⟩=>?_;obtain⟨c,rfl,b⟩:=b;cases f;exact not_of<|wpAny_truthy_bool ⟨.bl<|!c,H1,e,rfl,b⟩
def tIf(t:TT)(ta tb:TE):TE:=λσ H Q=>t σ H λc H1=>if c=true then ta σ H1 Q else tb σ H1 Q
theorem rB{c:Expr}(g:PT X c tA)(i:PE X a ta)(j:PE X b tb):PE X (.IfExp c a b pos) (tIf tA ta tb):=by
 intro pins s σ H Q I h;refine wpAny_IfExp<|eF (g pins s σ H _ I h) λd s1 ⟨H1,e,f⟩=>?_;cases d with
 |true=>exact i pins s1 σ H1 Q e f
 |false=>exact j pins s1 σ H1 Q e f
end
def bh(K:ah)(H:Hp)(a:Addr)(xs:.r):Prop:=
 Rd H a (.lst xs)\/
  ∃(o:Obj) (its:.aE) (n:Nat),K.lookup a=.i/\o.cls=.bB/\o.dict=none/\o.data=.seq its n/\its.size<=sizeLine/\Vals xs its.toList
def gm(K:ah)(H:Hp)(a:Addr)(xs:.r):Prop:=
 Rd H a (.tup xs)\/
  .fZ
def acf:Value->.aw
 |.none=>some .non
 |.bool b=>some<|.bl b
 |.int i _=>some<|.int i
 |.str x _=>some<|.str x
 |.bytes b _=>some<|.Hi b
 |.float b _=>some<|.flt b
 |.ref a=>some<|.ref a
 |.type n=>some<|.ty n
 |_=>none
theorem RelV.abs{x:V}{u:Value}(r:RelV x u):acf u=.v:=by
 cases x with
 |non=>cases r;rfl
 |bl _=>cases r;rfl
 |int _=>obtain⟨t,rfl⟩:=r;rfl
 |str _=>obtain⟨t,rfl⟩:=r;rfl
 |Hi _=>obtain⟨t,rfl⟩:=r;rfl
 |flt _=>obtain⟨t,rfl⟩:=r;rfl
 |ref _=>cases r;rfl
 |ty _=>cases r;rfl
theorem RelV.inj{x y:V}{u:Value}(r:RelV x u)(q:RelV y u):x=y:=aI<|r.abs.symm.trans q.abs
theorem Vals.inj:∀{xs ys:.r} {us:.u},.b4->Vals ys us->xs=ys
 |_,_,_,.nil,.nil=>rfl
 |_,_,_,.cons r t,.cons r' t'=>by rw[r.inj r',Vals.inj t t']
section
variable{X:Cx}{pins:.U}{σ:St}{H:Hp}{s:Shared}{a:Addr}{xs ys:.r}
theorem bh.of{K:ah}(h:H a=.aZ):.b2:=.inl<|.inl h
theorem gm.of{K:ah}(h:H a=some (.tup xs)):.cH:=.inl<|.inl h
theorem Inv.list(I:.D)(h:bh X.K H a xs):∃its:.u,Vals xs its/\PlainL s.heap a its.toArray/\.dx:=by
 rcases h with h|⟨o,its,n,hk,b,c,hs,d,r⟩
 ·obtain⟨z,its,n,r,e⟩:=h.ok I.hok;exact⟨its,r,⟨_,n,e,rfl,rfl,rfl⟩,z⟩
 ·refine⟨its.toList,r,⟨o,n,I.ug a o hk,b,c,by simpa using hs⟩,?_⟩;have e:=r.length;simp only[zw] at e;omega
theorem Inv.tuple(I:.D)(h:gm X.K H a xs):∃its:.u,Vals xs its/\IsTup s.heap a its.toArray/\.dx:=by
 rcases h with h|⟨o,its,n,hk,b,hs,c,r⟩
 ·obtain⟨z,its,r,p⟩:=h.ok I.hok;exact⟨its,r,p,z⟩
 ·refine⟨its.toList,r,⟨o,I.ug a o hk,b,n,by simpa using hs⟩,?_⟩;have e:=r.length;simp only[zw] at e;omega
theorem Inv.Al(I:.D)(h:bh X.K H a xs)(h':bh X.K H a ys):xs=ys:=by
 obtain⟨its,r,⟨o,n,e,_,_,d⟩,_⟩:=I.list h;obtain⟨its',c,⟨o',f,b,_,_,d'⟩,_⟩:=I.list h';rw[e] at b;cases b;rw[d] at d';injection d' with d1 _;have:its=its':=by simpa using congrArg zF d1
 subst this;exact r.inj c
theorem Inv.Cr(I:.D)(h:gm X.K H a xs)(h':gm X.K H a ys):xs=ys:=by
 obtain⟨its,r,⟨o,e,_,n,d⟩,_⟩:=I.tuple h;obtain⟨its',c,⟨o',b,_,f,d'⟩,_⟩:=I.tuple h';rw[e] at b;cases b;rw[d] at d';injection d' with d1 _;have:its=its':=by simpa using congrArg zF d1
 subst this;exact r.inj c
end
abbrev Cx.wish(X:Cx)(E:.ac):Cx:={ X with xe:=E }
abbrev Cx.TJ(X:Cx):Cx:=X.wish λ_ _=>False
theorem Cx.Ok.wish{X:Cx}(ok:X.Ok)(E:.ac):(X.wish E).Ok:=
 .fU
theorem Cx.Ok.nN{X:Cx}{E:.ac}(ok:(X.wish E).Ok):X.Ok:=
 .fU
section
variable{X:Cx}{pins:.U}{σ:St}{H:Hp}{s:Shared}{E:.ac}
theorem Inv.wish(I:.D)(E:.ac):Inv (X.wish E) pins σ H s:=⟨I.ok.wish E,I.os,I.bare,I.base,I.loc,I.cell,I.free,I.lq,I.pin,I.hok,I.len⟩
theorem Inv.nN(I:Inv (X.wish E) pins σ H s):.D:=⟨I.ok.nN,I.os,I.bare,I.base,I.loc,I.cell,I.free,I.lq,I.pin,I.hok,I.len⟩
theorem SP.nN{D:Ends}{f:Flow}{s':Shared}(h:SP (X.wish E) pins D f s'):SP X pins D f s':=by
 cases f with
 |next=>obtain⟨σ',H',I,q⟩:=h;exact⟨σ',H',I.nN,q⟩
 |brk=>obtain⟨σ',H',I,q⟩:=h;exact⟨σ',H',I.nN,q⟩
 |cont=>obtain⟨σ',H',I,q⟩:=h;exact⟨σ',H',I.nN,q⟩
 |ret u=>obtain⟨v,σ',H',I,r,q⟩:=h;exact⟨v,σ',H',I.nN,r,q⟩
theorem PE.TJ{e:Expr}{t:TE}(h:PE X.TJ e t):PE X e t:=λpins s σ H Q I a=>
 wpAny_mono (h pins s σ H Q (I.wish _) a) (λ_ _ ⟨v,H',b,r,q⟩=>⟨v,H',b.nN,r,q⟩) λ_ _ z=>de z
theorem PT.TJ{e:Expr}{t:TT}(h:PT X.TJ e t):PT X e t:=λpins s σ H Q I a=>
 wpAny_mono (h pins s σ H Q (I.wish _) a) (λ_ _ ⟨H',b,q⟩=>⟨H',b.nN,q⟩) λ_ _ z=>de z
theorem Dt.TJ{st:List Stmt}{t:TS}(h:Dt X.TJ st t):Dt X st t:=λpins s σ H D I a=>
 wpAny_mono (h pins s σ H D (I.wish _) a) (λ_ _ q=>q.nN) λ_ _ z=>de z
end
section
variable{X:Cx}{st:Stmt}{rest:List Stmt}{t u:TS}{e:Expr}{te:TE}{pos:Pos}
def aak:TS:=λD σ H=>D.nx σ H
def XF(t u:TS):TS:=λD σ H=>t { D with nx:=u D } σ H
theorem bE:Dt X [] aak:=λ_ _ σ H _ I h=>wpAny_execs_nil ⟨σ,H,I,h⟩
theorem af(h1:PS X st t)(h2:Dt X rest u):Dt X (st::rest) (XF t u):=by
 intro pins s σ H D I h;refine wpAny_execs_cons<|eF (h1 pins s σ H { D with nx:=u D } I h) λf s1 q=>?_;cases f with
 |next=>
  obtain⟨σ',H',a,q⟩:=q;exact h2 pins s1 σ' H' D a q
 |ret v=>exact q
 |brk=>exact q
 |cont=>exact q
theorem ap(h1:PS X st t):Dt X [st] t:=by
 intro pins s σ H D I h;refine wpAny_execs_cons<|eF (h1 pins s σ H D I h) λf s1 q=>?_;cases f with
 |next=>exact wpAny_execs_nil q
 |ret v=>exact q
 |brk=>exact q
 |cont=>exact q
theorem Inv.quiet{pins:.U}{σ:St}{H:Hp}{s:Shared}(I:.D):interactive X.env=false:=by simp[interactive,I.ok.kind]
def aal(te:TE):TS:=λD σ H=>te σ H λ_ H1=>D.nx σ H1
theorem aL(a:PE X e te)(hs:swapsWith e none pos.line X.env=pure false:=by rfl):PS X (.Expr e pos) (aal te):=by
 intro pins s σ H D I h;exact wpAny_Expr_any (eF (a pins s σ H _ I h) λv s1 ⟨x,H1,b,d,c⟩=>⟨σ,H1,b,c⟩) I.quiet hs
def acg(te:TE):TS:=λD σ H=>te σ H D.rt
theorem aJ(a:PE X e te):PS X (.Return (some e) pos) (acg te):=by
 intro pins s σ H D I h;exact wpAny_Return_some<|eF (a pins s σ H _ I h) λv s1 ⟨x,H1,b,c,d⟩=>⟨x,σ,H1,b,c,d⟩
def ach(c:TT)(t u:TS):TS:=λD σ H=>c σ H λb H1=>if b=true then t D σ H1 else u D σ H1
theorem cx{c:Expr}{a b:List Stmt}{tc:TT}(g:PT X c tc)(i:Dt X a t)(j:Dt X b u):PS X (.If c a b pos) (ach tc t u):=by
 intro pins s σ H D I h;refine wpAny_If<|eF (g pins s σ H _ I h) λd s1 ⟨H1,e,f⟩=>?_;cases d with
 |true=>exact i pins s1 σ H1 D e f
 |false=>exact j pins s1 σ H1 D e f
def Pl:TS:=λ_ _ _=>False
theorem Pp:PS X st Pl:=λ_ _ _ _ _ _ h=>h.elim
theorem MW{sts:List Stmt}:Dt X sts Pl:=λ_ _ _ _ _ _ h=>h.elim
end
abbrev TG:=V->St->Hp->.a6->Prop
abbrev Wp:=.r->St->Hp->.a6->Prop
def PG(X:Cx)(a:Expr)(t:TG):Prop:=
 ∀(pins:.U) (s:Shared) (σ:St) (H:Hp) (v:V) (u:Value) (Q:.a6),.D->RelV v u->t v σ H Q->
  wpAny .af X.A (assign a X.env u) (λ_ s'=>∃σ' H',.dL/\Q σ' H') X.xe s
def PGs(X:Cx)(a:.aU)(t:Wp):Prop:=
 ∀(pins:.U) (s:Shared) (σ:St) (H:Hp) (vs:.r) (us:.u) (Q:.a6),.D->Vals vs us->t vs σ H Q->
  wpAny .af X.A (assignInOrder ((assignEach a X.env).map (·.2)) us) (λ_ s'=>∃σ' H',.dL/\Q σ' H') X.xe s
abbrev Pq:=V->V->V->Hp->.Z->Prop
def XG(X:Cx)(t:Pq):Prop:=
 ∀(pins:.U) (s:Shared) (σ:St) (H:Hp) (o i v:V) (a b u:Value) (Q:.Z),.D->RelV o a->RelV i b->RelV v u->t o i v H Q->
  wpAny .af X.A (setItem a b u) (λ_ s'=>∃H',.df/\Q H') X.xe s
abbrev ZV:=V->V->.aD
def PIp(X:Cx)(a:Operator)(t:ZV):Prop:=
 ∀(pins:.U) (s:Shared) (σ:St) (H:Hp) (x y:V) (v u:Value) (Q:VK),.D->RelV x v->RelV y u->t x y H Q->
  wpAny .af X.A (inplaceOp a v u) .cb X.xe s
section
variable{X:Cx}{pos:Pos}
def Am(i:Nat):TG:=λv σ H Q=>Q (σ.set i<|some v) H
theorem TK{i:Nat}{x:Str}(a:X.N.Nodup)(hi:X.N[i]?=.v)(b:Loc X.env.scope x)(c:.dX:=by first|exact .ar|exact .inr rfl|assumption):PG X (.Name x pos) (Am i):=by
 intro pins s σ H v u Q I r h;exact wpAny_assign_Name<|vz I a hi b r (λs' d=>⟨_,H,d,h⟩) c
def aci:Wp:=λvs σ H Q=>vs=[]/\Q σ H
def aam(t:TG)(u:Wp):Wp:=λvs σ H Q=>∃v r,vs=v::r/\t v σ H λσ' H'=>u r σ' H' Q
theorem lG:PGs X [] aci:=by
 intro pins s σ H vs us Q I r h;obtain⟨e,h⟩:=h;subst e;cases r;exact assignInOrder_nil ⟨σ,H,I,h⟩
theorem eG{e:Expr}{es:.aU}{t:TG}{u:Wp}(h1:PG X e t)(h2:PGs X es u)
  (hs:(assignEach (e::es) X.env).map (·.2)=assign e X.env::(assignEach es X.env).map (·.2):=by rfl):PGs X (e::es) (aam t u):=by
 intro pins s σ H vs us Q I r h;obtain⟨v,d,a,h⟩:=h;subst a;cases r with
 |cons r rr=>
  rw[hs];refine assignInOrder_cons<|eF (h1 pins s σ H _ _ _ I r h) λ_ s1 ⟨σ1,H1,b,c⟩=>?_;exact h2 pins s1 σ1 H1 _ _ Q b rr c
def aan(K:ah)(n:Nat)(t:Wp):TG:=λv σ H Q=>∃a xs,v=.E/\.cH/\xs.length=n/\t xs σ H Q
theorem Pt{es:.aU}{k:Nat}{t:Wp}{n:Nat}(g:.ce)(h:PGs X es t)
  (i:(assignEach es X.env).length=n:=by rfl) (c:(assignEach es X.env).findIdx? (·.1)=none:=by rfl):PG X (.Tuple es k pos) (aan X.K n t):=by
 intro pins s σ H v u Q I r d;obtain⟨a,xs,j,l,m,d⟩:=d;subst j;cases r;obtain⟨its,f,ht,w⟩:=I.tuple l;refine assign_Tuple_tuple (I.ok.hd g) ht (by simp[i,<-m,f.length]) c λh' p=>?_;have q:Inv X pins σ H .cO:=I.kept (t':=s.toks) λb o e=>p b o (cy<|aZ e) e;exact h pins _ σ H xs _ Q q (by simpa using f) d
def acj(to a:TE)(t:Pq):TG:=λv σ H Q=>to σ H λo H1=>a σ H1 λi H2=>t o i v H2 λb=>Q σ b
theorem Dv{o i:Expr}{to c:TE}{t:Pq}(d:PE X o to)(hi:PE X i c)(hs:XG X t)
  (e:∀v,assign (.Subscript o i pos) X.env v=(do
   let a <-holding [v] (eval o X.env)
   let b <-holding [v,a] (eval i X.env)
   standAt pos
   holding [v,a,b] (setItem a b v)
   release [v,a,b] []):=by intro _;rfl):PG X (.Subscript o i pos) (acj to c t):=by
 intro pins s σ H v u Q I r h;rw[e];refine wpAny_bind<|wpAny_holding<|eF .d_ λa s1 ⟨x,H1,f,g,j⟩=>?_;refine wpAny_bind<|wpAny_holding<|eF (hi pins s1 σ H1 _ f j) λb k ⟨y,H2,l,m,n⟩=>?_;refine wpAny_bind<|wpAny_standAt<|wpAny_bind<|wpAny_holding<|eF (hs pins k σ H2 x y v a b u _ l g m r n) λ_ z ⟨p,q,w⟩=>?_;exact wpAny_release ⟨σ,p,q,w⟩
def Pu(te:TE)(g:TG):TS:=λD σ H=>te σ H λx H1=>g x σ H1 D.nx
theorem Dx{tg e:Expr}{te:TE}{g:TG}(a:PE X e te)(b:PG X tg g)(hs:swapsWithSole [tg] e pos.line X.env=pure false:=by rfl)(c:swappedStores [tg] e X.env=pure none:=by rfl)
  (h1:(assignEach [tg] X.env).map (·.2)=[assign tg X.env]:=by rfl):PS X (.Assign [tg] e pos) (Pu te g):=by
 intro pins s σ H D I h;refine wpAny_Assign_stores (eF (a pins s σ H _ I h) λv s1 ⟨x,H1,d,f,i⟩=>?_) hs c;rw[h1];exact eF (b pins s1 σ H1 x v _ d f i) λ_ j q=>q
theorem XH{i:Nat}{x:Str}{e:Expr}{te:TE}{pos':Pos}(a:X.N.Nodup)(hi:X.N[i]?=.v)(b:Loc X.env.scope x)(c:PE X e te)(hs:swapsWith e (some<|.Name x pos') pos.line X.env=pure false:=by rfl)(d:.dX:=by first|exact .ar|exact .inr rfl|assumption):
  PS X (.Assign [.Name x pos'] e pos) (Pu te<|Am i):=by
 intro pins s σ H D I h;refine wpAny_Assign_Name (eF (c pins s σ H _ I h) λv s1 ⟨y,H1,f,g,j⟩=>?_) hs;exact vz f a hi b g (λl k=>⟨_,H1,k,j⟩) d
def ack(i:Nat)(te:TE)(a:ZV):TS:=λD σ H=>∃x,σ[i]?=some .v/\te σ H λy H1=>a x y H1 λz H2=>D.nx (σ.set i<|some z) H2
theorem Dy{i:Nat}{x:Str}{e:Expr}{te:TE}{b:Operator}{g:ZV}{pos':Pos}(j:X.N.Nodup)(hi:X.N[i]?=.v)(d:Loc X.env.scope x)(n:PE X e te)(o:PIp X b g)(p:.dX:=by first|exact .ar|exact .inr rfl|assumption):
  PS X (.AugAssign (.Name x pos') b e pos) (ack i te g):=by
 intro pins s σ H D I h;obtain⟨v,q,h⟩:=h;obtain⟨m,t,B⟩:=I.loc;have f:ZU X.env.scope x:=by rcases d with k|k;exact .inl k;exact .inr<|.inl k
 obtain⟨u,r,l⟩:=B i x v hi q f;refine wpAny_AugAssign_Name ?_;have go:wpAny .af X.A .bA (λw s₂=>wpAny .af X.A (inplaceOp b u w) (λr s₃=>wpAny .af X.A (storeName X.env x r) (λ_=>SP X pins D .next) X.xe s₃) X.xe s₂) X.xe s:=by
  refine eF (n pins s σ H _ I h) λw s1 ⟨y,H1,C,E,F⟩=>?_;refine eF (o pins s1 σ H1 v y u w _ C r E F) λz P ⟨Q,H2,G,J,K⟩=>?_;exact vz G j hi d J (λR L=>⟨_,H2,L,K⟩) p
 rcases l with⟨hk,M⟩|⟨hk,c,O,a⟩
 ·exact wpAny_loadName_local I.ok.kind hk t M go
 ·rcases hk with hk|hk
  ·exact wpAny_loadName_cell I.ok.kind hk O a go
  ·rcases d with k|k
   ·have:X.env.scope.names.lookup x=some .free:=hk;rw[k] at this;cases this
   ·have:X.env.scope.names.lookup x=some .free:=hk;rw[k] at this;cases this
def aao(to b te:TE)(c:V->V->.aD)(a:ZV)(d:Pq):TS:=λD σ H=>to σ H λo H1=>b σ H1 λi H2=>c o i H2 λx e=>te σ e λy f=>a x y f λz g=>d o i z g λh=>D.nx σ h
def aap(X:Cx)(t:V->V->.aD):Prop:=
 ∀(pins:.U) (s:Shared) (σ:St) (H:Hp) (o i:V) (a b:Value) (Q:VK),.D->RelV o a->RelV i b->t o i H Q->
  wpAny .af X.A (getItem a b) .cb X.xe s
theorem Kz{o i e:Expr}{to f te:TE}{g:V->V->.aD}{c:ZV}{j:Pq}{k:Operator}{tpos:Pos}(n:PE X o to)(hi:PE X i f)(p:aap X g)(q:PE X e te)(hp:PIp X k c)(hs:XG X j)
  (r:∀a b new,augStore i a b new=(do holding [new,a,b] (setItem a b new);release [new,a,b] [];pure .next):=by intros;rfl):PS X (.AugAssign (.Subscript o i tpos) k e pos) (aao to f te g c j):=by
 intro pins s σ H D I h;refine wpAny_AugAssign_SubscriptAny (eF (n pins s σ H _ I h) λa s1 ⟨x1,H1,t,l,u⟩=>?_) r;refine eF (hi pins s1 σ H1 _ t u) λb w ⟨x2,H2,x,m,y⟩=>?_;refine eF (p pins w σ H2 x1 x2 a b _ x l m y) λd z ⟨A,B,C,E,F⟩=>?_;refine eF (q pins z σ B _ C F) λv G ⟨J,K,L,M,N⟩=>?_;refine eF (hp pins G σ K A J d v _ L E M N) λnew O ⟨P,Q,R,S,T⟩=>?_;exact eF (hs pins O σ Q x1 x2 P a b new _ R l m S T) λ_ Z ⟨U,W,Y⟩=>⟨σ,U,W,Y⟩
def ipI(f:Int->Int->Int):ZV:=λx y H Q=>∃i j,x=.int i/\y=.int j/\Q (.int<|f i j) H
theorem An:PIp X .Add (ipI λi j=>i+j):=by
 intro pins s σ H x y v u Q I a b h;obtain⟨i,j,c,d,q⟩:=h;subst c;subst d;obtain⟨t,rfl⟩:=a;obtain⟨t',rfl⟩:=b;exact iadd_int ⟨.int _,H,I.tok _,.Y,q⟩
theorem XI:PIp X .Sub (ipI λi j=>i-j):=by
 intro pins s σ H x y v u Q I a b h;obtain⟨i,j,c,d,q⟩:=h;subst c;subst d;obtain⟨t,rfl⟩:=a;obtain⟨t',rfl⟩:=b;exact isub_int ⟨.int _,H,I.tok _,.Y,q⟩
def XM(c:TT)(tb:TS):TS:=λD σ H=>∃W:Nat->.a6,(∃m,W m σ H)/\∀m σ H,W m σ H->
 c σ H λb H1=>if b=true then ∃N:.a6,(∀σ' H',N σ' H'->∃a,a<m/\W a σ' H')/\tb { D with nx:=N,ct:=N,bk:=D.nx } σ H1 else D.nx σ H1
theorem mJ{c:Expr}{a:List Stmt}{tc:TT}{tb:TS}(hp:PassesOwn .af X.A X.env X.xe)(q:PT X c tc)(r:Dt X a tb):PS X (.While c a [] pos) (XM tc tb):=by
 intro pins s σ H D I h;obtain⟨W,⟨t,u⟩,turn⟩:=h;refine wpAny_While<|codeAny_whileLoop (λn s'=>∃σ' H',.dL/\W n σ' H') ?_ t ⟨σ,H,I,u⟩;rintro n s1 ⟨σ1,H1,x,y⟩;refine wpAny_passesOwn hp<|eF (q pins s1 σ1 H1 _ x<|turn n σ1 H1 y) λb z ⟨H2,o,e⟩=>?_;cases b with
 |true=>
  obtain⟨N,p,e⟩:=e;rw[.ah];refine wpAny_passesOwn hp<|eF (r pins z σ1 H2 _ o e) λf B g=>?_;cases f with
  |next=>
   obtain⟨σ3,d,i,j⟩:=g;obtain⟨k,l,m⟩:=p σ3 d j;exact⟨k,l,σ3,d,i,m⟩
  |cont=>
   obtain⟨σ3,d,i,j⟩:=g;obtain⟨k,l,m⟩:=p σ3 d j;exact⟨k,l,σ3,d,i,m⟩
  |brk=>exact g
  |ret v=>exact g
 |false=>
  rw[if_neg cX];exact wpAny_execs_nil ⟨σ1,H2,o,e⟩
end
structure It where
 go:Nat->.Z
 BB:Nat->Hp->V->.Z
 stop:Nat->.Z
def xY(X:Cx)(pins:.U)(H:Hp)(b:Addr):Prop:=
 .aR/\b≠X.env.locals/\b∉X.fs/\(b∈X.ex\/X.wL.heap.objs.size<=b)/\(∀x c,.cx->c≠b)/\∀p∈X.pn++pins,p.1≠b
theorem Inv.Jr{X:Cx}{pins:.U}{σ:St}{H H':Hp}{s:Shared}{b:Addr}(I:.D)(a:s.heap.objs.size<=b)(d:H' b=none):xY X pins H' b:=by
 refine⟨d,gR<|eQ I.lt a,I.ab8 a,.inr<|bK I.sz a,λx c e z=>?_,λp hp z=>?_⟩
 ·obtain⟨v,q⟩:=I.cell x c e;exact absurd (eQ q.lt (by rw[z];exact a))<|gQ _
 ·exact absurd (eQ (aZ (I.pin p hp).1) (by rw[z];exact a))<|gQ _
structure Turn(P:Program)(w:World)(K:ah)(tg:Expr)(J:It)(fp:.B)(it:Addr)(tn:Nat->Heap->Prop):Prop where
 mem:it∈fp
 obj:∀i h,tn i h->∀b∈fp,∃o,.bK/\∀v,o.data≠.cell v
 keep:∀i h h',tn i h->(∀b∈fp,∀o,.bK->.aQ=.i)->tn i h'
 item:∀(X:Cx),X.prog=P->X.w=w->X.K=K->.ce->∀(i:Nat) (pins:.U) (s:Shared) (σ:St) (H:Hp) (E:.ac),.D->(∀b∈fp,xY X pins H b)->tn i s.heap->J.go i H->
  wpAny (model P w) X.A (pyNext (.ref it)) (λr s1=>∃u,r=.ai/\
   wpAny (model P w) X.A (letOwnedTupleGo tg (.ref it) u) (λ_ s2=>∃x H',Inv X pins σ H' s2/\RelV x u/\J.BB i H x H'/\tn (i+1) s2.heap/\∀b∈fp,H' b=none) E s1) E s
 done:∀(X:Cx),X.prog=P->X.w=w->X.K=K->.ce->∀(i:Nat) (pins:.U) (s:Shared) (σ:St) (H:Hp) (E:.ac),.D->(∀b∈fp,xY X pins H b)->tn i s.heap->J.stop i H->
  wpAny (model P w) X.A (pyNext<|.ref it) (λr s1=>r=none/\Inv X pins σ H s1) E s
 self:∀(A:Around) (i:Nat) (s:Shared) (Q:.ac) (E:.ac),tn i s.heap->Q (.ref it) s->wpAny (model P w) A (pyIter<|.ref it) Q E s
abbrev TI:=St->Hp->(It->.Z)->Prop
def PIE(X:Cx)(pins:.U)(σ:St)(tg:Expr)(R:It->.Z)(a:Value)(c:Shared):Prop:=
 ∃(d:Addr) (e:.B) (f:Nat->Heap->Prop) (J:It) (H':Hp),a=.ref d/\Inv X pins σ H' c/\Turn X.prog X.w X.K tg J e d f/\f 0 c.heap/\(∀b∈e,xY X pins H' b)/\R J H'
def PI(X:Cx)(tg a:Expr)(b:TI):Prop:=
 ∀(pins:.U) (s:Shared) (σ:St) (H:Hp) (R:It->.Z),.D->b σ H R->
  wpAny .af X.A (eval a X.env) (λv s1=>wpAny .af X.A (pyIter v) (PIE X pins σ tg R) X.xe s1) X.xe s
theorem KA{M:Model}{A:Around}{E:.ac}{s:Shared}{tg:Expr}{b:Addr}{u:Value}{o:Obj}{n:String}{vs:.aE}{Q:Unit->.aT}(c:.bx)(d:o.cls=.type n)(e:o.data=.ci)
  (f:.fS=false) (a:Q () s):wpAny M A (letOwnedTupleGo tg .aM u) Q E s:=by
 unfold letOwnedTupleGo;cases tg<;>first
  |exact wpAny_pure a
  |(cases u<;>first
    |exact wpAny_pure a
    |(refine wpAny_bind (wpAny_load c ?_)
      rw[d,e]
      show wpAny M A (if(.fS&&vs[0]? == some (rawInt _))=true then _ else _) Q E s
      rw[if_neg (by intro h;rw[f,qQ] at h;cases h)]
      exact wpAny_pure a))
def TR(K:ah)(a:Addr):It:=
 ⟨λi H=>∃xs x,.b2/\.ck,λi H x H'=>H'=H/\∀xs,.b2->.ck,λi H=>∃xs,.b2/\xs.length<=i⟩
def ZW(K:ah)(a:Addr):It:=
 ⟨λi H=>∃xs x,.cH/\.ck,λi H x H'=>H'=H/\∀xs,.cH->.ck,λi H=>∃xs,.cH/\xs.length<=i⟩
def XN(lo:Int)(n:Nat):It:=⟨λi _=>i<n,λi H x H'=>H'=H/\x=.int (lo+i),λi _=>n<=i⟩
theorem MY{P:Program}{w:World}{K:ah}{tg:Expr}(a f:Addr):Turn P w K tg (TR K a) [f] f (λi h=>h.IsListIter f a i) where
 mem:=.m
 obj:=λi h st b g=>by
  have e:b=f:=.dj
  subst e;obtain⟨o,e,c,d⟩:=st;exact⟨o,e,λv z=>by rw[d] at z;cases z⟩
 keep:=λi h h' st k=>st.at λo e=>k f .m o e
 item:=by
  intro X n q r J i pins s σ H E I l st t;subst n q r;obtain⟨xs,x,m,y⟩:=t;obtain⟨its,A,p,L⟩:=I.list m;obtain⟨u,M,N⟩:=A.get y;obtain⟨B,C,O,D,F,G⟩:=l f .m;refine wpAny_pyNext_list_item st p.isList (x:=u) (by simpa using M) λh' j Q=>?_;have R:Inv X pins σ H .cO:=I.turned (t':=s.toks) (λb o g e=>(Q.2 b g).trans e) B C D F G;obtain⟨o,e,c,d⟩:=id j;exact⟨u,rfl,KA (s:=.cO) e c d .O ⟨x,H,R,N,⟨rfl,λys S=>by rw[I.Al S m];exact y⟩,j,λb g=>(l b g).1⟩⟩
 done:=by
  intro X n q r J i pins s σ H E I l st t;subst n q r;obtain⟨xs,m,y⟩:=t;obtain⟨its,A,p,L⟩:=I.list m;obtain⟨B,C,O,D,F,G⟩:=l f .m;have U:=A.length;exact wpAny_pyNext_list_end (I.ok.hd J) st p.isList .bq λh' T=>⟨rfl,I.turned (t':=s.toks) (λb o g e=>T b o g e) B C D F G⟩
 self:=λ_ _ _ _ _ st h=>wpAny_pyIter_listiter st h
theorem Js{P:Program}{w:World}{K:ah}{tg:Expr}(a f:Addr):Turn P w K tg (ZW K a) [f] f (λi h=>h.IsTupleIter f a i) where
 mem:=.m
 obj:=λi h st b g=>by
  have e:b=f:=.dj
  subst e;obtain⟨o,e,c,d⟩:=st;exact⟨o,e,λv z=>by rw[d] at z;cases z⟩
 keep:=λi h h' st k=>st.at λo e=>k f .m o e
 item:=by
  intro X n q r J i pins s σ H E I l st t;subst n q r;obtain⟨xs,x,m,y⟩:=t;obtain⟨its,A,p,L⟩:=I.tuple m;obtain⟨u,M,N⟩:=A.get y;obtain⟨B,C,O,D,F,G⟩:=l f .m;refine wpAny_pyNext_tuple_item st (show s.heap.IsTuple a its.toArray from p) (x:=u) (by simpa using M) λh' j Q=>?_;have R:Inv X pins σ H .cO:=I.turned (t':=s.toks) (λb o g e=>(Q.2 b g).trans e) B C D F G;obtain⟨o,e,c,d⟩:=id j;exact⟨u,rfl,KA (s:=.cO) e c d .O ⟨x,H,R,N,⟨rfl,λys S=>by rw[I.Cr S m];exact y⟩,j,λb g=>(l b g).1⟩⟩
 done:=by
  intro X n q r J i pins s σ H E I l st t;subst n q r;obtain⟨xs,m,y⟩:=t;obtain⟨its,A,p,L⟩:=I.tuple m;obtain⟨B,C,O,D,F,G⟩:=l f .m;have U:=A.length;exact wpAny_pyNext_tuple_end (I.ok.hd J) st (show s.heap.IsTuple a its.toArray from p) .bq λh' T=>⟨rfl,I.turned (t':=s.toks) (λb o g e=>T b o g e) B C D F G⟩
 self:=λ_ _ _ _ _ st h=>wpAny_pyIter_tupleiter st h
theorem Jt{P:Program}{w:World}{K:ah}{tg:Expr}(a:Addr)(lo:Int)(n:Nat):Turn P w K tg (XN lo n) [a] a (λi h=>IsRangeIter h a (lo+(i:Nat)*1) ((n:Int)-(i:Nat)) 1) where
 mem:=.m
 obj:=λi h st b c=>by
  have e:b=a:=.cC
  subst e;exact⟨_,st,λv z=>by
   have A:Data.fields _=Data.cell v:=z;cases A⟩
 keep:=λi h h' st k=>k a .m _ st
 item:=by
  intro X g j l m i pins s σ H E I f st p;subst g j l;obtain⟨q,r,B,u,x,y⟩:=f a .m;have W:=Walks.range (prog:=X.prog) (w:=X.w) (I.ok.hd m) a lo 1 n;refine W.item i s _ _ p st λv h' tk hv d C=>?_;obtain⟨t,rfl⟩:=hv;have D:Inv X pins σ H .c_:=I.turned (λb o c e=>C b o .cC e) q r u x y;refine⟨_,rfl,KA (s:=.c_) (n:="range_iterator") d rfl rfl .O ⟨.int<|lo+i,H,D,⟨t,?_⟩,.cg,d,λb c=>(f b c).1⟩⟩;rw[Int.mul_one]
 done:=by
  intro X g j l m i pins s σ H E I f st p;subst g j l;obtain⟨q,r,B,u,x,y⟩:=f a .m;exact wpAny_pyNext_range_end (I.ok.hd m) st (by have:n<=i:=p;omega) λh' F=>⟨rfl,I.turned (t':=s.toks) (λb o c e=>F b o c e) q r u x y⟩
 self:=λ_ _ _ _ _ st h=>wpAny_pyIter_rangeiter st h
section
variable{X:Cx}{tg:Expr}
def aaq(K:ah)(tl:TE):TI:=λσ H R=>tl σ H λx H1=>∃a,x=.E/\(∃xs,bh K H1 a xs)/\R (TR K a) H1
def acm(K:ah)(tl:TE):TI:=λσ H R=>tl σ H λx H1=>∃a,x=.E/\(∃xs,gm K H1 a xs)/\R (ZW K a) H1
theorem cB{l:Expr}{tl:TE}(d:PE X l tl):PI X tg l (aaq X.K tl):=by
 intro pins s σ H R I h;refine eF .d_ λv s1 ⟨x,H1,c,f,g⟩=>?_;obtain⟨a,e,⟨xs,i⟩,q⟩:=g;subst e;cases f;obtain⟨its,k,p,m⟩:=c.list i;refine wpAny_pyIter_list p.isList ?_;refine⟨s1.heap.objs.size,[s1.heap.objs.size],_,_,H1,rfl,c.kept (t':=s1.toks) λb o e=>aY _ e,MY a _,.ez,λb j=>?_,q⟩;have e:b=s1.heap.objs.size:=by simpa using j
 subst e;exact c.Jr (aG _)<|c.hok.fresh<|aG _
theorem Dz{l:Expr}{tl:TE}(d:PE X l tl):PI X tg l (acm X.K tl):=by
 intro pins s σ H R I h;refine eF .d_ λv s1 ⟨x,H1,c,f,g⟩=>?_;obtain⟨a,e,⟨xs,i⟩,q⟩:=g;subst e;cases f;obtain⟨its,k,p,m⟩:=c.tuple i;refine wpAny_pyIter_tuple (show s1.heap.IsTuple a its.toArray from p) ?_;refine⟨s1.heap.objs.size,[s1.heap.objs.size],_,_,H1,rfl,c.kept (t':=s1.toks) λb o e=>aY _ e,Js a _,.ez,λb j=>?_,q⟩;have e:b=s1.heap.objs.size:=by simpa using j
 subst e;exact c.Jr (aG _)<|c.hok.fresh<|aG _
theorem Px{pins:.U}{σ:St}{H:Hp}{s:Shared}{R:It->.Z}{E:.ac}{lo hi:Int}{t u v:Tok}{tk:Nat}(I:.D)(h1:-(2 ^ 62)<=lo)(h2:lo<2 ^ 62)(c:-(2 ^ 62)<=hi)(d:hi<2 ^ 62)
  (q:R (XN lo (hi-lo).toNat) H):wpAny .af X.A (pyIter<|.ref s.heap.objs.size) (PIE X pins σ tg R) E { s with heap:=s.heap.push .eg,toks:=tk }:=by
 refine wpAny_pyIter_range (IsRange.new ..) (small_one h1 h2 c d) ?_;have a:Inv X pins σ H { s with heap:=s.heap.push .eg,toks:=tk }:=I.kept λb o e=>aY _ e;refine⟨(s.heap.push .eg).objs.size,[(s.heap.push .eg).objs.size],_,_,H,rfl,
  a.kept (t':=tk) λb o e=>aY _ e,Jt _ lo (hi-lo).toNat,?_,λb f=>?_,q⟩
 ·have g:lo+((0:Nat):Int)*1=lo:=.m
  have h:(((hi-lo).toNat:Nat):Int)-((0:Nat):Int)=Gm lo hi 1:=by rw[rangeSize_one];split<;>omega
  show IsRangeIter _ _ (lo+((0:Nat):Int)*1) ((((hi-lo).toNat:Nat):Int)-((0:Nat):Int)) 1;rw[g,h];exact cY _ rfl
 ·have e:b=(s.heap.push .eg).objs.size:=by simpa using f
  subst e;exact a.Jr (aG _)<|a.hok.fresh<|aG _
def aar(ta:TA):TI:=λσ H R=>ta σ H λvs H1=>∃j:Int,vs=[.int j]/\-(2 ^ 62)<=j/\j<2 ^ 62/\R (XN 0 j.toNat) H1
theorem wQ{a:Expr}{ta:TA}{p pos:Pos}(c:Gl X "range")(d:X.mg "range"=none)(f:PA X [a] ta)(hs:starEach [a] X.env=[(false,eval a X.env)]:=by rfl):PI X tg (.Call (.Name "range" p) [a] [] pos) (aar ta):=by
 intro pins s σ H R I h;refine Call_<|Ak I c d boot_range<|uU (eF (f pos pins s σ H _ I h) λus s1 ⟨vs,H1,g,i,b⟩=>?_) hs rfl;obtain⟨j,e,b,k,q⟩:=b;subst e;cases i with
 |cons r rr=>
  cases rr;obtain⟨t,rfl⟩:=r;exact call_range_1<|Px g .h .h b k<|by simpa using q
def acn(b:TI)(g:TG)(tb:TS):TS:=λD σ H=>b σ H λJ H1=>∃W:Nat->Nat->.a6,(∃m,W 0 m σ H1)/\∀i m σ H,W i m σ H->
 (J.stop i H/\D.nx σ H)\/(J.go i H/\∃N:.a6,(∀σ' H',N σ' H'->∃a,a<m/\W (i+1) a σ' H')/\∀x H',J.BB i H x H'->.eI)
def Ao(a:.B)(h:Heap):.U:=a.filterMap λb=>(h.get? b).map λo=>(b,o)
theorem tG{a:.B}{h:Heap}{b:Addr}{o:Obj}(c:b∈a)(e:.bK):(b,o)∈Ao a h:=yM.mpr ⟨b,c,by rw[e];rfl⟩
theorem MZ{a:.B}{h:Heap}{p:Addr×Obj}(hp:p∈Ao a h):p.1∈a/\h.get? p.1=some p.2:=by
 obtain⟨b,c,e⟩:=yM.mp hp;cases q:h.get? b with
 |none=>rw[q] at e;cases e
 |some o=>
  rw[q] at e;have d:(b,o)=p:=aI e;subst d;exact⟨c,q⟩
theorem Inv.pinned{pins:.U}{σ:St}{H:Hp}{s:Shared}{a:.B}(I:.D)(g:∀b∈a,xY X pins H b)(h:∀b∈a,∃o,.bx/\∀v,o.data≠.cell v):Inv X (pins++Ao a s.heap) σ H s:=
 I.Kx λp hp=>(bZ.mp hp).elim (λz=>I.pin p<|eP _ z) λz=>by
  obtain⟨c,e⟩:=MZ z;obtain⟨i,j,k,_⟩:=g p.1 c;obtain⟨o,f,d⟩:=h p.1 c;rw[e] at f;cases f;exact⟨e,i,j,k,d⟩
theorem Inv.vB{pins pl:.U}{σ:St}{H:Hp}{s:Shared}(I:Inv X (pins++pl) σ H s):.D:=I.Kx λp hp=>I.pin p<|eP _<|dF _ hp
theorem iO{a:Expr}{q:List Stmt}{P:TI}{g:TG}{tb:TS}{pos:Pos}(hp:PassesOwn .af X.A X.env X.xe)(Q:.ce)(hi:PI X tg a P)(hg:PG X tg g)(c:Dt X q tb)
  (hs:∀x,foldedSetIterable a X.env x=pure x:=by intro _;rfl):PS X (.For tg a q [] pos) (acn P g tb):=by
 intro pins s σ H D I h;refine wpAny_For (eF .eF λv s1 h1=>eF h1 λitv s2 h2=>?_) hs;obtain⟨it,z,R,J,H2,e,I2,T,G,S,W,⟨m0,w0⟩,turn⟩:=h2;subst e;have j:∀{H':Hp},(∀b∈z,H' b=none)->∀b∈z,xY X pins H' b:=λhn b c=>⟨hn b c,(S b c).2⟩;refine codeAny_forLoop_any (λn s'=>∃i σ' H',.dL/\R i s'.heap/\(∀b∈z,H' b=none)/\W i n σ' H') ?_ m0 ⟨0,σ,H2,I2,G,λb c=>(S b c).1,w0⟩;rintro n U ⟨i,σ3,F,V,B,C,w3⟩;rcases turn i n σ3 F w3 with⟨stop,qn⟩|⟨go,N,hN,step⟩
 ·refine wpAny_passesOwn hp<|eF (T.done X rfl rfl rfl Q i pins U σ3 F X.xe V (j C) B stop) λr s4 ⟨K,I4⟩=>?_;subst K;exact wpAny_execs_nil ⟨σ3,F,I4,qn⟩
 ·refine wpAny_passesOwn hp<|eF (T.item X rfl rfl rfl Q i pins U σ3 F X.xe V (j C) B go) λr s4 ⟨u,K,h4⟩=>?_;subst K;refine wpAny_passesOwn hp<|eF h4 λ_ Y ⟨x,Z,I5,r5,y5,y,L⟩=>?_;have M:=I5.pinned (j L)<|T.obj _ _ y;refine wpAny_passesOwn hp<|eF (hg _ Y σ3 Z x u _ M r5<|step x Z y5) λ_ s6 ⟨σ6,H6,I6,q6⟩=>?_;refine wpAny_passesOwn hp<|eF (c _ s6 σ6 H6 _ I6 q6) λf O t=>?_;have k:∀{σ7:St} {l:Hp},Inv X (pins++Ao z Y.heap) σ7 l O->N σ7 l->∃m,m<n/\∃i σ' H',Inv X pins σ' H' O/\R i O.heap/\(∀b∈z,H' b=none)/\W i m σ' H':=λ{σ7 l} p E=>by
   obtain⟨m',hm,w7⟩:=hN σ7 l E;refine⟨m',hm,i+1,σ7,l,p.vB,T.keep _ _ _ y λb c o e=>(p.pin (b,o)<|eP _<|eP _<|tG c e).1,λb c=>?_,w7⟩;obtain⟨o,e,d⟩:=T.obj _ _ y b c;exact(p.pin (b,o)<|eP _<|eP _<|tG c e).2.1
  cases f with
  |next=>obtain⟨σ7,l,p,E⟩:=t;exact k p E
  |cont=>obtain⟨σ7,l,p,E⟩:=t;exact k p E
  |brk=>obtain⟨σ7,l,p,t⟩:=t;exact⟨σ7,l,p.vB,t⟩
  |ret v=>obtain⟨x7,σ7,l,p,r7,t⟩:=t;exact⟨x7,σ7,l,p.vB,r7,t⟩
end
theorem iB{K:ah}{a:Addr}{xs:.r}{g:TG}{tb:TS}{D:Ends}{σ:St}{H:Hp}(b:Nat->.a6)(f:b 0 σ H)(h:∀i σ H,i<=xs.length->b i σ H->.b2)
  (hs:∀i x σ H,.ck->b i σ H->g x σ H .fC) (j:∀σ H,b xs.length σ H->D.nx σ H):
  ∃W:Nat->Nat->.a6,(∃m,W 0 m σ H)/\∀i m σ H,W i m σ H->
   ((TR K a).stop i H/\D.nx σ H)\/((TR K a).go i H/\∃N:.a6,(∀σ' H',N σ' H'->∃d,d<m/\W (i+1) d σ' H')/\∀x H',(TR K a).BB i H x H'->.eI):=by
 refine⟨λi m σ H=>m=xs.length-i/\i<=xs.length/\b i σ H,⟨xs.length,.m,bj _,f⟩,?_⟩;rintro i m σ H ⟨rfl,hi,p⟩;have q:=h i σ H hi p;by_cases c:i<xs.length
 ·refine .inr ⟨⟨xs,xs[i],q,by simp[c]⟩,b<|i+1,λσ' H' k=>⟨xs.length-(i+1),.h,rfl,c,k⟩,λx H' y=>?_⟩;obtain⟨e,y⟩:=y;subst e;exact hs i x σ _ (y xs q) p
 ·have e:i=xs.length:=.h
  subst e;exact .inl ⟨⟨xs,q,aG _⟩,j σ H p⟩
theorem TV{K:ah}{a:Addr}{xs:.r}{g:TG}{tb:TS}{D:Ends}{σ:St}{H:Hp}(b:Nat->.a6)(f:b 0 σ H)(h:∀i σ H,i<=xs.length->b i σ H->.cH)
  (hs:∀i x σ H,.ck->b i σ H->g x σ H .fC) (j:∀σ H,b xs.length σ H->D.nx σ H):
  ∃W:Nat->Nat->.a6,(∃m,W 0 m σ H)/\∀i m σ H,W i m σ H->
   ((ZW K a).stop i H/\D.nx σ H)\/((ZW K a).go i H/\∃N:.a6,(∀σ' H',N σ' H'->∃d,d<m/\W (i+1) d σ' H')/\∀x H',(ZW K a).BB i H x H'->.eI):=by
 refine⟨λi m σ H=>m=xs.length-i/\i<=xs.length/\b i σ H,⟨xs.length,.m,bj _,f⟩,?_⟩;rintro i m σ H ⟨rfl,hi,p⟩;have q:=h i σ H hi p;by_cases c:i<xs.length
 ·refine .inr ⟨⟨xs,xs[i],q,by simp[c]⟩,b<|i+1,λσ' H' k=>⟨xs.length-(i+1),.h,rfl,c,k⟩,λx H' y=>?_⟩;obtain⟨e,y⟩:=y;subst e;exact hs i x σ _ (y xs q) p
 ·have e:i=xs.length:=.h
  subst e;exact .inl ⟨⟨xs,q,aG _⟩,j σ H p⟩
theorem Cs{lo:Int}{n:Nat}{g:TG}{tb:TS}{D:Ends}{σ:St}{H:Hp}(a:Nat->.a6)(d:a 0 σ H)
  (hs:∀i σ H,i<n->a i σ H->g (.int<|lo+i) σ H λσ2 H2=>tb { D with nx:=a<|i+1,ct:=a<|i+1,bk:=D.nx } σ2 H2) (f:∀σ H,a n σ H->D.nx σ H):
  ∃W:Nat->Nat->.a6,(∃m,W 0 m σ H)/\∀i m σ H,W i m σ H->
   ((XN lo n).stop i H/\D.nx σ H)\/((XN lo n).go i H/\∃N:.a6,(∀σ' H',N σ' H'->∃c,c<m/\W (i+1) c σ' H')/\∀x H',(XN lo n).BB i H x H'->.eI):=by
 refine⟨λi m σ H=>m=n-i/\i<=n/\a i σ H,⟨n,.m,bj _,d⟩,?_⟩;rintro i m σ H ⟨rfl,hi,p⟩;by_cases b:i<n
 ·refine .inr ⟨b,a<|i+1,λσ' H' h=>⟨n-(i+1),.h,rfl,b,h⟩,λx H' y=>?_⟩;obtain⟨e,y⟩:=y;subst e y;exact hs i σ _ b p
 ·have e:i=n:=.h
  subst e;exact .inl ⟨aG _,f σ H p⟩
abbrev R2:=V->V->.aD
def xZ(X:Cx)(f:Value->Value->Sem Value)(r:R2):Prop:=
 ∀(pins:.U) (s:Shared) (σ:St) (H:Hp) (x y:V) (v u:Value) (Q:VK),.D->RelV x v->RelV y u->r x y H Q->
  wpAny .af X.A (f v u) .cb X.xe s
def UnR(X:Cx)(f:Value->Sem Value)(r:V->.aD):Prop:=
 ∀(pins:.U) (s:Shared) (σ:St) (H:Hp) (x:V) (v:Value) (Q:VK),.D->RelV x v->r x H Q->
  wpAny .af X.A (f v) .cb X.xe s
def o8(X:Cx)(f:Value)(r:.r->.aD):Prop:=
 ∀(pins:.U) (s:Shared) (σ:St) (H:Hp) (xs:.r) (us:.u) (Q:VK),.D->.b4->r xs H Q->
  wpAny .af X.A (call f us) .cb X.xe s
def ZX(r:R2)(ta tb:TE):TE:=λσ H Q=>ta σ H λx H1=>tb σ H1 λy H2=>r x y H2 Q
def tUn(r:V->.aD)(ta:TE):TE:=λσ H Q=>ta σ H λx H1=>r x H1 Q
def rI(C:Int->Int->Prop)(g:Int->Int->V):R2:=λx y H Q=>∃i j,x=.int i/\y=.int j/\C i j/\Q (g i j) H
def TY(g:Int->Int->V):R2:=λx y H Q=>∃i j,x=.int i/\y=.int j/\Q (g i j) H
def rU(g:Int->V):V->.aD:=λx H Q=>∃i,x=.int i/\Q (g i) H
section
variable{X:Cx}{a b c:Expr}{ta tb tc:TE}{pos:Pos}
theorem XO(d:PE X a ta)(e:PE X b tb){pins:.U}{s:Shared}{σ:St}{H:Hp}{R:V->V->.Z}(I:.D)
  (h:ta σ H λx H1=>tb σ H1 λy H2=>R x y H2) {Q:.ac} {f:Value->Value->Sem Value}
  (g:∀v u c x y H2,Inv X pins σ H2 c->RelV x v->RelV y u->R x y H2->wpAny .af X.A (f v u) Q X.xe c):
  wpAny .af X.A (eval a X.env) (λv s₁=>wpAny .af X.A (eval b X.env) (λu s₂=>wpAny .af X.A (f v u) Q X.xe s₂) X.xe s₁) X.xe s:=by
 refine eF .d_ λv s1 ⟨x,H1,i,j,k⟩=>?_;refine eF (e pins s1 σ H1 _ i k) λu c ⟨y,H2,l,m,n⟩=>?_;exact g v u c x y H2 l j m n
theorem dm{c:Operator}{r:R2}(d:xZ X (binaryOp c) r)(e:PE X a ta)(f:PE X b tb):PE X (.BinOp a c b pos) (ZX r ta tb):=by
 intro pins s σ H Q I h;exact wpAny_BinOp<|XO e f I h λv u g x y H2 i j k q=>d pins g σ H2 x y v u Q i j k q
theorem KB{b:UnaryOp}{r:V->.aD}(c:UnR X (unaryOp b) r)(d:PE X a ta):PE X (.UnaryOp b a pos) (tUn r ta):=by
 intro pins s σ H Q I h;exact UnaryOp_<|eF .d_ λv s1 ⟨x,H1,e,f,g⟩=>c pins s1 σ H1 x v Q e f g
theorem opI{f:Value->Value->Sem Value}{C:Int->Int->Prop}{g:Int->Int->Int}
  (a:∀(i j:Int) (t u:Tok) (s:Shared) (Q:.ac) (E:.ac),C i j->Q (.int (g i j) s.toks) .bE->wpAny .af X.A (f (.int i t)<|.int j u) Q E s):
  xZ X f (rI C λi j=>.int<|g i j):=by
 intro pins s σ H x y v u Q I b c h;obtain⟨i,j,rfl,rfl,d,q⟩:=h;obtain⟨t,rfl⟩:=b;obtain⟨t',rfl⟩:=c;exact a i j t t' s _ _ d ⟨.int<|g i j,H,I.tok _,.Y,q⟩
theorem XQ{f:Value->Value->Sem Value}{g:Int->Int->Int}
  (a:∀(i j:Int) (t u:Tok) (s:Shared) (Q:.ac) (E:.ac),Q (.int (g i j) s.toks) .bE->wpAny .af X.A (f (.int i t)<|.int j u) Q E s):
  xZ X f (TY λi j=>.int<|g i j):=by
 intro pins s σ H x y v u Q I b c h;obtain⟨i,j,rfl,rfl,q⟩:=h;obtain⟨t,rfl⟩:=b;obtain⟨t',rfl⟩:=c;exact a i j t t' s _ _ ⟨.int<|g i j,H,I.tok _,.Y,q⟩
theorem T3{f:Value->Value->Sem Value}{g:Int->Int->Bool}
  (a:∀(i j:Int) (t u:Tok) (s:Shared) (Q:.ac) (E:.ac),Q (.bool<|g i j) s->wpAny .af X.A (f (.int i t)<|.int j u) Q E s):
  xZ X f (TY λi j=>.bl<|g i j):=by
 intro pins s σ H x y v u Q I b c h;obtain⟨i,j,rfl,rfl,q⟩:=h;obtain⟨t,rfl⟩:=b;obtain⟨t',rfl⟩:=c;exact a i j t t' s _ _ ⟨.bl<|g i j,H,I,rfl,q⟩
def aco(i j:Int):Prop:=0<j/\j<1073741824
def T4(i j:Int):Prop:=(-(2 ^ 64)<i/\i<2 ^ 64)\/(-(2 ^ 64)<j/\j<2 ^ 64)
theorem T4.ok{i j:Int}(h:T4 i j):IntMulOk i j:=by
 rcases h with⟨h1,h2⟩|⟨h1,h2⟩
 ·exact .of_left<|intBits_le_64 h1 h2
 ·exact .of_right<|intBits_le_64 h1 h2
theorem mK:xZ X (binaryOp .Add) (TY λi j=>.int<|i+j):=XQ λ_ _ _ _ _ _ _ q=>add_int q
theorem pN:xZ X (binaryOp .Sub) (TY λi j=>.int<|i-j):=XQ λ_ _ _ _ _ _ _ q=>sub_int q
theorem jV:xZ X (binaryOp .Mult) (rI T4 λi j=>.int<|i*j):=opI λ_ _ _ _ _ _ _ a q=>mul_int q a.ok
theorem T6:xZ X (binaryOp .FloorDiv) (rI aco λi j=>.int<|i / j):=opI λi j _ _ _ _ _ a q=>by
 have h1:(0:Int)<j:=a.1;have h2:j<1073741824:=a.2;exact floordiv_int .h (by rw[Int.fdiv_eq_ediv_of_nonneg i<|by omega];exact q)<|.inl<|PyProof.noPylong_small<|by omega
theorem XS:xZ X (binaryOp .BitXor) (TY λi j=>.int<|zS i j):=XQ λ_ _ _ _ _ _ _ q=>xor_int q
theorem unI{f:Value->Sem Value}{g:Int->Int}
  (a:∀(i:Int) (t:Tok) (s:Shared) (Q:.ac) (E:.ac),Q (.int (g i) s.toks) .bE->wpAny .af X.A (f<|.int i t) Q E s):
  UnR X f (rU λi=>.int<|g i):=by
 intro pins s σ H x v Q I b h;obtain⟨i,rfl,q⟩:=h;obtain⟨t,rfl⟩:=b;exact a i t s _ _ ⟨.int<|g i,H,I.tok _,.Y,q⟩
theorem DA:UnR X (unaryOp .USub) (rU λi=>.int<|-i):=unI λ_ _ _ _ _ q=>neg_int q
def aas:V->V->Bool
 |.non,.non=>true|.non,.int _=>true|.int _,.non=>true|.non,.bl _=>true|.bl _,.non=>true|.non,.str _=>true|.str _,.non=>true
 |.int _,.int _=>true|.bl _,.bl _=>true|.str _,.str _=>true|.Hi _,.Hi _=>true
 |.int _,.str _=>true|.str _,.int _=>true|.bl _,.str _=>true|.str _,.bl _=>true
 |_,_=>false
def rEq:R2:=λx y H Q=>aas x y=true/\Q (.bl<|decide (x=y)) H
def rNe:R2:=λx y H Q=>aas x y=true/\Q (.bl<|!decide (x=y)) H
theorem KC{i j:Int}:decide (V.int i=V.int j)=(i == j):=by
 rw[mr];simp
theorem Pz{i j:Bool}:decide (V.bl i=V.bl j)=(i == j):=by
 rw[mr];simp
theorem KD{i j:Str}:decide (V.str i=V.str j)=(i == j):=by
 rw[mr];simp
theorem KE{i j:Array UInt8}:decide (V.Hi i=V.Hi j)=(i.toList == j.toList):=by
 rw[mr];cases i;cases j;simp
theorem du{pins:.U}{σ:St}{H:Hp}{s:Shared}{Q:VK}{k a:Bool}(I:.D)(q:Q (.bl k) H)(e:k=a):EP X pins σ Q (.bool a) s:=by
 subst e;exact⟨.bl k,H,I,rfl,q⟩
theorem fo:xZ X (compareOp .Eq) rEq:=by
 intro pins s σ H x y v u Q I b a h;obtain⟨hs,q⟩:=h;cases x with
 |non=>
  cases b;cases y with
  |non=>cases a;exact On<|du I q<|by simp
  |bl j=>cases a;exact Oo<|du I q<|by simp
  |int j=>obtain⟨t',rfl⟩:=a;exact Ow<|du I q<|by simp
  |str j=>obtain⟨t',rfl⟩:=a;exact Ox<|du I q<|by simp
  |_=>exact .cJ
 |bl i=>
  cases b;cases y with
  |non=>cases a;exact Oq<|du I q<|by simp
  |bl j=>cases a;exact eq_bool<|du I q Pz
  |str j=>obtain⟨t',rfl⟩:=a;exact OE<|du I q<|by simp
  |_=>exact .cJ
 |int i=>
  obtain⟨t,rfl⟩:=b;cases y with
  |non=>cases a;exact Oy<|du I q<|by simp
  |int j=>obtain⟨t',rfl⟩:=a;exact eq_int<|du I q KC
  |str j=>obtain⟨t',rfl⟩:=a;exact OJ<|du I q<|by simp
  |_=>exact .cJ
 |str i=>
  obtain⟨t,rfl⟩:=b;cases y with
  |non=>cases a;exact Oz<|du I q<|by simp
  |bl j=>cases a;exact OG<|du I q<|by simp
  |int j=>obtain⟨t',rfl⟩:=a;exact OL<|du I q<|by simp
  |str j=>obtain⟨t',rfl⟩:=a;exact eq_str<|du I q KD
  |_=>exact .cJ
 |Hi i=>
  obtain⟨t,rfl⟩:=b;cases y with
  |Hi j=>obtain⟨t',rfl⟩:=a;exact PySem.W.eq_bytes<|du I q KE
  |_=>exact .cJ
 |_=>cases y<;>exact .cJ
theorem Ap:xZ X (compareOp .NotEq) rNe:=by
 intro pins s σ H x y v u Q I b a h;obtain⟨hs,q⟩:=h;cases x with
 |non=>
  cases b;cases y with
  |non=>cases a;exact Ot<|du I q<|by simp
  |bl j=>cases a;exact Ou<|du I q<|by simp
  |int j=>obtain⟨t',rfl⟩:=a;exact OA<|du I q<|by simp
  |str j=>obtain⟨t',rfl⟩:=a;exact OB<|du I q<|by simp
  |_=>exact .cJ
 |bl i=>
  cases b;cases y with
  |non=>cases a;exact Ov<|du I q<|by simp
  |bl j=>cases a;exact ne_bool<|du I q<|congrArg not Pz
  |str j=>obtain⟨t',rfl⟩:=a;exact OH<|du I q<|by simp
  |_=>exact .cJ
 |int i=>
  obtain⟨t,rfl⟩:=b;cases y with
  |non=>cases a;exact OC<|du I q<|by simp
  |int j=>obtain⟨t',rfl⟩:=a;exact ne_int<|du I q<|congrArg not KC
  |str j=>obtain⟨t',rfl⟩:=a;exact OM<|du I q<|by simp
  |_=>exact .cJ
 |str i=>
  obtain⟨t,rfl⟩:=b;cases y with
  |non=>cases a;exact OD<|du I q<|by simp
  |bl j=>cases a;exact OI<|du I q<|by simp
  |int j=>obtain⟨t',rfl⟩:=a;exact ON<|du I q<|by simp
  |str j=>obtain⟨t',rfl⟩:=a;exact ne_str<|du I q<|congrArg not KD
  |_=>exact .cJ
 |Hi i=>
  obtain⟨t,rfl⟩:=b;cases y with
  |Hi j=>obtain⟨t',rfl⟩:=a;exact PySem.W.ne_bytes<|du I q<|congrArg not KE
  |_=>exact .cJ
 |_=>cases y<;>exact .cJ
theorem ny:xZ X (compareOp .Lt) (TY λi j=>.bl<|decide (i<j)):=T3 λ_ _ _ _ _ _ _ q=>lt_int q
theorem Ct:xZ X (compareOp .LtE) (TY λi j=>.bl<|decide (i<=j)):=T3 λ_ _ _ _ _ _ _ q=>le_int q
theorem Hn:xZ X (compareOp .Gt) (TY λi j=>.bl<|decide (j<i)):=T3 λ_ _ _ _ _ _ _ q=>gt_int q
theorem KF:xZ X (compareOp .GtE) (TY λi j=>.bl<|decide (j<=i)):=T3 λ_ _ _ _ _ _ _ q=>ge_int q
theorem a0(b:Expr){a:CmpOp}(h:a≠.In:=by decide)(h2:a≠.NotIn:=by decide):behindInMarks a b=false:=by
 have c:(a == Cf)=false:=by cases a<;>first|rfl|exact absurd rfl h
 have d:(a == Ce)=false:=by cases a<;>first|rfl|exact absurd rfl h2
 cases b<;>simp[behindInMarks,c,d]
theorem fj{c:CmpOp}{r:R2}(d:xZ X (compareOp c) r)(e:PE X a ta)(f:PE X b tb)(g:behindInMarks c b=false):PE X (.Compare a [c] [b] pos) (ZX r ta tb):=by
 intro pins s σ H Q I h;exact wpAny_Compare1 (XO e f I h λv u i x y H2 j k l q=>d pins i σ H2 x y v u Q j k l q) g
def aat(t:TE):TT:=λσ H Q=>t σ H λx H'=>∃k,x=.bl k/\Q k H'
theorem a9{d:CmpOp}{r:R2}(f:xZ X (compareOp d) r)(g:PE X a ta)(i:PE X b tb)(j:behindInMarks d b=false):PT X (.Compare a [d] [b] pos) (aat<|ZX r ta tb):=by
 intro pins s σ H Q I h;refine wpAny_isTrue_Compare1 (eF (g pins s σ H _ I h) λv s1 ⟨x,H1,l,m,n⟩=>eF (i pins s1 σ H1 _ l n) λu o ⟨y,H2,p,q,t⟩=>
  eF (f pins o σ H2 x y v u _ p m q t) λc D ⟨z,w,A,B,k,e,C⟩=>?_) j
 subst e;cases B;exact wpAny_truthy_bool ⟨w,A,C⟩
def XT(r b:R2)(ta tb tc:TE):TE:=λσ H Q=>ta σ H λx H1=>tb σ H1 λy H2=>r x y H2 λz a=>∃k,z=.bl k/\
 (if k=true then tc σ a λw' c=>b y w' c Q else Q (.bl false) a)
theorem Ho{g f:CmpOp}{r j:R2}(p:xZ X (compareOp g) r)(i:xZ X (compareOp f) j)(q:PE X a ta)(t:PE X b tb)(w:PE X c tc)
  (A:lastMarks [g,f] [b,c]=false:=by with_unfolding_all rfl):PE X (.Compare a [g,f] [b,c] pos) (XT r j ta tb tc):=by
 intro pins s σ H Q I h;refine Compare_chain (eF (q pins s σ H _ I h) λv s1 ⟨x,H1,B,C,D⟩=>chain_link (eF (t pins s1 σ H1 _ B D) λu E ⟨y,H2,F,l,G⟩=>
  eF (p pins E σ H2 x y v u _ F C l G) λd J ⟨z,m,n,K,k,e,o⟩=>?_)) A
 subst e;cases K;refine wpAny_truthy_bool ?_;cases k with
 |false=>exact ite_ff ⟨.bl false,m,n,rfl,o⟩
 |true=>exact ite_tt<|chain_last<|eF (w pins J σ m _ n o) λw' L ⟨M,N,O,P,R⟩=>i pins L σ N y M u w' Q O l P R
theorem tH:(sizeLine:Nat)<2 ^ 63:=by rw[sizeLine_eq];decide
theorem vals1{x:V}{us:.u}(r:Vals [x] us):∃u,us=[u]/\RelV x u:=by
 cases r with
 |cons r1 r2=>cases r2;exact⟨_,rfl,r1⟩
theorem vals2{x y:V}{us:.u}(r:Vals [x,y] us):∃u w',us=[u,w']/\RelV x u/\RelV y w':=by
 cases r with
 |cons r1 r2=>
  cases r2 with
  |cons r3 r4=>cases r4;exact⟨_,_,rfl,r1,r3⟩
theorem vC:o8 X (.builtin "abs") (λxs H Q=>∃i,xs=[.int i]/\Q (.int<|if i<0 then -i else i) H):=by
 intro pins s σ H xs us Q I r h;obtain⟨i,rfl,q⟩:=h;obtain⟨u,rfl,t,rfl⟩:=vals1 r;exact call_abs_int λu tk=>⟨.int<|if i<0 then -i else i,H,I.tok _,.Y,q⟩
theorem M0(b:.ce):o8 X (.builtin "max") (λxs H Q=>∃i j,xs=[.int i,.int j]/\Q (.int<|if j>i then j else i) H):=by
 intro pins s σ H xs us Q I r h;obtain⟨i,j,rfl,q⟩:=h;obtain⟨u,w',rfl,⟨t,rfl⟩,⟨t',rfl⟩⟩:=vals2 r;refine max_two_ints (I.ok.hd b) λh' tk k=>⟨_,H,I.kept k,?_,q⟩;by_cases a:j>i
 ·rw[if_pos a,if_pos a];exact .Y
 ·rw[if_neg a,if_neg a];exact .Y
theorem PB:o8 X (.builtin "ord") (λxs H Q=>∃x,xs=[.str x]/\x.length=1/\Q (.int (x.cps.getD 0 0:Nat)) H):=by
 intro pins s σ H xs us Q I r h;obtain⟨x,rfl,a,q⟩:=h;obtain⟨u,rfl,t,rfl⟩:=vals1 r;exact ord_of_one a ⟨.int _,H,I.tok _,.Y,q⟩
end
structure Ju(h:Heap)(x dx C:Addr)(mA:.aa):Prop where
 obj:h.get? x=some (kJ C dx)
 ns:h.Ns1 dx mA
 ne:dx≠x
theorem Cu{h:Heap}{dx:Addr}{mA:.aa}(n:h.Ns1 dx mA):∃od,h.get? dx=some od/\∀name,uD name od=some (mA name):=by
 obtain⟨o,es,j,c,d,hk,_,f⟩:=n;refine⟨o,c,λname=>?_⟩;have e:=f name;unfold nsFind findBy at e;rw[<-Array.find?_toList] at e;unfold uD;rw[d];dsimp only;split
 ·rename_i y q;rw[q] at e;exact congrArg some e
 ·rename_i q;rw[q] at e;have a:es.toList.any (·.refKey)=false:=by
   rw[List.any_eq_false];intro y g;obtain⟨z,t,b⟩:=hk y<|Array.mem_toList_iff.mp g;simp[Mz,b]
  have i:¬es.toList.any (·.refKey)=true:=by rw[a];exact cX
  rw[if_neg i];exact congrArg some e
theorem Ju.look{h:Heap}{x dx C:Addr}{mA:.aa}(I:Ju h x dx C mA):∃od,PySem.W.InstAt h x (kJ C dx) C (some od)/\∀name,uD name od=some (mA name):=
 let ⟨od,ho,hl⟩:=Cu I.ns
 ⟨od,⟨I.obj,rfl,rfl,ho⟩,hl⟩
section
variable{prog:Program}{w:World}{A:Around}{E:.ac}{s:Shared}{K:ah}{x dx C f:Addr}{mA:.aa}{name:Str}{v:Value}
theorem get_map{a:Bool}{Q:.ac}(X:K.In s.heap)(I:Ju s.heap x dx C mA)(c:qK K C name=true)(d:qI K C=true)
  (e:fD K .I name=.am) (hv:mA name=.av) (b:E9 v=true) (h:Q v .bE):
  wpAny .ad A (getAttr .aB name a) Q E s:=by
 obtain⟨od,J,f⟩:=I.look;exact PySem.W.get_value X J (yW c).1 (E6 d e rfl<|by rw[f,hv]) b h
theorem PD{pl:Sem Bool}{Q:Value× .u->.aT}(X:K.In s.heap)(I:Ju s.heap x dx C mA)(a:qK K C name=true)
  (b:fD K .I name=.c2) (ht:uE K .aG=true) (hv:mA name=none) (h:Q (.aG,[.aB]) s):
  wpAny .ad A (getMethod .aB name pl) Q E s:=by
 obtain⟨od,J,c⟩:=I.look;exact PySem.W.method_fn X J (yW a).1 (yW a).2 b (beq_iff_eq.mp ht) (by show(uD name od).map (·.isSome)=some false;rw[c,hv];rfl) h
theorem T7{ns:.L}{Q:Unit->.aT}(X:K.In s.heap)(I:Ju s.heap x dx C mA)
  (hs:fD K .I "__setattr__"=.el) (hp:yZ K C=true) (ht:y3 K C name=.am) (j:qI K C=true)
  (k:oF mA ns) (hsz:ns.length<=sizeLine)
  (h:∀h',Ju h' x dx C (λy=>if y=name then .av else mA y)->kK dx s.heap h'->Q () { s with heap:=h',toks:=s.toks+2 }):
  wpAny .ad A (setAttr .aB name v) Q E s:=by
 obtain⟨od,J,p⟩:=I.look;refine PySem.W.set_plain X J hs<|PySem.W.osa_open (s:=.bE) (r:=none) X J hp ht λb=>?_;obtain⟨cd,l,e⟩:=PySem.W.any_some j;have m:s.heap.get? x=some ⟨ .I,some dx,.plain,#[]⟩:=I.obj;refine wpAny_bind<|wpAny_pure<|wpAny_bind<|wpAny_bind<|wpAny_loadPart m<|wpAny_bind<|mC (s:=.bE) (PySem.W.looks_clsIn X l) ?_;rw[e];refine wpAny_pure (a:=some dx)<|wpAny_bind<|wpAny_pure<|wpAny_bind ?_;refine wpAny_nsSet1 (s:=.bE) I.ns λh' c d=>?_;obtain⟨q,n,o,f,g,i⟩:=c.count<|GK name v k;refine wpAny_bind (wpAny_lookBehind f (by rw[g];exact pastItsLine_dict<|bK i (by rw[bB];omega)) ?_);exact wpAny_pure<|h _ ⟨(d.2 _<|aF I.ne).trans I.obj,c,I.ne⟩ d
theorem PF{R:Result->.aT}{vs:.u}{a:List (Str×Value)}(X:K.In s.heap)(b:y4 K C=true)
  (hi:fD K .I "__init__"=.c2) (c:y9 K .aG=some (.type "function"))
  (h:codeAny .ad (A.under (.builtin "type.__call__" ⟨ .I::vs,a⟩)) (.call .aG ⟨.ref .aW::vs,a⟩) (PySem.W.InitBack .aW R)
   { s with heap:=(s.heap.push jH).push (kJ C s.heap.objs.size) }):
  codeAny .ad A (.call .I ⟨vs,a⟩) R s:=by
 obtain⟨e,g,d,t,os⟩:=s;exact PySem.W.make_core (PySem.W.makes_of X b) (PySem.W.looks_findIn X hi) (λself=>PySem.W.bind_fn X self c) .ar h
end
def eV(f:Str)(v:V):.az->.az
 |[]=>[(f,v)]
 |(g,x)::r=>if g=f then(g,v)::r else(g,x)::eV f v r
theorem rC(f g:Str)(v:V):∀fs:.az,(eV f v fs).lookup g=if g=f then .av else fs.lookup g
 |[]=>by
  show kI g [(f,v)]=_;by_cases h:g=f
  ·have a:(g == f)=true:=beq_iff_eq.mpr h;simp only[kI,a,if_pos h]
  ·have a:(g == f)=false:=beq_eq_false_iff_ne.mpr h;simp only[kI,a,if_neg h]
 |(k,x)::r=>by
  have b:=rC f g v r;rw[.fw]
  by_cases hk:k=f
  ·rw[if_pos hk];by_cases h:g=k
   ·have a:(g == k)=true:=beq_iff_eq.mpr h;simp only[kI,a,if_pos<|h.trans hk]
   ·have a:(g == k)=false:=beq_eq_false_iff_ne.mpr h;simp only[kI,a,if_neg (λe:g=f=>h<|e.trans hk.symm)]
  ·rw[if_neg hk];by_cases h:g=k
   ·have a:(g == k)=true:=beq_iff_eq.mpr h;simp only[kI,a,if_neg (λe:g=f=>hk<|h.symm.trans e)]
   ·have a:(g == k)=false:=beq_eq_false_iff_ne.mpr h;simp only[kI,a];exact b
theorem o9(f:Str)(v:V):∀fs:.az,f∈(eV f v fs).map (·.1)/\∀g,g∈fs.map (·.1)->g∈(eV f v fs).map (·.1)
 |[]=>⟨by simp[eV],λg h=>.b0⟩
 |(k,x)::r=>by
  obtain⟨a,b⟩:=o9 f v r;rw[.fw]
  by_cases hk:k=f
  ·rw[if_pos hk];subst hk;exact⟨ .m,λg h=>.dR⟩
  ·rw[if_neg hk];refine⟨?_,λg h=>?_⟩
   ·rw[bP];exact aV _ a
   ·rw[bP] at h ⊢;rcases aH.mp h with e|e
    ·exact aH.mpr<|.inl e
    ·exact aV _<|b g e
theorem xK(f:Str)(v:V):∀fs:.az,(eV f v fs).length<=fs.length+1
 |[]=>by simp[eV]
 |(k,x)::r=>by
  have a:=xK f v r;rw[.fw]
  by_cases hk:k=f
  ·rw[if_pos hk,bB,bB];omega
  ·rw[if_neg hk,bB,bB];omega
theorem lF.some_of{v:V}{o:.br}(r:lF .av o):∃u,o=.ai/\RelV v u:=by
 cases o with
 |none=>exact .eD
 |some u=>exact⟨u,rfl,r⟩
theorem lF.none_of{o:.br}(r:lF none o):o=none:=by
 cases o with
 |none=>rfl
 |some u=>exact .eD
theorem Cv{v:V}{u:Value}(r:RelV v u):E9 u=true:=by
 cases v with
 |non=>cases (show u=dC from r);rfl
 |bl b=>cases (show u=oB b from r);rfl
 |int i=>obtain⟨t,e⟩:=(show ∃t,u=oE i t from r);cases e;rfl
 |str x=>obtain⟨t,e⟩:=(show ∃t,u=uO x t from r);cases e;rfl
 |Hi b=>obtain⟨t,e⟩:=(show ∃t,u=FV b t from r);cases e;rfl
 |flt b=>obtain⟨t,e⟩:=(show ∃t,u=FW b t from r);cases e;rfl
 |ref a=>cases (show u=br a from r);rfl
 |ty n=>cases (show u=my n from r);rfl
section
variable{P:Program}{w:World}{H H':Hp}{h h':Heap}{a C dx:Addr}{fs fs':.az}
theorem DB(b:.b6)(e:H a=.ca):∃mA,Ju h a dx C mA/\.es/\oF mA (fs.map (·.1))/\fs.length<=1000/\H dx=some (.own a):=by
 obtain⟨d,z,ne,ob,mA,n,r,q⟩:=(show dM P w H h a (.ins C dx fs) from b a _ e);exact⟨mA,⟨ob,n,ne⟩,r,q,z,d⟩
end
structure x6(K:ah)(C:Addr):Prop where
 pg:qK K C oK=true
 hd:qI K C=true
 po:yZ K C=true
 sa:fD K .I "__setattr__"=.el
theorem x6.get{K:ah}{C:Addr}(c:x6 K C)(f:Str):qK K C f=true:=c.pg
def bM(K:ah)(C:Addr)(f:Str):Prop:=fD K .I f=.am
theorem bM.taker{K:ah}{C:Addr}{f:Str}(n:bM K C f):y3 K C f=.am:=by
 unfold y3;rw[show fD K .I f=.am from n];rfl
structure Con(K:ah)(C:Addr)(f:Str)(v:V)(u:Value):Prop where
 at_:fD K .I f=some .ai
 rel:RelV v u
 get:qJ K u "__get__"=.am
 cp:PySem.W.copiedNames.contains f=false
structure Meth(K:ah)(C:Addr)(m:Str)(f:Addr):Prop where
 at_:fD K .I m=.c2
 fn:uE K .aG=true
 kp:jI K .aG=true
section
variable{X:Cx}{pins:.U}{σ:St}{H:Hp}{s:Shared}{a C dx:Addr}{fs:.az}{f:Str}{v:V}{A:Around}{E:.ac}
theorem Aq{b:Bool}{Q:.ac}(I:.D)(e:H a=.ca)(c:x6 X.K C)(n:bM X.K C f)(l:fs.lookup f=.av)
  (h:∀u s',Inv X pins σ H s'->RelV v u->Q u s'):wpAny .af A (getAttr .E f b) Q E s:=by
 obtain⟨mA,O,r,_,_,_⟩:=DB I.hok e;obtain⟨u,g,d⟩:=lF.some_of (v:=v) (o:=mA f) (by rw[<-l];exact r f);exact get_map I.ug O (c.get f) c.hd n g (Cv d)<|h u _ (I.tok _) d
theorem As{m:Str}{g:Addr}{pl:Sem Bool}{Q:Value× .u->.aT}(I:.D)(e:H a=.ca)(c:x6 X.K C)(k:Meth X.K C m g)(l:fs.lookup m=none)
  (h:Q (.ref g,[.E]) s):wpAny .af A (getMethod .E m pl) Q E s:=by
 obtain⟨mA,O,r,_,_,_⟩:=DB I.hok e;have b:mA m=none:=lF.none_of (by rw[<-l];exact r m);exact PD I.ug O (c.get m) k.at_ k.fn b h
theorem Au{y:V}{u:Value}{Q:Unit->.aT}(I:.D)(e:H a=.ca)(c:x6 X.K C)(n:bM X.K C f)(B:fs.length<1000)(k:RelV y u)
  (h:∀s',Inv X pins σ (upd H a<|.ins C dx<|eV f y fs) s'->Q () s'):wpAny .af A (setAttr .E f u) Q E s:=by
 obtain⟨mA,O,r,i,_,j⟩:=DB I.hok e;have l:(fs.map (·.1)).length<=sizeLine:=.et
 refine T7 I.ug O c.sa c.po n.taker c.hd i l λh' d m=>h _ ?_;have p:∃o,h'.get? dx=.i:=let ⟨o,_,_,e',_⟩:=d.ns;⟨o,e'⟩;refine I.write (x:=a) (e:=dx) (by rw[e];exact jR) (.inr j) (λb q t z=>(m.2 b t).trans z) p ?_;refine⟨by rw[aq O.ne];exact j,?_,O.ne,d.obj,_,d.ns,λg=>?_,λg v=>?_⟩
 ·have:=xK f y fs;omega
 ·show lF ((eV f y fs).lookup g) (if g=f then .ai else mA g)
  rw[rC];by_cases q:g=f
  ·rw[if_pos q,if_pos q];exact k
  ·rw[if_neg q,if_neg q];exact r g
 ·by_cases q:g=f
  ·rw[q];exact(o9 f y fs).1
  ·refine(o9 f y fs).2 g<|i g λz=>v ?_;show(if g=f then .ai else mA g)=none
   rw[if_neg q];exact z
theorem Inv.made(I:.D):Inv X pins σ (upd (upd H s.heap.objs.size<|.own<|s.heap.objs.size+1) .aW<|.ins C s.heap.objs.size [])
  { s with heap:=(s.heap.push jH).push (kJ C s.heap.objs.size) }:=by
 have c:(s.heap.push jH).get? s.heap.objs.size=some jH:=cY s.heap rfl;have d:((s.heap.push jH).push<|kJ C s.heap.objs.size).get? .aW=some (kJ C s.heap.objs.size):=by
  have:=cY (s.heap.push jH) (o:=kJ C s.heap.objs.size) rfl;rwa[dB] at this
 have f:(s.heap.push jH).Ns s.heap.objs.size (λ_=>none):=⟨jH,#[],_,c,rfl,(λe g=>absurd g<|by simp),λ_=>rfl⟩;have h:=I.laid (a:=s.heap.objs.size) (o:=.own<|s.heap.objs.size+1) (h':=s.heap.push jH) (t':=s.toks) (λb u q=>aY _ q) (aG _) ⟨_,c⟩;refine h.laid (a:=.aW) (o:=.ins C s.heap.objs.size []) (t':=s.toks) (λb u q=>aY _ q) (jJ<|dB _ _) ?_;have ne:s.heap.objs.size≠ .aW:=cy<|l7 _;refine⟨by rw[aq ne,ai],bj _,ne,d,λ_=>none,(Gz f).at λo q=>aY _ q,λ_=>jR,λy i=>absurd rfl i⟩
theorem KG{prog:Program}{w:World}{env:Env}{e:Expr}{f:Str}{pos:Pos}{s:Shared}{Q:.ac}(a:attributeBase e f env (eval e env)=eval e env)
  (h:wpAny .ad A (eval e env) (λo s₁=>wpAny .ad A (getAttr o f true) Q E s₁) E s):wpAny .ad A (eval (.Attribute e f pos) env) Q E s:=
 Attribute_any_ h (by rw[arm_eval_Attribute,a])
end
def aau(K:ah)(ta:TE)(f:Str):TE:=λσ H Q=>ta σ H λx H1=>∃a C dx fs v,x=.E/\H1 a=.ca/\x6 K C/\bM K C f/\fs.lookup f=.av/\Q v H1
def acp(K:ah)(ta tv:TE)(f:Str):TS:=λD σ H=>tv σ H λy H1=>ta σ H1 λx H2=>∃a C dx fs,x=.E/\H2 a=.ca/\x6 K C/\bM K C f/\fs.length<1000/\
 D.nx σ (upd H2 a<|.ins C dx<|eV f y fs)
def aav(X:Cx)(a:Operator)(b:V->V->.aD):Prop:=
 ∀(pins:.U) (s:Shared) (σ:St) (H:Hp) (x y:V) (u v:Value) (Q:VK),.D->RelV x u->RelV y v->b x y H Q->wpAny .af X.A (inplaceOp a u v) .cb X.xe s
def T8(K:ah)(ta tv:TE)(d:V->V->.aD)(f:Str):TS:=λD σ H=>ta σ H λx H1=>∃a C dx fs v,x=.E/\H1 a=.ca/\x6 K C/\bM K C f/\fs.lookup f=.av/\
 tv σ H1 λy H2=>d v y H2 λz b=>∃c fs',b a=some (.ins C c fs')/\fs'.length<1000/\D.nx σ (upd b a<|.ins C c<|eV f z fs')
section
variable{X:Cx}{o e value:Expr}{f:Str}{pos pos' tpos:Pos}{ta tv:TE}
theorem aw(b:PE X e ta)(d:attributeBase e f X.env .bA=.bA):PE X (.Attribute e f pos) (aau X.K ta f):=by
 intro pins s σ H Q I h;refine KG d<|eF (b pins s σ H _ I h) λu s1 ⟨x,H1,g,i,a,C,dx,fs,v,ex,j,c,n,l,q⟩=>?_;subst ex;obtain rfl:u=br a:=i;exact Aq g j c n l λo p k m=>⟨v,H1,k,m,q⟩
theorem cO(b:PE X o ta)(hv:PE X value tv)(hs:swapsWith value (some<|.Attribute o f pos') pos.line X.env=pure false):PS X (.Assign [.Attribute o f pos'] value pos) (acp X.K ta tv f):=by
 intro pins s σ H D I h;refine plainObj_wpAny_Assign_Attribute (eF (hv pins s σ H _ I h) λu s1 ⟨y,H1,d,e,q⟩=>eF (b pins s1 σ H1 _ d q) λg r ⟨x,H2,i,j,a,C,dx,fs,ex,k,c,n,l,m⟩=>?_) hs;subst ex;obtain rfl:g=br a:=j;exact Au i k c n l e λt p=>⟨σ,_,p,m⟩
theorem wR{e:Operator}{g:V->V->.aD}(i:PE X o ta)(hv:PE X value tv)(b:aav X e g):PS X (.AugAssign (.Attribute o f tpos) e value pos) (T8 X.K ta tv g f):=by
 intro pins s σ H D I h;refine wpAny_AugAssign_AttributeAny<|eF (i pins s σ H _ I h) λj s1 ⟨x,H1,k,m,a,C,dx,fs,v,ex,p,c,n,l,q⟩=>?_;subst ex;obtain rfl:j=br a:=m;refine Aq k p c n l λu r t w=>eF (hv pins r σ H1 _ t q) λA B ⟨y,H2,E,F,G⟩=>eF (b pins B σ H2 v y u A _ E w F G) λP Q ⟨z,R,J,L,S,fs',d,M,N⟩=>?_;exact Au J d c n M L λT O=>⟨σ,_,O,N⟩
def acq:V->V->.aD:=λx y H Q=>∃i j,x=.int i/\y=.int j/\Q (.int<|i+j) H
theorem Jv:aav X .Add acq:=by
 rintro pins s σ H x y u v Q I a b ⟨i,j,rfl,rfl,q⟩;obtain⟨t,rfl⟩:=(show ∃t,u=oE i t from a);obtain⟨t',rfl⟩:=(show ∃t',v=oE j t' from b);exact Oe ⟨.int<|i+j,H,I.tok _,.Y,q⟩
end
section
variable{X:Cx}{pins:.U}{σ:St}{H:Hp}{s:Shared}{A:Around}{E:.ac}{Q:.ac}{c:Value}{b:Bool}
inductive Av(K:ah)(H:Hp):V->Value->Prop where
 |non:Av K H .non (.type "NoneType")
 |bl (x:Bool):Av K H (.bl x) (.type "bool")
 |int (i:Int):Av K H (.int i) (.type "int")
 |str (x:Str):Av K H (.str x) (.type "str")
 |flt (x:UInt64):Av K H (.flt x) (.type "float")
 |lst {a:Addr} {xs:.r} (e:H a=.aZ):Av K H .E .bB
 |BA {a:Addr} {o:Obj} {xs:.r} (e:H a=some (.BA o<|.lst xs)):Av K H .E .bB
 |tup {a:Addr} {xs:.r} (e:H a=some (.tup xs)):Av K H .E .bz
 |dK {a:Addr} {kvs:.an} (e:H a=.bg):Av K H .E (.type "dict")
 |dT {a:Addr} {kvs:.cP} (e:H a=some (.dT kvs)):Av K H .E (.type "dict")
 |ins {a C dx:Addr} {fs:.az} (e:H a=.ca) (cl:x6 K C) (ha:fD K .I "__class__"=some (some<|.builtin "object.__class__"))
   (hn:qJ K (.builtin "object.__class__") "__get__"=some (some<|.builtin "getset_descriptor.__get__")) (htk:PySem.W.takesIn K (.builtin "object.__class__")=.a9)
   (hm:PySem.W.mroIn K C (.type "object")=.a9):Av K H .E .I
end
structure fK(k:Nat)(A:Around):Prop where
 hd:.c5
 dp:A.depth+3*k+5<recursionLimit
 un:A.units+16*k+200<cLine
theorem fK.mono{j k:Nat}{A:Around}(r:fK k A)(h:j<=k):fK j A:=⟨r.hd,by have:=r.dp;omega,by have:=r.un;omega⟩
theorem fK.deeper{k:Nat}{A:Around}(r:fK (k+1) A)(env:Env):fK k (A.deeper env):=
 ⟨r.hd,by have:=r.dp;show A.depth+1+3*k+5<_;omega,by have:=r.un;show A.units+3+16*k+200<_;omega⟩
theorem fK.in1{k:Nat}{A:Around}(r:fK (k+1) A):fK k A.in1:=
 ⟨r.hd,by have:=r.dp;show A.depth+3*k+5<_;omega,by have:=r.un;show A.units+1+16*k+200<_;omega⟩
theorem Jw{A:Around}{C:Addr}{us:.u}{a:List (Str×Value)}:(.e1).depth=A.depth+1:=by
 first|rfl|simp[zT,Code.weight,Code.isCreation,Code.isGuard,Code.isCaller,Cc,zW,guardIds]
theorem Jx{A:Around}{C:Addr}{us:.u}{a:List (Str×Value)}:(.e1).units=A.units+1:=by
 first|rfl|simp[zT,Code.cUnits,Cc,zW]
theorem fK.make{k:Nat}{A:Around}(r:fK (k+1) A)(C:Addr)(us:.u)(a:List (Str×Value)):fK k .e1:=
 ⟨r.hd,by have:=r.dp;rw[Jw];omega,by have:=r.un;rw[Jx];omega⟩
theorem fK.depth{k:Nat}{A:Around}(r:fK k A):A.depth<recursionLimit:=by have:=r.dp;omega
theorem fK.units{k:Nat}{A:Around}(r:fK k A):A.units+64<cLine:=by have:=r.un;omega
def Hq:TA:=λ_ H Q=>Q [] H
def Wq(ta:TE)(a:TA):TA:=λσ H Q=>ta σ H λx H1=>a σ H1 λxs H2=>Q (x::xs) H2
section
variable{X:Cx}{e:Expr}{es:.aU}{te:TE}{t:TA}{pos:Pos}
theorem ak:PA X [] Hq:=λ_ _ _ _ H Q I h=>Gi ⟨[],H,I,.nil,h⟩
theorem ae(a:PE X e te)(b:PA X es t)(hs:.cm:=by rfl):PA X (e::es) (Wq te t):=by
 intro pos pins s σ H Q I h;rw[hs];show wpAny _ _ (spliced ((false,.bA)::backTo pos (starEach es X.env))) _ _ s;refine Gh<|eF (a pins s σ H _ I h) λu s1 ⟨x,H1,c,d,f⟩=>?_;exact eF (b pos pins s1 σ H1 _ c f) λus k ⟨xs,H2,g,i,j⟩=>⟨x::xs,H2,g,.cons d i,j⟩
def acr(t:TA):TE:=λσ H Q=>t σ H λxs H1=>.dx/\∀p,H1 p=none->Q .aO (upd H1 p<|.tup xs)
def acs(t:TA):TE:=λσ H Q=>t σ H λxs H1=>.dx/\∀p,H1 p=none->Q .aO (upd H1 p<|.lst xs)
theorem kq{x1}(h:PA X es t):PE X (.Tuple es x1 pos) (acr t):=by
 intro pins s σ H Q I c;refine wpAny_Tuple_spliced (eF (h pos pins s σ H _ I c) λus s1 ⟨xs,H1,a,r,z,q⟩=>⟨by rw[<-r.length];exact z,?_⟩);have d:H1 s1.heap.objs.size=none:=a.hok.fresh<|aG _;refine⟨.ref s1.heap.objs.size,upd H1 s1.heap.objs.size<|.tup xs,a.laid (t':=s1.toks) (λb u e=>aY _ e) (aG _) ?_,rfl,q _ d⟩;exact⟨z,us,r,⟨_,cY _ rfl,rfl,_,rfl⟩⟩
theorem eW(h:PA X es t):PE X (.List es pos) (acs t):=by
 intro pins s σ H Q I c;refine wpAny_List_spliced (eF (h pos pins s σ H _ I c) λus s1 ⟨xs,H1,a,r,z,q⟩=>⟨by rw[<-r.length];exact z,?_⟩);have d:H1 s1.heap.objs.size=none:=a.hok.fresh<|aG _;refine⟨.ref s1.heap.objs.size,upd H1 s1.heap.objs.size<|.lst xs,a.laid (t':=s1.toks) (λb u e=>aY _ e) (aG _) ?_,rfl,q _ d⟩;exact⟨z,us,0,r,cY _ rfl⟩
end
abbrev Sp:=.r->Hp->VK->XK->Prop
abbrev BD:=.a0->Hp->Shared->XK->.ac
structure BH(P:Program)(w:World)(K:ah)(mg:.aa)(base:Heap)(A:Around)(outer:.a0)(s:Shared)(H:Hp):Prop where
 frames:A.frames=some outer
 mod:Mod K mg base
 bs:∀b o,base.get? b=.i->.bx/\.aR
 Kw:base.objs.size<=s.heap.objs.size
 qu:s.heap.FunFrames base outer
 Pj:∀b∈frs outer,.aR
 hok:o6 P w H s.heap
 bare:AllBare s.gens
def CE(outer:.a0)(P:Program)(w:World)(H:Hp)(s:Shared)(Q:VK)(u:Value)(s':Shared):Prop:=
 ∃v H',s'.os=s.os/\AllBare s'.gens/\Un (frs outer) [] H H' s.heap s'.heap/\o6 P w H' s'.heap/\RelV v u/\Q v H'
def CR(CX:BD)(outer:.a0)(P:Program)(w:World)(H:Hp)(s:Shared)(Q:VK)(E:XK)(r:Result)(s':Shared):Prop:=
 match r with
 |.ok (.ret u)=>CE outer P w H s Q u s'
 |.ok _=>False
 |.error e=>CX outer H s E e s'
structure aX(P:Program)(w:World)(K:ah)(mg:.aa)(base:Heap)(CX:BD)(k:Nat)(f:Addr)(fd:FuncData)(ps:.L)(sp:Sp):Prop where
 len:.ej
 run:∀(A:Around) (outer:.a0) (s:Shared) (H:Hp) (args:Args) (us:.u) (vs:.r) (Q:VK) (E:XK),fK k A->BH P w K mg base A outer s H->BindsTo s fd args (ps.zip us)->Vals vs us->sp vs H Q E->
  codeAny (model P w) A (.call .aG args) (CR CX outer P w H s Q E) s
theorem aX.mono{P:Program}{w:World}{K:ah}{mg:.aa}{base:Heap}{CX:BD}{j k:Nat}{f:Addr}{fd:FuncData}{ps:.L}{sp:Sp}(F:aX P w K mg base CX j f fd ps sp)(h:j<=k):
  .eo:=⟨F.len,λA outer s H args us vs Q E a=>F.run A outer s H args us vs Q E<|a.mono h⟩
theorem aX.imp{P:Program}{w:World}{K:ah}{mg:.aa}{base:Heap}{CX:BD}{k:Nat}{f:Addr}{fd:FuncData}{ps:.L}{sp a:Sp}(F:.eo)
  (h:∀vs H Q E,a vs H Q E->sp vs H Q E):aX P w K mg base CX k f fd ps a:=
 ⟨λvs H Q E q=>F.len vs H Q E<|h _ _ _ _ q,λA outer s H args us vs Q E b c d hv hs=>F.run A outer s H args us vs Q E b c d hv<|h _ _ _ _ hs⟩
theorem BH.make{P:Program}{w:World}{K:ah}{mg:.aa}{base:Heap}{A:Around}{outer:.a0}{s:Shared}{H:Hp}(e:BH P w K mg base A outer s H)(C:Addr)(us:.u)(a:List (Str×Value)):
  BH P w K mg base .e1 outer s H:=⟨by first|exact e.frames|(simpa[zT,Code.envs,zW,pushEnvs] using e.frames),e.mod,e.bs,e.Kw,e.qu,e.Pj,e.hok,e.bare⟩
theorem BH.in1{P:Program}{w:World}{K:ah}{mg:.aa}{base:Heap}{A:Around}{outer:.a0}{s:Shared}{H:Hp}(e:BH P w K mg base A outer s H):
  BH P w K mg base A.in1 outer s H:=⟨e.frames,e.mod,e.bs,e.Kw,e.qu,e.Pj,e.hok,e.bare⟩
section
variable{X:Cx}{pins:.U}{σ:St}{H:Hp}{s s':Shared}
theorem Inv.env0(I:.D):BH X.prog X.w X.K X.mg X.base X.A X.stack s H:=
 ⟨I.ok.frames,I.ok.mod,I.bs,bK I.ok.Kw I.sz,I.stack,I.ym,I.hok,I.bare⟩
theorem Inv.after{Q:VK}{u:Value}(I:.D)(h:CE X.stack X.prog X.w H s Q u s'):EP X pins σ Q u s':=by
 obtain⟨v,H',os,bare,un,a,r,q⟩:=h;obtain⟨e,g,d,t,c⟩:=s';obtain rfl:c=s.os:=os;exact⟨v,H',I.call (h':=e) (g':=g) (d':=d) (t':=t) (ch:=[]) un a bare λb z=>absurd z<|by simp,r,q⟩
end
def KI(sp:Sp)(Aw:.r)(E:XK)(t:TA):TE:=λσ H Q=>t σ H λvs H1=>sp (vs++Aw) H1 Q E
def Cw(C:Addr)(m:Str)(sp:Sp)(Aw:.r)(E:XK)(ta:TE)(t:TA):TE:=λσ H Q=>ta σ H λx H1=>∃a dx fs,x=.E/\H1 a=.ca/\fs.lookup m=none/\
 t σ H1 λvs H2=>sp (x::(vs++Aw)) H2 Q E
def KJ(C:Addr)(sp:Sp)(Aw:.r)(E:XK)(t:TA):TE:=λσ H Q=>t σ H λvs H1=>∀x dx,H1 x=none->H1 dx=none->dx≠x->
 sp (.aB::(vs++Aw)) (upd (upd H1 dx<|.own x) x<|.ins C dx []) (λv H2=>v=.non/\Q .aB H2) E
def Binds(K:ah)(fd:FuncData)(ps:.L)(ds:.u):Prop:=
 ∀(s:Shared) (us:.u),K.In s.heap->(us++ds).length=ps.length->BindsTo s fd ⟨us,[]⟩ (ps.zip<|us++ds)
theorem Binds.all{K:ah}{fd:FuncData}{ps:.L}(h:∀us:.u,us.length=ps.length->bindArgs fd ⟨us,[]⟩=pure (ps.zip us)):Binds K fd ps []:=λs us _ a=>by
 rw[dR] at a ⊢;exact .of_eq<|h us a
def fM(CX:BD)(X:Cx)(E:XK):Prop:=∀(pins:.U) (σ:St) (H:Hp) (s:Shared) (e:Value) (s':Shared),.D->CX X.stack H s E e s'->X.xe e s'
section
variable{X:Cx}{CX:BD}{k:Nat}{f C:Addr}{fd:FuncData}{ps:.L}{sp:Sp}{Aw:.r}{ds:.u}{E:XK}{x m:Str}{p pos apos:Pos}{e o:Expr}{es:.aU}{ta:TE}{t:TA}
theorem DE{pins:.U}{σ:St}{H:Hp}{s:Shared}{Q:VK}{us:.u}{vs:.r}(F:.c9)(c:fK k X.A)(d:Binds X.K fd ps ds)(g:Vals Aw ds)(i:fM CX X E)
  (I:.D) (r:Vals vs us) (h:sp (vs++Aw) H Q E):wpAny .af X.A (call .aG us) .cb X.xe s:=by
 have b:Vals (vs++Aw) (us++ds):=r.append g;have j:(us++ds).length=ps.length:=by rw[<-b.length];exact F.len _ _ _ _ h
 refine wpAny_call<|codeAny_mono (F.run X.A X.stack s H ⟨us,[]⟩ (us++ds) (vs++Aw) Q E c I.env0 (d s us I.ug j) b h) λr s' a=>?_;cases r with
 |error e=>exact i pins σ H s e s' I a
 |ok fl=>
  cases fl with
  |ret u=>exact I.after a
  |next=>exact de a
  |brk=>exact de a
  |cont=>exact de a
theorem vD(F:.c9)(d:fK k X.A)(g:Gl X x)(i:X.mg x=some .aG)(hk:jI X.K .aG=true)(j:Binds X.K fd ps ds)(l:Vals Aw ds)(m:fM CX X E)
  (n:.cD) (a:.bc:=by decide) (o:.cm:=by rfl) (b:(.cK).any (·.1)=false:=by rfl):
  PE X .dF (KI sp Aw E t):=by
 intro pins s σ H Q I h;refine wpAny_Call_Name_kw<|nh I g i ?_ a;refine qH (h₀:=X.base) I.ok.mod.XC hk (eF (n pos pins s σ H _ I h) λus s1 ⟨vs,H1,c,r,q⟩=>⟨c.ug,?_⟩) o b;exact DE F d j l m c r q
theorem T9{pl:Sem Bool}(n:PE X o ta)(c:x6 X.K C)(g:Meth X.K C m f)(F:.c9)(p:fK k X.A)(v:Binds X.K fd ps ds)(y:Vals Aw ds)(z:fM CX X E)(B:.cD)
  (b:.cm:=by rfl) (d:(.cK).any (·.1)=false:=by rfl)
  (ht:eval .ei X.env=(do
   let ov <-eval o X.env
   .ed
   let (f,first) <-holding [ov] (getMethod ov m pl)
   callWith pos f first (backTo pos .ey) .d1):=by rfl):
  PE X .ei (Cw C m sp Aw E ta t):=by
 intro pins s σ H Q I h;refine yU (pl:=pl) (eF (n pins s σ H _ I h) λu s1 ⟨x,H1,i,D,a,dx,fs,ex,G,l,q⟩=>?_) ht;subst ex;obtain rfl:u=br a:=D;refine As i G c g l ?_;refine qH (first:=[.E]) (h₀:=X.base) I.ok.mod.XC g.kp (eF (B pos pins s1 σ H1 _ i q) λus L ⟨vs,H2,j,r,J⟩=>⟨j.ug,?_⟩) b d
 exact DE (us:=.E::us) (vs:=.E::vs) F p v y z j (.cons rfl r) J
theorem PJ{pl:Sem Bool}(e:PE X o ta)(c:x6 X.K C)(d:Meth X.K C m f)(F:.c9)(g:fK k X.A)(i:Binds X.K fd ps ds)(j:Vals Aw ds)(n:fM CX X E)
  (ht:eval .em X.env=(do
   let ov <-eval o X.env
   .ed
   let (f,first) <-holding [ov] (getMethod ov m pl)
   callWith pos f first (backTo pos (starEach [] X.env)) .d1):=by rfl):
  PE X .em (Cw C m sp Aw E ta Hq):=by
 intro pins s σ H Q I h;refine yU (pl:=pl) (eF (e pins s σ H _ I h) λu s1 ⟨x,H1,b,p,a,dx,fs,ex,r,l,q⟩=>?_) ht;subst ex;obtain rfl:u=br a:=p;refine As b r c d l ?_;exact yX (first:=[.E]) b.ug d.kp<|DE (us:=[.E]) (vs:=[.E]) F g i j n b (.cons rfl .nil) q
structure Mk(K:ah)(C f:Addr):Prop where
 makes:y4 K C=true
 init:fD K .I "__init__"=.c2
 fn:uE K .aG=true
 kp:jI K .I=true
theorem Hr{pins:List (Addr×Obj)}{σ:St}{H:Hp}{s:Shared}{Q:VK}{us:List Value}{vs:List V}(M:Mk X.K C f)(F:aX X.prog X.w X.K X.mg X.base CX k f fd ps sp)(hr:fK (k+1) X.A)(hb:Binds X.K fd ps ds)(hd:Vals Aw ds)
  (hx:fM CX X E) (I:Inv X pins σ H s) (r:Vals vs us)
  (h:∀x dx,H x=none->H dx=none->dx≠x->sp (.ref x::(vs++Aw)) (upd (upd H dx (.own x)) x (.ins C dx [])) (λv H2=>v=.non/\Q (.ref x) H2) E):
  wpAny (model X.prog X.w) X.A (call (.ref C) us) (EP X pins σ Q) X.xe s:=by
 have hq:=h (s.heap.objs.size+1) s.heap.objs.size (I.hok.fresh (B0 _)) (I.hok.fresh (aG _)) (cy (l7 _));have I2:=Inv.made (C:=C) I;have r2:Vals (V.ref (s.heap.objs.size+1)::(vs++Aw)) (br (s.heap.objs.size+1)::(us++ds)):=.cons rfl (r.append hd);have hl:(br (s.heap.objs.size+1)::us++ds).length=ps.length:=by
  have e:=r2.length;rw[F.len _ _ _ _ hq] at e;exact e.symm
 refine wpAny_call (PF (f:=f) I.ug M.makes M.init (beq_iff_eq.mp M.fn) (codeAny_mono (F.run _ X.stack _ _ ⟨br (s.heap.objs.size+1)::us,[]⟩ (br (s.heap.objs.size+1)::(us++ds)) _ _ E (hr.make C us [])
  (I2.env0.make C us []) (hb _ (br (s.heap.objs.size+1)::us) I2.ug hl) r2 hq) λr s' hq'=>?_))
 cases r with
 |error e=>exact hx pins σ _ _ e s' I2 hq'
 |ok fl=>
  cases fl with
  |ret u=>
   obtain⟨v,H',I3,rv,ev,q3⟩:=I2.after hq';subst ev;exact⟨rv,⟨V.ref (s.heap.objs.size+1),H',I3,rfl,q3⟩⟩
  |next=>exact de hq'
  |brk=>exact de hq'
  |cont=>exact de hq'
theorem Ua(M:Mk X.K C f)(F:.c9)(d:fK (k+1) X.A)(g:Gl X x)(i:X.mg x=some .I)(j:Binds X.K fd ps ds)(l:Vals Aw ds)(m:fM CX X E)
  (n:.cD) (a:.bc:=by decide) (o:.cm:=by rfl) (b:(.cK).any (·.1)=false:=by rfl):
  PE X .dF (KJ C sp Aw E t):=by
 intro pins s σ H Q I h;refine wpAny_Call_Name_kw<|nh I g i ?_ a;refine qH (h₀:=X.base) I.ok.mod.XC M.kp (eF (n pos pins s σ H _ I h) λus s1 ⟨vs,H1,c,r,q⟩=>⟨c.ug,?_⟩) o b;exact Hr M F d j l m c r q
theorem PK(M:Mk X.K C f)(F:.c9)(b:fK (k+1) X.A)(c:Gl X x)(d:X.mg x=some .I)(e:Binds X.K fd ps ds)(g:Vals Aw ds)(i:fM CX X E)
  (a:.bc:=by decide):PE X (.Call (.Name x p) [] [] pos) (KJ C sp Aw E Hq):=by
 intro pins s σ H Q I h;refine wpAny_Call_Name_kw<|nh I c d ?_ a;exact yX I.ug M.kp<|Hr (us:=[]) M F b e g i I .nil h
end
section
variable{X:Cx}{CX:BD}{k:Nat}{f C:Addr}{fd:FuncData}{ps ks:.L}{sp:Sp}{E:XK}{x m:Str}{p pos apos kpos:Pos}{e o:Expr}{es:.aU}{kws:List Keyword}{te ta:TE}{t tk:TA}{nm:Option Str}
structure acu(K:ah)(fd:FuncData)(ps ks:.L)(g:.u->.u->.u)(gV:.r->.r->.r):Prop where
 to:∀(s:Shared) (us ws:.u),K.In s.heap->(g us ws).length=ps.length->BindsTo s fd ⟨us,ks.zip ws⟩ (ps.zip<|g us ws)
 rel:∀{vs:.r} {us:.u} {zs:.r} {ws:.u},Vals vs us->Vals zs ws->Vals (gV vs zs) (g us ws)
variable{g:.u->.u->.u}{gV:.r->.r->.r}
end
structure az(N P:.L)(sc:Scope):Prop where
 kind:sc.kind=.function
 co:sc.isCoroutine=false
 gen:sc.isGenerator=false
 nd:N.Nodup
 pre:N.take P.length=P
 par:∀x∈P,sc.names.lookup x=some .local\/sc.names.lookup x=.b7
 XU:∀y∈sc.names,y.2≠.free
theorem Cy{a:Str->Option NameKind}{x:Str}:∀{binds:List (Str×Value)} {m:.aa},(∀v,(x,v)∉binds)->bindL a binds m x=m x
 |[],_,_=>rfl
 |(n,v)::r,m,h=>by
  unfold bindL;rw[Cy λw b=>h w<|aV _ b];split
  ·have:x≠n:=by rintro rfl;exact h v bf
   simp[this]
  ·rfl
theorem Cz{a:Str->Option NameKind}{x:Str}:∀{binds:List (Str×Value)} {m:.aa},(∀v,(x,v)∉binds)->bindC a binds m x=m x
 |[],_,_=>rfl
 |(n,v)::r,m,h=>by
  unfold bindC;rw[Cz λw b=>h w<|aV _ b];split
  ·rfl
  ·have:x≠n:=by rintro rfl;exact h v bf
   simp[this]
theorem CB{a:Str->Option NameKind}{x:Str}{v:Value}:∀{P:.L} {vs:.u} {i:Nat} {m:.aa},P.Nodup->P[i]?=.v->vs[i]?=.av->a x=some .local->
  bindL a (P.zip vs) m x=.av
 |[],_,_,_,_,h,_,_=>.b0
 |_::_,[],_,_,_,_,h,_=>.b0
 |p::P,w::vs,0,m,nd,h1,h2,hk=>by
  simp at h1 h2;subst h1;subst h2;show bindL a ((p,w)::P.zip vs) m p=_;unfold bindL;rw[Cy λv hv=>(gu.mp nd).1 (yQ hv).1,if_pos hk];simp
 |p::P,w::vs,i+1,m,nd,h1,h2,hk=>by
  show bindL a ((p,w)::P.zip vs) m x=_;unfold bindL;exact CB (i:=i) (gu.mp nd).2 .cS (by simpa using h2) hk
theorem CC{a:Str->Option NameKind}{x:Str}{v:Value}:∀{P:.L} {vs:.u} {i:Nat} {m:.aa},P.Nodup->P[i]?=.v->vs[i]?=.av->a x≠some .local->
  bindC a (P.zip vs) m x=.av
 |[],_,_,_,_,h,_,_=>.b0
 |_::_,[],_,_,_,_,h,_=>.b0
 |p::P,w::vs,0,m,nd,h1,h2,hk=>by
  simp at h1 h2;subst h1;subst h2;show bindC a ((p,w)::P.zip vs) m p=_;unfold bindC;rw[Cz λv hv=>(gu.mp nd).1 (yQ hv).1,if_neg hk];simp
 |p::P,w::vs,i+1,m,nd,h1,h2,hk=>by
  show bindC a ((p,w)::P.zip vs) m x=_;unfold bindC;exact CC (i:=i) (gu.mp nd).2 .cS (by simpa using h2) hk
def start(N:.L)(vs:.r):St:=vs.map some++bq (N.length-vs.length) none
def Ax(CX:BD)(P:Program)(w:World)(K:ah)(mg:.aa)(base:Heap)(N:.L)(b:Str)(a:Scope)(f:Addr)(cd:Value)(A:Around)(outer:.a0)(s:Shared)(H:Hp)(E:XK):Cx where
 prog:=P
 w:=w
 K:=K
 mg:=mg
 base:=base
 A:=A.deeper<|envOfC b a s.heap.objs.size f cd
 N:=N
 wL:=s
 TF:=H
 env:=envOfC b a s.heap.objs.size f cd
 outer:=outer
 stack:=envOfC b a s.heap.objs.size f cd::outer
 ex:=[]
 calm:=true
 fn:=λ_=>true
 pn:=[]
 xe:=λe s'=>wpAny (model P w) (A.deeper<|envOfC b a s.heap.objs.size f cd) (leaving (envOfC b a s.heap.objs.size f cd) e) (λ_ c=>CX outer H s E e c) (λd c=>CX outer H s E d c) s'
theorem Hs{a:Scope}{n:Nat}{x:Str}(h:a.names.lookup x=.b7):∃c,(cellsFrom n a.names []).lookup x=some c:=by
 have q:=E4 a.names n []<|.inl h;exact uR.mp q
theorem M3{CX:BD}{P:Program}{w:World}{K:ah}{mg:.aa}{base:Heap}{N ps:.L}{g:Str}{d:Scope}{f:Addr}{cd:Value}{A:Around}{outer:.a0}{s s1:Shared}{H:Hp}{E:XK}{us:.u}{vs:.r}
  (S:az N ps d) (t:.c5) (e0:BH P w K mg base A outer s H) (F:vs.length=ps.length) (r:Vals vs us)
  (x:InCallC s s.heap.objs.size (bindL (envOfC g d s.heap.objs.size f cd).kindOf (ps.zip us) λ_=>none) (cellsFrom .aW d.names []) (bindC (envOfC g d s.heap.objs.size f cd).kindOf (ps.zip us) λ_=>none) s1):
  Inv (Ax CX P w K mg base N g d f cd A outer s H E) [] (start N vs) H s1:=by
 have B:ps.length<=N.length:=by have:=congrArg l4 S.pre;rw[ie] at this;omega
 obtain⟨h1,tk,rfl,hk⟩:=x.done;have m:∀b:Addr,b∉(Ax CX P w K mg base N g d f cd A outer s H E).ex:=λb z=>absurd (show b∈([]:.B) from z) .m;refine⟨⟨e0.mod,S.kind,rfl,rfl,aG _,λy z c h1 h2=>?_,λy j=>?_,λy c _ h=>?_,λ_=>t,Around.frames_deeper e0.frames,.inr .cg,λb z=>absurd z (m b),e0.bs,e0.Kw,λb _ _=>m b,λb z=>absurd z (m b),e0.qu,e0.Pj⟩,
  rfl,e0.bare,Un.kept hk,⟨_,x.toInCall.ns,λi y v h1 h2 G=>?_⟩,λy c h=>⟨_,x.cell y c h⟩,e0.hok.fresh (aG _),λy c h=>?_,λp hp=>absurd (show p∈([]:.U) from hp) .m,e0.hok.kept hk,?_⟩
 ·exact name_of_addr x.apart (fH h1)<|fH h2
 ·have j:d.names.lookup y=.b7\/d.names.lookup y=some .free:=j;rcases j with j|j
  ·exact Hs j
  ·exact absurd rfl<|S.XU _<|fH j
 ·exact uH<|x.above y c<|fH h
 ·have hi:i<vs.length:=by
   unfold start at h2;by_cases hi:i<vs.length
   ·exact hi
   ·rw[ui<|by simpa using hi] at h2;rw[uk] at h2;split at h2<;>cases h2
  have C:vs[i]?=.av:=by
   unfold start at h2;rw[bN<|by simpa using hi,b8] at h2;cases e:vs[i]? with
   |none=>rw[e] at h2;cases h2
   |some a=>rw[e] at h2;cases h2;rfl
  obtain⟨u,o,D⟩:=r.get C;have hp:ps[i]?=.ao:=by
   rw[<-S.pre,List.getElem?_take_of_lt<|by omega];exact h1
  have l:ps.Nodup:=by rw[<-S.pre];exact S.nd.sublist<|List.take_sublist _ _
  refine⟨u,D,?_⟩;rcases S.par y (bc hp) with k|k
  ·exact .inl ⟨k,CB l hp o k⟩
  ·obtain⟨c,e⟩:=Hs (n:=.aW) k;refine .inr ⟨.inl k,c,e,?_⟩;have q:=x.cell y c e;rw[CC l hp o (by show d.names.lookup y≠_;rw[k];decide)] at q;exact q
 ·exact e0.hok.fresh<|uH<|x.above y c<|fH h
 ·unfold start;show _=N.length;rw[bS,au,EB];omega
theorem Wr{CX:BD}{P:Program}{w:World}{K:ah}{mg:.aa}{base:Heap}{k:Nat}{f:Addr}{name c:Str}{d:Arguments}{g:List Stmt}{a:Scope}{C kV doc pm cdv ct oc:Value}{an od:.bS}
  {osl:Array .br} {N ps:.L} {sp:Sp} (F:K.lookup f=some ⟨oc,od,.func<|c9 name c d g a C kV doc pm an cdv ct,osl⟩) (m:zb K cdv c=true) (S:az N ps a)
  (len:.ej)
  (h:∀(A:Around) (outer:.a0) (s:Shared) (H:Hp) (vs:.r) (Q:VK) (E:XK),fK k (A.deeper (envOfC c a s.heap.objs.size f cdv))->sp vs H Q E->
   ∃t,Dt (Ax CX P w K mg base N c a f cdv A outer s H E) g t/\.eL):
  aX P w K mg base CX (k+1) f (c9 name c d g a C kV doc pm an cdv ct) ps sp:=by
 refine⟨len,λA outer s H args us vs Q E p e0 G r j=>?_⟩;have L:=len _ _ _ _ j;have D:K.In s.heap:=e0.mod.XC.keeps λb o e=>(e0.bs b o e).1;have z:s.heap.NoLimit:=e0.mod.nolimit.keeps λb o e=>(e0.bs b o e).1;have i:∀y∈ps.zip us,a.names.lookup y.1=some .local\/(a.names.lookup y.1=.b7/\((cellsFrom .aW a.names []).lookup y.1).isSome=true):=λ⟨n,v⟩ M=>by
  rcases S.par n (yQ M).1 with q|q
  ·exact .inl q
  ·exact .inr ⟨q,E4 _ _ _<|.inl q⟩
 refine codeAny_call_function p.depth (D _ _ F) rfl S.co S.gen rfl (PySem.W.codeRec_of D m)<|G _ _ _ _ ?_;refine wpAny_newFunctionEnv_cells S.kind i λenv O s1 x=>?_;subst O;refine⟨z.keeps x.toInCall.keep,codeAny_func ?_⟩;obtain⟨t,ht,R⟩:=h A outer s H vs Q E (p.deeper _) j;have I:Inv (Ax CX P w K mg base N c a f cdv A outer s H E) [] (start N vs) H s1:=M3 S p.hd e0 L r x;refine wpAny_mono (ht [] s1 (start N vs) H _ I R) (λT s' hs=>?_) λe s' hs=>hs;have l:∀{σ':St} {H':Hp} {v:V} {u:Value},Inv (Ax CX P w K mg base N c a f cdv A outer s H E) [] σ' H' s'->RelV v u->Q v H'->CE outer P w H s Q u s':=
  λ{σ' H' v u} J B q=>⟨v,H',J.os,J.bare,J.base,J.hok,B,q⟩
 cases T with
 |ret u=>
  obtain⟨v,σ',H',J,B,q⟩:=hs;exact l J B q
 |next=>
  obtain⟨σ',H',J,q⟩:=hs;exact l (v:=V.non) (u:=dC) J rfl q
 |brk=>
  obtain⟨_,_,_,q⟩:=hs;exact de q
 |cont=>
  obtain⟨_,_,_,q⟩:=hs;exact de q
section
variable{X:Cx}{x:Str}{p pos:Pos}{e:Expr}{es:.aU}{t:TA}{id T:String}{r:.r->.aD}
def tCB(r:.r->.aD)(t:TA):TE:=λσ H Q=>t σ H λvs H1=>r vs H1 Q
theorem df(c:o8 X (.builtin id) r)(d:Gl X x)(f:X.mg x=none)(hv:bootBuiltins x=some (.builtin id))(g:.cD)(i:x≠"__name__":=by decide)(a:.bc:=by decide)
  (j:.cm:=by rfl) (b:(.cK).any (·.1)=false:=by rfl):PE X .dF (tCB r t):=by
 intro pins s σ H Q I h;refine wpAny_Call_Name_kw<|Ak I d f hv ?_ i a;exact Ob (eF (g pos pins s σ H _ I h) λus s1 ⟨vs,H1,k,l,m⟩=>c pins s1 σ H1 vs us Q k l m) j b
theorem dD(c:o8 X (.type T) r)(d:Gl X x)(f:X.mg x=none)(hv:bootBuiltins x=some (.type T))(g:.cD)(i:x≠"__name__":=by decide)(a:.bc:=by decide)
  (j:.cm:=by rfl) (b:(.cK).any (·.1)=false:=by rfl):PE X .dF (tCB r t):=by
 intro pins s σ H Q I h;refine wpAny_Call_Name_kw<|Ak I d f hv ?_ i a;exact uU (eF (g pos pins s σ H _ I h) λus s1 ⟨vs,H1,k,l,m⟩=>c pins s1 σ H1 vs us Q k l m) j b
end
end L2
namespace HT
open PySem PyProof.Rows
section
variable{prog:Program}{w:World}{A:Around}{E:.ac}{s:Shared}
def lu(n d:Nat):.ab->Nat
 |none=>d
 |some v=>if v<0 then(v+(n:Int)).toNat else min v.toNat n
theorem Ay(n d:Nat):lu n d none=d:=rfl
theorem vE(n d k:Nat):lu n d (some (k:Int))=min k n:=by
 show(if(k:Int)<0 then((k:Int)+(n:Int)).toNat else min (k:Int).toNat n)=min k n
 rw[.aC,iU]
theorem PL(n d:Nat)(a:d<=n)(o:.ab):lu n d o<=n:=by
 cases o with
 |none=>exact a
 |some v=>
  show(if v<0 then(v+(n:Int)).toNat else min v.toNat n)<=n
  by_cases hv:v<0
  ·rw[if_pos hv];omega
  ·rw[if_neg hv];exact Nat.min_le_right _ _
end
end HT
namespace L2
open PySem PySem.Spec PyProof.Rows
abbrev TO:=St->Hp->(.ab->.Z)->Prop
def PO(X:Cx)(e:Option Expr)(t:TO):Prop:=
 ∀(pins:.U) (s:Shared) (σ:St) (H:Hp) (Q:.ab->.Z),.D->t σ H Q->
  wpAny .af X.A (evalPart e X.env) (λu s'=>∃o H',.df/\IsPart u o/\Q o H') X.xe s
def Ub:TO:=λ_ H Q=>Q none H
def aaw(t:TE):TO:=λσ H Q=>t σ H λx H1=>∃i,x=.int i/\Q (some i) H1
section
variable{X:Cx}{e:Expr}{te:TE}{lo hi:Option Expr}{tl th:TO}{pos p2:Pos}
theorem DF:PO X none Ub:=by
 intro pins s σ H Q I h;rw[evalPart_none];exact wpAny_pure ⟨none,H,I,.none,h⟩
theorem vF(h:PE X e te):PO X (some e) (aaw te):=by
 intro pins s σ H Q I a;rw[evalPart_some];refine eF (h pins s σ H _ I a) λu s1 ⟨x,H1,b,c,d⟩=>?_;obtain⟨i,rfl,q⟩:=d;obtain⟨t,rfl⟩:=c;exact⟨some i,H1,b,.int i t,q⟩
def SlR(X:Cx)(r:V->.ab->.ab->.aD):Prop:=
 ∀(pins:.U) (s:Shared) (σ:St) (H:Hp) (x:V) (v a b:Value) (lo hi:.ab) (c:Addr) (Q:VK),.D->RelV x v->s.heap.IsSliceOf c a b .none->IsPart a lo->IsPart b hi->r x lo hi H Q->
  ∃T id,typeLookup (.type T) "__getitem__"=pure (some<|.builtin id)/\s.TypeIs v T/\wpAny .af X.A (getItem v<|.ref c) .cb X.xe s
def tSl(r:V->.ab->.ab->.aD)(te:TE)(tl th:TO):TE:=λσ H Q=>te σ H λx H1=>tl σ H1 λl H2=>th σ H2 λu a=>r x l u a Q
theorem vG{r:V->.ab->.ab->.aD}(g:SlR X r)(i:PE X e te)(j:PO X lo tl)(k:PO X hi th):PE X (.Subscript e (.Slice lo hi none p2) pos) (tSl r te tl th):=by
 intro pins s σ H Q I h;refine Subscript_<|eF (i pins s σ H _ I h) λv s1 ⟨x,H1,m,n,o⟩=>?_;refine wpAny_Slice<|eF (j pins s1 σ H1 _ m o) λc p ⟨l,H2,t,pl,y⟩=>eF (k pins p σ H2 _ t y) λd a ⟨u,f,z,B,C⟩=>?_;rw[evalPart_none];refine wpAny_pure ?_;have D:Inv X pins σ f .fu:=z.kept (t':=a.toks) λb ob q=>aY _ q;obtain⟨T,id,E,ht,F⟩:=g pins .fu σ f x v c d l u a.heap.objs.size Q D n (Mx ..) pl B C;show wpAny .af X.A (subscriptTail e (.Slice lo hi none p2) v<|.ref a.heap.objs.size) .cb X.xe .fu;exact tail_any (ops:=[.ref a.heap.objs.size,v]) ht E F<|by with_unfolding_all rfl
def Az(xs:.r)(lo hi:.ab):.r:=(xs.drop<|HT.lu xs.length 0 lo).take<|HT.lu xs.length xs.length hi-HT.lu xs.length 0 lo
theorem Ht(xs:.r)(lo hi:.ab):(Az xs lo hi).length<=xs.length:=by
 unfold Az;rw[ie,iS];omega
end
def N3(n:Nat)(i:Int):Option Nat:=if 0<=i then(if i<n then some i.toNat else none) else if -(n:Int)<=i then some (i+n).toNat else none
def AA{α:Type}(xs:.aP)(i:Int):Option α:=(N3 xs.length i).bind λj=>xs[j]?
theorem KM{n:Nat}{i:Int}{j:Nat}(h:N3 n i=some j):seqIndex? i n=some j/\j<n/\-(n:Int)<=i/\i<n:=by
 unfold N3 at h;by_cases a:0<=i
 ·rw[if_pos a] at h;by_cases h1:i<n
  ·rw[if_pos h1] at h;have e:i.toNat=j:=aI h;exact⟨by rw[seqIndex_of a h1,e],.h,.h,h1⟩
  ·rw[if_neg h1] at h;cases h
 ·rw[if_neg a] at h;by_cases h1:-(n:Int)<=i
  ·rw[if_pos h1] at h;have e:(i+n).toNat=j:=aI h;exact⟨by rw[seqIndex_neg .h h1,e],.h,h1,.h⟩
  ·rw[if_neg h1] at h;cases h
theorem DG{α:Type}{xs:.aP}{i:Int}{v:α}(h:AA xs i=.av):∃j,seqIndex? i xs.length=some j/\xs[j]?=.av/\j<xs.length/\-(xs.length:Int)<=i/\i<xs.length:=by
 unfold AA at h;cases e:N3 xs.length i with
 |none=>rw[e] at h;cases h
 |some j=>
  rw[e] at h;obtain⟨h1,h2,a,b⟩:=KM e;exact⟨j,h1,h,h2,a,b⟩
theorem c6{α:Type}{xs:.aP}{j:Nat}{v:α}(h:xs[j]?=.av):AA xs (j:Int)=.av:=by
 have a:j<xs.length:=(aB.mp h).1;have e:N3 xs.length (j:Int)=some j:=by
  unfold N3;rw[.bX,.bX];simp
 unfold AA;rw[e];exact h
theorem AB{α:Type}(xs:.aP)(v:α):AA (xs++[v]) (-1)=.av:=by
 have a:(xs++[v]).length=xs.length+1:=.m
 have e:N3 (xs++[v]).length (-1)=some xs.length:=by
  unfold N3;rw[a,.be,.bX];congr 1;omega
 unfold AA;rw[e];show(xs++[v])[xs.length]?=.av;simp
def DH(b:Expr):Prop:=∀o i,subscripted b false o i=operate [o,i] (getItem o i)
def IxR(X:Cx)(r:R2):Prop:=
 ∀(value a:Expr) (pins:.U) (s:Shared) (σ:St) (H:Hp) (x y:V) (v u:Value) (Q:VK),.D->RelV x v->RelV y u->r x y H Q->
  subscripted a false v u=operate [v,u] (getItem v u)->wpAny .af X.A (subscriptTail value a v u) .cb X.xe s
def XW(X:Cx)(id:String)(r:V->.r->.aD):Prop:=
 ∀(pins:.U) (s:Shared) (σ:St) (H:Hp) (x:V) (xs:.r) (v:Value) (us:.u) (Q:VK),.D->RelV x v->.b4->r x xs H Q->
  wpAny .af X.A (call (.builtin id) (v::us)) .cb X.xe s
section
variable{X:Cx}{a b:Expr}{ta tb:TE}{pos:Pos}
theorem nz{r:R2}(c:IxR X r)(d:PE X a ta)(e:PE X b tb)(hs:DH b):PE X (.Subscript a b pos) (ZX r ta tb):=by
 intro pins s σ H Q I h;exact Subscript_<|XO d e I h λv u f x y H2 g i j q=>c a b pins f σ H2 x y v u Q g i j q<|hs _ _
def AC(K:ah):R2:=λx y H Q=>∃p xs i v,x=.aO/\y=.int i/\bh K H p xs/\AA xs i=.av/\Q v H
def Uc(K:ah):R2:=λx y H Q=>∃p xs i v,x=.aO/\y=.int i/\gm K H p xs/\AA xs i=.av/\Q v H
def acv:R2:=λx y H Q=>∃z i c,x=.str z/\y=.int i/\z.length<=sizeLine/\AA z.cps.toList i=some c/\Q (.str ⟨#[c]⟩) H
theorem kE:IxR X (AC X.K):=by
 intro value b pins s σ H x y v u Q I f g h hs;obtain⟨p,xs,i,z,rfl,rfl,k,l,q⟩:=h;cases f;obtain⟨t,rfl⟩:=g;obtain⟨its,r,pl,B⟩:=I.list k;obtain⟨j,h1,h2,C,m,n⟩:=DG l;obtain⟨w,d,o⟩:=r.get h2;have A:=r.length;have D:=tH;have a:EP X pins σ Q w s:=⟨z,H,I,o,q⟩;by_cases e:0<=i
 ·have c:i.toNat=j:=by
   rw[seqIndex_of e n] at h1;exact aI h1
  exact item_listR pl.isList e .h (by rw[c];simpa using d) a hs
 ·have c:(i+(its.toArray.size:Int)).toNat=j:=by
   rw[seqIndex_neg .h m] at h1;rw[b9,<-A];exact aI h1
  exact subscriptTail_builtinR (x:=w) pl.isList.typeIs slot_list_getitem.lookup
   (wpAny_getItem_list_neg (Q:=λr s'=>r=w/\EP X pins σ Q r s') pl.isList .h (by rw[b9]<;>omega) .h (by rw[c];simpa using d) ⟨rfl,a⟩) hs
theorem Jy:IxR X (Uc X.K):=by
 intro value a pins s σ H x y v u Q I c d h hs;obtain⟨p,xs,i,z,rfl,rfl,e,f,q⟩:=h;cases c;obtain⟨t,rfl⟩:=d;obtain⟨its,r,pl,m⟩:=I.tuple e;obtain⟨j,h1,h2,n,o,A⟩:=DG f;obtain⟨w,g,k⟩:=r.get h2;have l:=r.length;have B:=tH;have b:EP X pins σ Q w s:=⟨z,H,I,k,q⟩;exact subscriptTail_builtinR (x:=w) pl.typeIs slot_tuple_getitem.lookup
  (getItem_tuple (j:=j) (Q:=λr s'=>r=w/\EP X pins σ Q r s') pl .h .h (by rw[b9,<-l];exact h1) .dj ⟨rfl,b⟩) hs
theorem XX:IxR X acv:=by
 intro value a pins s σ H x y v u Q I b d h hs;obtain⟨z,i,c,rfl,rfl,n,e,q⟩:=h;obtain⟨t,rfl⟩:=b;obtain⟨t',rfl⟩:=d;obtain⟨j,h1,h2,o,f,g⟩:=DG e;have k:z.cps.toList.length=z.length:=by simp[B2]
 rw[k] at h1 f g;have p:=tH;exact tail_any (typeIs_str s z t) slot_str_getitem.lookup (getItem_str (c:=c) (by
  have l:decide (i < -(2 ^ 63:Int))=false:=decide_eq_false .h;have m:decide (i>=2 ^ 63)=false:=decide_eq_false .h;rw[l,m,Bool.or_false]) (by rw[h1];simpa using h2) ⟨.str ⟨#[c]⟩,H,I.tok _,.Y,q⟩) hs
theorem Jz(its:.u)(n j:Nat)(u:Value):qU (·.setIfInBounds j u) .dZ={ cls:=.bB,data:=.seq (its.set j u).toArray n }:=by
 simp[qU]
theorem Inv.lst{pins:.U}{σ:St}{H:Hp}{s:Shared}{p:Addr}{xs:.r}(I:.D)(h:H p=.aZ):
  ∃(its:.u) (n:Nat),Vals xs its/\s.heap.get? p=some .dZ/\.dx:=by
 obtain⟨z,its,n,r,e⟩:=I.hok p _ h;exact⟨its,n,r,e,z⟩
theorem Inv.XY{pins:.U}{σ:St}{H:Hp}{s:Shared}{p:Addr}{xs ys:.r}{its its':.u}{n a:Nat}{f:Obj->Obj}(I:.D)(h:H p=.aZ)
  (d:s.heap.get? p=some .dZ) (c:f .dZ={ cls:=.bB,data:=.seq its'.toArray a }) (r:Vals ys its') (g:ys.length<=sizeLine) (t:Nat):
  Inv X pins σ (upd H p<|.lst ys) { s with heap:=s.heap.update p f,toks:=t }:=by
 have e:(s.heap.update p f).get? p=some { cls:=.bB,data:=.seq its'.toArray a }:=by
  rw[l6 f d (by rw[c]<;>rfl),c]
 refine I.write (x:=p) (e:=p) (by rw[h];trivial) .ar (λb u i q=>(gJ _ _<|aF i).trans q) ⟨_,e⟩ ?_;exact⟨g,its',a,r,e⟩
def aax:V->V->V->Hp->.Z->Prop:=λo i v H Q=>∃p xs k j,o=.aO/\i=.int k/\H p=.aZ/\N3 xs.length k=some j/\Q (upd H p<|.lst<|xs.set j v)
theorem set_list:XG X aax:=by
 intro pins s σ H o i v y z u Q I g l m h;obtain⟨p,xs,k,j,rfl,rfl,hp,w,q⟩:=h;cases g;obtain⟨t,rfl⟩:=l;obtain⟨its,n,r,a,x⟩:=I.lst hp;obtain⟨h1,h2,c,d⟩:=KM w;have b:=r.length;have A:=tH;have e:Inv X pins σ (upd H p<|.lst<|xs.set j v) { s with heap:=s.heap.update p (qU (·.setIfInBounds j u)) }:=
  I.XY hp a (Jz its n j u) (r.set m j) (by rw[fz];exact x) s.toks
 by_cases f:0<=k
 ·have hk:k.toNat=j:=by
   rw[seqIndex_of f d] at h1;exact aI h1
  exact PySem.W.ki_setAt a f .h (by rw[b9,<-b];exact d) (by rw[hk];exact⟨_,e,q⟩)
 ·have hk:(k+(its.toArray.size:Int)).toNat=j:=by
   rw[seqIndex_neg .h c] at h1;rw[b9,<-b];exact aI h1
  exact PySem.W.ki_setBack a .h (by rw[b9,<-b];exact c) .h (by rw[hk];exact⟨_,e,q⟩)
theorem DI(lo hi:.ab)(n:Nat):(sliceBounds lo hi none n).1=((HT.lu n 0 lo:Nat):Int)/\(sliceBounds lo hi none n).2.1=((HT.lu n n hi:Nat):Int)/\(sliceBounds lo hi none n).2.2=1:=by
 refine⟨?_,?_,rfl⟩
 ·cases lo with
  |none=>simp[sliceBounds,HT.lu]
  |some i=>
   simp only[sliceBounds,HT.lu,Gc,show(1:Int)>0 by decide,if_true];by_cases h:i<0
   ·simp only[h,if_true]<;>omega
   ·simp only[h,if_false]<;>omega
 ·cases hi with
  |none=>simp[sliceBounds,HT.lu]
  |some i=>
   simp only[sliceBounds,HT.lu,Gc,show(1:Int)>0 by decide,if_true];by_cases h:i<0
   ·simp only[h,if_true]<;>omega
   ·simp only[h,if_false]<;>omega
theorem BI(its:.u)(lo hi:.ab):slicePick its.toArray lo hi none=((its.drop<|HT.lu its.length 0 lo).take<|HT.lu its.length its.length hi-HT.lu its.length 0 lo).toArray:=by
 obtain⟨h1,h2,a⟩:=DI lo hi its.toArray.size;unfold slicePick;rw[h1,h2,a];simp only[sliceRange_one,pick_run,b9]<;>rfl
def acw(K:ah):V->.ab->.ab->.aD:=λx lo hi H Q=>∃a xs,x=.E/\.b2/\∀p,H p=none->Q .aO (upd H p<|.lst<|Az xs lo hi)
theorem DJ:SlR X (acw X.K):=by
 intro pins s σ H x v i j lo hi k Q I d hs pl e h;obtain⟨a,xs,rfl,f,q⟩:=h;cases d;obtain⟨its,r,ht,g⟩:=I.list f;have c:=r.length;refine⟨"list",_,slot_list_getitem.lookup,ht.isList.typeIs,?_⟩;refine wpAny_getItem_list_slice ht.isList hs pl e .none .m ?_ (by rw[b9]<;>omega);rw[BI,<-c];refine⟨ .ba,_,I.laid (t':=s.toks) (o:=.lst<|Az xs lo hi) (λb ob q=>aY _ q) (aG _) ?_,rfl,q _<|I.hok.fresh<|aG _⟩;exact⟨bK (Ht xs lo hi) g,_,0,(r.drop<|HT.lu xs.length 0 lo).take<|HT.lu xs.length xs.length hi-HT.lu xs.length 0 lo,cY _ rfl⟩
def xM:V->Bool
 |.non=>true
 |.bl _=>true
 |.int _=>true
 |.str _=>true
 |_=>false
def PN:V->V->Bool
 |.non,.non=>true
 |.bl a,.bl b=>a == b
 |.bl a,.int b=>(if a then 1 else 0) == b
 |.int a,.bl b=>a == (if b then 1 else 0)
 |.int a,.int b=>a == b
 |.str a,.str b=>a == b
 |_,_=>false
theorem X0{A:Around}{s:Shared}{y x:V}{u v:Value}(d:RelV y u)(c:RelV x v)(f:xM y=true)(e:xM x=true):B9 A s u v (PN y x):=by
 cases y with
 |non=>
  cases d;cases x with
  |non=>cases c;exact Mt _
  |bl b=>cases c;exact Me b
  |int b=>obtain⟨t,rfl⟩:=c;exact Mh b t
  |str b=>obtain⟨t,rfl⟩:=c;exact Mi b t
  |_=>exact absurd (show false=true from e) cX
 |bl a=>
  cases d;cases x with
  |non=>cases c;exact Mf a
  |bl b=>cases c;exact Mg a b
  |int b=>obtain⟨t,rfl⟩:=c;exact Mj a b t
  |str b=>obtain⟨t,rfl⟩:=c;exact Ml a b t
  |_=>exact absurd (show false=true from e) cX
 |int a=>
  obtain⟨t',rfl⟩:=d;cases x with
  |non=>cases c;exact Mm a t'
  |bl b=>cases c;exact Mn a t' b
  |int b=>obtain⟨t,rfl⟩:=c;exact Mr a t' b t
  |str b=>obtain⟨t,rfl⟩:=c;exact Gx a t' b t
  |_=>exact absurd (show false=true from e) cX
 |str a=>
  obtain⟨t',rfl⟩:=d;cases x with
  |non=>cases c;exact Mp a t'
  |bl b=>cases c;exact Mq a t' b
  |int b=>obtain⟨t,rfl⟩:=c;exact Gy a t' b t
  |str b=>obtain⟨t,rfl⟩:=c;exact Ms a t' b t
  |_=>exact absurd (show false=true from e) cX
 |_=>exact absurd (show false=true from f) cX
def Ue(x:V)(u:Value):Bool:=match u with
 |.none=>PN .non x
 |.bool b=>PN (.bl b) x
 |.int i _=>PN (.int i) x
 |.str z _=>PN (.str z) x
 |_=>false
theorem PP{x y:V}{u:Value}(r:RelV y u)(f:xM y=true):Ue x u=PN y x:=by
 cases y with
 |non=>cases r;rfl
 |bl b=>cases r;rfl
 |int i=>obtain⟨t,rfl⟩:=r;rfl
 |str z=>obtain⟨t,rfl⟩:=r;rfl
 |_=>exact absurd (show false=true from f) cX
theorem DK{x:V}:∀{xs:.r} {us:.u},.b4->xs.all xM=true->us.any (Ue x)=xs.any λy=>PN y x
 |_,_,.nil,_=>rfl
 |y::xs,u::us,.cons r t,f=>by
  rw[lY,cn] at f;rw[lZ,lZ,PP r f.1,DK t f.2]
theorem AE{A:Around}{s:Shared}{x:V}{v:Value}(b:RelV x v)(c:xM x=true):∀{xs:.r} {us:.u},.b4->xs.all xM=true->∀u∈us,B9 A s u v (Ue x u)
 |_,_,.nil,_=>λu a=>by cases a
 |y::xs,u::us,.cons r t,f=>λd a=>by
  rw[lY,cn] at f;rcases aH.mp a with rfl|a
  ·rw[PP r f.1];exact X0 r b f.1 c
  ·exact AE b c t f.2 d a
def inV(x:V)(xs:.r):Bool:=xs.any λy=>PN y x
def rIn(K:ah)(neg:Bool):R2:=λx y H Q=>∃p xs,y=.aO/\(bh K H p xs\/gm K H p xs)/\xM x=true/\xs.all xM=true/\Q (.bl<|if neg then !inV x xs else inV x xs) H
theorem wU:xZ X (compareOp .In) (rIn X.K false):=by
 intro pins s σ H x y v u Q I c e h;obtain⟨p,xs,rfl,a,d,fs,q⟩:=h;cases e;rcases a with a|a
 ·obtain⟨its,r,pl,f⟩:=I.list a;refine SeqAt.in_listAt (Ue x) pl.isList (λw b=>AE c d r fs w<|by simpa using b) ⟨.bl _,H,I,rfl,?_⟩;rw[show its.toArray.any (Ue x)=its.any (Ue x) by simp,DK r fs];exact q
 ·obtain⟨its,r,pl,f⟩:=I.tuple a;refine SeqAt.in_tupleAt (Ue x) pl (λw b=>AE c d r fs w<|by simpa using b) ⟨.bl _,H,I,rfl,?_⟩;rw[show its.toArray.any (Ue x)=its.any (Ue x) by simp,DK r fs];exact q
theorem pP:o8 X (.builtin "len") (λxs H Q=>∃p ys,xs=[.aO]/\(bh X.K H p ys\/gm X.K H p ys)/\Q (.int ys.length) H):=by
 intro pins s σ H xs us Q I r h;obtain⟨p,ys,rfl,b,q⟩:=h;obtain⟨u,rfl,d⟩:=vals1 r;cases d;have f:=tH;rcases b with b|b
 ·obtain⟨its,c,pl,e⟩:=I.list b;have a:=c.length;exact Calls.call_len_list pl.isList (by simp only[b9]<;>omega) ⟨.int ys.length,H,I.tok _,⟨s.toks+1,by rw[b9,a]⟩,q⟩
 ·obtain⟨its,c,pl,e⟩:=I.tuple b;have a:=c.length;exact len_tuple pl (by simp only[b9]<;>omega) ⟨.int ys.length,H,I.tok _,⟨s.toks+1,by rw[b9,a]⟩,q⟩
theorem lH:o8 X (.builtin "len") (λxs H Q=>∃z,xs=[.str z]/\z.length<=sizeLine/\Q (.int z.length) H):=by
 intro pins s σ H xs us Q I r h;obtain⟨z,rfl,a,q⟩:=h;obtain⟨u,rfl,t,rfl⟩:=vals1 r;have b:=tH;exact len_str .h ⟨.int z.length,H,I.tok _,.Y,q⟩
theorem lI:o8 X .bB (λxs H Q=>∃p ys,xs=[.aO]/\(bh X.K H p ys\/gm X.K H p ys)/\∀l,H l=none->Q .aH (upd H l<|.lst ys)):=by
 intro pins s σ H xs us Q I r h;obtain⟨p,ys,rfl,c,q⟩:=h;obtain⟨u,rfl,t⟩:=vals1 r;cases t;have d:∀(its:.u),Vals ys its->ys.length<=sizeLine->∀(h':Heap) (c':Nat),(∀b o',s.heap.get? b=some o'->.aQ=some o')->
   h'.get? s.heap.objs.size=some { cls:=.bB,dict:=none,data:=.seq its.toArray c',slots:=#[] }->EP X pins σ Q .ba .cO:=λits a f h' c' g e=>
  ⟨ .ba,_,I.laid (t':=s.toks) g (aG _)<|show dM X.prog X.w _ h' _ (.lst ys) from⟨f,its,c',a,e⟩,rfl,q _<|I.hok.fresh<|aG _⟩
 rcases c with c|c
 ·obtain⟨its,a,pl,f⟩:=I.list c;have i:=a.length;obtain⟨o,j,k,n,m⟩:=pl.isList;exact call_list_seq p .ar j k m (λh' c' g e=>d its a f h' c' g e) (by simp only[b9]<;>omega)
 ·obtain⟨its,a,pl,f⟩:=I.tuple c;have i:=a.length;obtain⟨o,j,k,n,m⟩:=pl;exact call_list_seq p (.inr rfl) j k m (λh' c' g e=>d its a f h' c' g e) (by simp only[b9]<;>omega)
theorem nO:o8 X .bz (λxs H Q=>∃p ys,xs=[.aO]/\((bh X.K H p ys/\∀l,H l=none->Q .aH (upd H l<|.tup ys))\/(gm X.K H p ys/\Q .aO H))):=by
 intro pins s σ H xs us Q I r h;obtain⟨p,ys,rfl,h⟩:=h;obtain⟨u,rfl,i⟩:=vals1 r;cases i;rcases h with⟨a,q⟩|⟨a,q⟩
 ·obtain⟨its,c,pl,d⟩:=I.list a;have f:=c.length;refine call_tuple_list pl.isList (λh' j=>?_) (by simp only[b9]<;>omega);have g:Inv X pins σ H .cO:=I.kept (t':=s.toks) j;have k:Inv X pins σ (upd H h'.objs.size<|.tup ys) { s with heap:=h'.push { cls:=.bz,data:=.seq its.toArray } }:=
   g.laid (t':=s.toks) (λb o e=>aY _ e) (aG _) (show dM X.prog X.w _ _ _ (.tup ys) from⟨d,its,c,IsTup.new _ _⟩)
  exact⟨.ref h'.objs.size,_,k,rfl,q _<|g.hok.fresh<|aG _⟩
 ·obtain⟨its,c,pl,d⟩:=I.tuple a;exact call_tuple_same pl ⟨ .aO,H,I,rfl,q⟩
def tyV(K:ah)(T:String)(x:V)(H:Hp):Prop:=match x with
 |.str _=>T="str"
 |.int _=>T="int"
 |.ref p=>(T="list"/\∃xs,bh K H p xs)\/(T="tuple"/\∃o,K.lookup p=.i/\o.cls=.bz/\o.dict=none)\/
   (T="dict"/\((∃kvs,H p=.bg)\/∃kvs,H p=some (.dT kvs)))\/(T="set"/\∃S n,H p=some (.set S n))
 |_=>False
theorem PQ{pins:.U}{σ:St}{H:Hp}{s:Shared}{T:String}{x:V}{v:Value}(I:.D)(r:RelV x v)(ty:tyV X.K T x H):
  s.TypeIs v T/\∀a,v=.E->∃ob,s.heap.get? a=some ob/\ob.dict=none:=by
 cases x with
 |str z=>
  obtain⟨t,rfl⟩:=r;cases (show T="str" from ty);exact⟨typeIs_str s z t,λ_ e=>nomatch e⟩
 |int i=>
  obtain⟨t,rfl⟩:=r;cases (show T="int" from ty);exact⟨typeIs_int s i t,λ_ e=>nomatch e⟩
 |ref p=>
  cases r;rcases ty with⟨rfl,xs,f⟩|⟨rfl,o,hk,g,b⟩|⟨rfl,hk⟩|⟨rfl,S,n,hk⟩
  ·obtain⟨its,_,pl,_⟩:=I.list f;refine⟨pl.isList.typeIs,λa e=>?_⟩;cases e;obtain⟨o,n,e,c,b,_⟩:=pl;exact⟨o,e,b⟩
  ·refine⟨⟨o,I.ug p o hk,g⟩,λa e=>?_⟩;cases e;exact⟨o,I.ug _ o hk,b⟩
  ·have z:∃o,s.heap.get? p=.i/\o.ExactDict:=by
    rcases hk with⟨kvs,hk⟩|⟨kvs,hk⟩
    ·obtain⟨_,_,_,_,o,_,_,e,ex,_⟩:=I.hok p _ hk;exact⟨o,e,ex⟩
    ·obtain⟨_,_,_,_,o,_,_,e,ex,_⟩:=I.hok p _ hk;exact⟨o,e,ex⟩
   obtain⟨o,e,ex⟩:=z;refine⟨⟨o,e,ex.1⟩,λa d=>?_⟩;cases d;exact⟨o,e,ex.2.1⟩
  ·obtain⟨o,_,_,_,e,ex,_⟩:=I.hok p _ hk;refine⟨⟨o,e,ex.1⟩,λa d=>?_⟩;cases d;exact⟨o,e,ex.2.1⟩
 |_=>exact de ty
def acx(K:ah)(T:String)(r:V->.r->.aD)(to:TE):TE:=λσ H Q=>to σ H λx H1=>tyV K T x H1/\r x [] H1 Q
def tBM(K:ah)(T:String)(r:V->.r->.aD)(to:TE)(t:TA):TE:=λσ H Q=>to σ H λx H1=>tyV K T x H1/\t σ H1 λxs H2=>r x xs H2 Q
variable{o e:Expr}{es:.aU}{to:TE}{t:TA}{name:Str}{apos cpos:Pos}{T id:String}{r:V->.r->.aD}
theorem PR(f:PlainAttrs T)(slot:Slot T name id)(c:.fM)(g:XW X id r)(i:PE X o to)
  (a:attributeBase o name X.env .cu=.cu:=by rfl) (b:(apos.endLine == cpos.line)=true:=by rfl):PE X (.Call (.Attribute o name apos) [] [] cpos) (acx X.K T r to):=by
 intro pins s σ H Q I h;refine wpAny_Call_method0_late a b<|eF (i pins s σ H _ I h) λv s1 ⟨x,H1,d,e,ty,j⟩=>?_;obtain⟨h1,h2⟩:=PQ d e ty;exact⟨T,id,f,slot,c,h1,h2,zM rfl<|PySem.evalArgs_none<|g pins s1 σ H1 x [] v [] Q d e .nil j⟩
theorem mL(j:PlainAttrs T)(slot:Slot T name id)(f:.fM)(k:XW X id r)(l:PE X o to)(m:.cD)
  (b:attributeBase o name X.env .cu=.cu:=by rfl)
  (d:((backTo cpos .ey).all (λx=>!x.1)&&.fD
   &&decide ((e::es).length+([]:List Keyword).length+(if([]:List Keyword).isEmpty then 0 else 1)<30))=true:=by rfl)
  (c:(apos.endLine == cpos.line)=true:=by rfl) (hs:.cm:=by rfl) (a:(backTo cpos<|starEach es X.env).any (·.1)=false:=by rfl):
  PE X (.Call (.Attribute o name apos) (e::es) [] cpos) (tBM X.K T r to t):=by
 intro pins s σ H Q I h;refine wpAny_Call_method_late b d c rfl<|eF (l pins s σ H _ I h) λv s1 ⟨x,H1,g,i,ty,n⟩=>?_;obtain⟨h1,h2⟩:=PQ g i ty;refine⟨T,id,j,slot,f,h1,h2,?_⟩;have hA:=m cpos pins s1 σ H1 _ g n;rw[hs] at hA ⊢;refine zM (by show(false||(backTo cpos<|starEach es X.env).any (·.1))=false;rw[a]<;>rfl)<|Gg ?_;exact eF hA λus p ⟨vs,H2,q,u,w⟩=>k pins p σ H2 x vs v us Q q i u w
end
def MtM(X:Cx)(id:String)(r:V->.r->.aD):Prop:=
 ∀(pins:.U) (s:Shared) (σ:St) (H:Hp) (x:V) (xs:.r) (v:Value) (us:.u) (Q:VK),.D->RelV x v->.b4->r x xs H Q->
  wpAny .af X.A (call (.builtin id) (v::us)) .cb X.xe s
theorem Vals.one:∀{x:V} {us:.u},Vals [x] us->∃u,us=[u]/\RelV x u
 |_,_,.cons r .nil=>⟨_,rfl,r⟩
theorem Vals.two:∀{x y:V} {us:.u},Vals [x,y] us->∃u v,us=[u,v]/\RelV x u/\RelV y v
 |_,_,_,.cons r (.cons q .nil)=>⟨_,_,rfl,r,q⟩
theorem Vals.zero:∀{us:.u},Vals [] us->us=[]
 |_,.nil=>rfl
theorem Vals.dropLast{xs:.r}{us:.u}(h:.b4):Vals xs.dropLast us.dropLast:=by
 induction h with
 |nil=>exact .nil
 |cons r t ih=>
  cases t with
  |nil=>exact .nil
  |cons q t'=>exact .cons r ih
theorem Vals.eraseIdx:∀{xs:.r} {us:.u} (i:Nat),.b4->Vals (xs.eraseIdx i) (us.eraseIdx i)
 |_,_,_,.nil=>.nil
 |_,_,0,.cons _ t=>t
 |_,_,i+1,.cons r t=>.cons r<|Vals.eraseIdx i t
theorem Vals.reverse{xs:.r}{us:.u}(h:.b4):Vals xs.reverse us.reverse:=by
 induction h with
 |nil=>exact .nil
 |cons r t ih=>rw[yP,yP];exact Vals.append ih<|.cons r .nil
theorem Vals.rep{xs:.r}{us:.u}(h:.b4):∀k:Nat,Vals (bq k xs).flatten (bq k us).flatten
 |0=>.nil
 |k+1=>by
  rw[jD,jD,n8,n8];exact Vals.append h<|Vals.rep h k
theorem JA{α:Type}(l:.aP):l.eraseIdx (l.length-1)=l.dropLast:=by
 induction l with
 |nil=>rfl
 |cons a r ih=>
  cases r with
  |nil=>rfl
  |cons b r=>
   have e:(a::b::r).length-1=((b::r).length-1)+1:=by
    have h1:(a::b::r).length=r.length+2:=rfl;have h2:(b::r).length=r.length+1:=rfl;omega
   rw[e,List.eraseIdx_cons_succ,ih];all_goals rfl
theorem foldl_rep(its:.u):∀(k:Nat) (acc:.u),
  yT (λx1 x2=>x1++x2) acc.toArray (bq k its.toArray)=(acc++(bq k its).flatten).toArray
 |0,acc=>.m
 |k+1,acc=>by
  have e:acc.toArray++its.toArray=(acc++its).toArray:=.m
  have a:(acc++its)++(bq k its).flatten=acc++(bq (k+1) its).flatten:=by
   rw[jD,n8,iR]
  rw[<-a,<-foldl_rep its k (acc++its),<-e,jD,jF]
section
variable{X:Cx}{pins:.U}{σ:St}{H:Hp}{s:Shared}{l b:Addr}{xs ys zs:.r}
theorem Inv.Ug{its its':.u}{n:Nat}{f:.aE->.aE}{t':Nat}(I:.D)(a:H l=.aZ)
  (e:s.heap.get? l=some .dZ) (b:f its.toArray=its'.toArray) (hv:Vals ys its') (c:ys.length<=sizeLine):
  Inv X pins σ (upd H l<|.lst ys) { s with heap:=s.heap.update l<|qU f,toks:=t' }:=by
 have q:=MA e f;rw[b] at q;refine I.write (x:=l) (e:=l) (by rw[a];exact trivial) .ar (λh u d g=>(gJ s.heap (qU f)<|aF d).trans g) ⟨_,q⟩ ?_;exact⟨c,its',_,hv,q⟩
theorem Inv.aay{its:.u}{t':Nat}(I:.D)(hv:Vals ys its)(a:ys.length<=sizeLine):
  Inv X pins σ (upd H s.heap.objs.size<|.lst ys) { s with heap:=s.heap.push { cls:=.bB,data:=.seq its.toArray },toks:=t' }:=
 I.laid (λ_ _ q=>aY _ q) (aG _) ⟨a,its,0,hv,cY _ rfl⟩
theorem Inv.fresh(I:.D):H s.heap.objs.size=none:=I.hok.fresh<|aG _
theorem Inv.Hu(I:.D)(a:H l=.aZ):.dx/\∃(its:.u) (n:Nat),Vals xs its/\xs.length=its.length/\s.heap.get? l=some .dZ:=by
 obtain⟨z,its,n,r,e⟩:=I.hok l _ a;exact⟨z,its,n,r,r.length,e⟩
theorem Hv{n:Nat}(h:n<=sizeLine):uX n=false:=by
 unfold uX;exact decide_eq_false<|by omega
end
section
variable{X:Cx}
def Uh:V->.r->.aD:=λx vs H Q=>∃l xs y,x=.aH/\vs=[y]/\H l=.aZ/\xs.length<sizeLine/\Q .non (upd H l<|.lst<|xs++[y])
theorem fP:MtM X "list.append" Uh:=by
 intro pins s σ H x vs v us Q I b c h;obtain⟨l,xs,y,rfl,rfl,a,f,q⟩:=h;cases b;obtain⟨u,rfl,d⟩:=c.one;obtain⟨z,its,n,r,g,e⟩:=I.Hu a;refine call_meets gz ⟨_,e,rfl⟩ F.entry_list_append (F.args_list_append_2 _ _) (PySem.list_append l its.toArray n u (by rw[b9];omega)) ⟨e,?_⟩;refine⟨.non,_,I.Ug (its':=its++[u]) a e .m (r.append<|.cons d .nil) ?_,rfl,q⟩;rw[bS,nX];omega
def Ui:V->.r->.aD:=λx vs H Q=>∃l b xs zs,x=.aH/\vs=[.aM]/\H l=.aZ/\H b=some (.lst zs)/\xs.length+zs.length<=sizeLine/\Q .non (upd H l<|.lst<|xs++zs)
theorem CD:MtM X "list.extend" Ui:=by
 intro pins s σ H x vs v us Q I d f h;obtain⟨l,b,xs,zs,rfl,rfl,c,g,t,q⟩:=h;cases d;obtain⟨u,rfl,i⟩:=f.one;cases i;obtain⟨z,its,n,r,w,e⟩:=I.Hu c;obtain⟨y,a,j,k,m,o⟩:=I.Hu g;have hsz:its.toArray.size+a.toArray.size<=sizeLine:=by rw[b9,b9];omega
 have p:¬(!its.toArray.isEmpty&&uX (its.toArray.size+a.toArray.size))=true:=by
  rw[Hv hsz,zg];exact cX
 refine call_meets zm ⟨_,e,rfl⟩ F.entry_list_extend (F.args_list_extend_2 _ _)
  (Ol l its.toArray n b a.toArray j p (by rw[b9];omega)<|by omega) ⟨e,o,?_⟩
 refine⟨.non,_,I.Ug (its':=its++a) c e .m (r.append k) ?_,rfl,q⟩;rw[bS];omega
def acy:V->.r->.aD:=λx vs H Q=>∃l xs y,x=.aH/\vs=[]/\H l=.aZ/\xs[xs.length-1]?=.ao/\Q y (upd H l<|.lst xs.dropLast)
theorem PV:MtM X "list.pop" acy:=by
 intro pins s σ H x vs v us Q I d f h;obtain⟨l,xs,y,rfl,rfl,c,g,q⟩:=h;cases d;have a:=f.zero;subst a;obtain⟨z,its,n,r,i,e⟩:=I.Hu c;obtain⟨u,j,k⟩:=r.get g;have b:its.toArray[its.toArray.size-1]?=.ai:=by
  show its.toArray[its.length-1]?=.ai;rw[<-Array.getElem?_toList,<-i];exact j
 refine call_meets zo ⟨_,e,rfl⟩ F.entry_list_pop (F.args_list_pop_1 _) (OQ l its.toArray n u b (by rw[b9];omega)) ⟨e,?_⟩;refine⟨y,_,I.Ug (its':=its.dropLast) c e ?_ r.dropLast ?_,k,q⟩
 ·show its.toArray.eraseIdxIfInBounds (its.toArray.size-1)=its.dropLast.toArray;rw[b9,List.eraseIdxIfInBounds_toArray,JA]
 ·rw[yH];omega
def aaz:R2:=λx y H Q=>∃l b xs zs,x=.aH/\y=.aM/\H l=.aZ/\H b=some (.lst zs)/\xs.length+zs.length<=sizeLine/\∀p,H p=none->Q .aO (upd H p<|.lst<|xs++zs)
theorem X1:xZ X (binaryOp .Add) aaz:=by
 intro pins s σ H x y v u Q I c d h;obtain⟨l,b,xs,zs,rfl,rfl,f,g,o,q⟩:=h;cases c;cases d;obtain⟨z,its,n,r,p,e⟩:=I.Hu f;obtain⟨t,a,w,i,j,k⟩:=I.Hu g;refine PySem.P.add_list e k ?_ (by rw[b9,b9];omega);have m:its.toArray++a.toArray=(its++a).toArray:=.m
 rw[m];exact⟨.ref _,_,I.aay (t':=s.toks) (r.append i) (by rw[bS];omega),rfl,q _ I.fresh⟩
def acz:R2:=λx y H Q=>∃l k xs,x=.aH/\y=.int k/\H l=.aZ/\-(2 ^ 63)<=k/\k<2 ^ 63/\xs.length*k.toNat<=sizeLine/\
 ∀p,H p=none->Q .aO (upd H p<|.lst (bq k.toNat xs).flatten)
theorem len_rep{α:Type}(xs:.aP)(k:Nat):(bq k xs).flatten.length=k*xs.length:=by
 induction k with
 |zero=>simp
 |succ k ih=>rw[jD,n8,bS,ih,Fk,zd]
theorem AF:xZ X (binaryOp .Mult) acz:=by
 intro pins s σ H x y v u Q I i j h;obtain⟨l,k,xs,rfl,rfl,o,h1,h2,g,q⟩:=h;cases i;obtain⟨t,rfl⟩:=j;obtain⟨z,its,n,r,p,e⟩:=I.Hu o;have b:its.toArray.size*k.toNat<=sizeLine:=by rw[b9,<-p];exact g
 have c:¬its.toArray.size*k.toNat>(2 ^ 63-1) / 8:=by
  have:(sizeLine:Nat)<=(2 ^ 63-1) / 8:=.O
  omega
 have d:¬(!zK k)=true:=by
  rw[fitsIndex_both h1 h2];exact cX
 have w:¬uX (its.toArray.size*k.toNat)=true:=by
  rw[Hv b];exact cX
 have f:yT (λx1 x2=>x1++x2) #[] (bq (if its.toArray.isEmpty=true then 0 else k.toNat) its.toArray)=(bq k.toNat its).flatten.toArray:=by
  have A:∀m:Nat,yT (λx1 x2=>x1++x2) #[] (bq m its.toArray)=(bq m its).flatten.toArray:=λm=>by
   have:=foldl_rep its m [];rw[lX] at this;exact this
  rw[A];cases its with
  |nil=>simp
  |cons a r'=>rw[if_neg<|by simp]
 refine wpAny_binaryOp_repeat_ref (T:="list") (U:="int") .O ⟨_,e,rfl⟩ (λs'=>typeIs_int s' k t) noFill_list_mul F.fills_int_mul FR repeat_list F.slot_int_index.lookup
  (call_meets FR (typeIs_int s k t) F.entry_int_rmul (F.args_int_rmul_2 _ _) (int___rmul___int_list k t l its.toArray n)
   ⟨e,rfl,⟨_,e,rfl⟩,call_meets F.slot_list_mul ⟨_,e,rfl⟩ F.entry_list_mul (F.args_list_mul_2 _ _) (Om l its.toArray n k t d c w) ⟨e,?_⟩⟩)
 rw[f];exact⟨.ref _,_,I.aay (t':=s.toks) (r.rep k.toNat) (by rw[len_rep,Fm];exact g),rfl,q _ I.fresh⟩
end
theorem Vals.ints:∀{ns:.ak} {us:.u},Vals (ns.map V.int) us->IntsAre us ns
 |[],us,h=>by
  rw[l3] at h;cases h;exact IntsAre.nil
 |n::ns,us,h=>by
  rw[bP] at h;cases h with
  |cons r t=>
   obtain⟨k,rfl⟩:=r;exact IntsAre.cons n k<|Vals.ints t
theorem Vals.strs:∀{xs:.L} {us:.u},Vals (xs.map V.str) us->StrsAre us xs
 |[],us,h=>by
  rw[l3] at h;cases h;exact StrsAre.nil
 |x::xs,us,h=>by
  rw[bP] at h;cases h with
  |cons r t=>
   obtain⟨k,rfl⟩:=r;exact StrsAre.cons x k<|Vals.strs t
theorem Vals.bls:∀{bs:List Bool} {us:.u},Vals (bs.map V.bl) us->us=bs.map oB
 |[],us,h=>by
  rw[l3] at h;cases h;rfl
 |b::bs,us,h=>by
  rw[bP] at h;cases h with
  |cons r t=>
   cases r;rw[Vals.bls t,bP]
theorem Vals.aaA{a:Addr}{us:.u}(r:Vals [V.ref a] us):us=[br a]:=by
 cases r with
 |cons r t=>
  cases t;cases r;rfl
section
variable{prog:Program}{w:World}{A:Around}{E:.ac}{s:Shared}{l:Addr}{its:.u}{ns:.ak}{Q:.ac}
theorem Uj(d:.c5)(a:s.heap.IsList l its.toArray)(hi:IntsAre its ns)
  (h:∀h' tk t',(∀b o,.bx->.aQ=.i)->Q (.int ns.sum t') .c_):wpAny .ad A (call (.builtin "sum") [.aH]) Q E s:=by
 obtain⟨xs,e⟩:=hi.allInts.items;have c:numsOf (intItems xs).toList=ns:=by rw[<-e];exact hi.numsOf
 rw[nums_intItems] at c;rw[e] at a;refine PySem.sum_intListG d a λh' tk t' hk=>?_;have:=h h' tk t' hk;rw[preSum_eq,qC<|by simp,c];exact this
end
section
variable{X:Cx}
def acA(K:ah):.r->.aD:=λvs H Q=>∃(a:Addr) (ns:.ak),vs=[V.ref a]/\bh K H a (ns.map V.int)/\Q (.int ns.sum) H
theorem PX(b:.ce):o8 X (.builtin "sum") (acA X.K):=by
 intro pins s σ H vs us Q I r h;obtain⟨a,ns,rfl,hs,q⟩:=h;obtain⟨its,c,d,_⟩:=I.list hs;rw[Vals.aaA r];exact Uj (I.ok.hd b) d.isList c.ints λh' tk t' hk=>⟨.int _,H,I.kept hk,.Y,q⟩
theorem PY{prog:Program}{w:World}{A:Around}{E:.ac}{s:Shared}{l:Addr}{items:.aE}{Q:.ac}(a:s.heap.IsList l items)
  (h:∀s₂:Shared,s₂={ s with heap:=s.heap.push .fE }->
   (s₂.heap.IsListIter s.heap.objs.size l 0/\s₂.heap.IsList l items)->l≠s.heap.objs.size->Q .ba s₂):wpAny .ad A (pyIter .aH) Q E s:=by
 have b:l<s.heap.objs.size:=by obtain⟨_,e,_⟩:=a;exact aZ e
 exact wpAny_pyIter_list a<|h _ rfl ⟨ .ez,a.push _⟩<|cy b
theorem Hw{prog:Program}{w:World}{A:Around}{bs:List Bool}{its:.u}(e:its=bs.map oB):
  TruthOf prog w A (λi v=>its.toArray[i]?=.av) (λi=>bs.getD i false):=λi v s Q E hv d=>by
 have a:its[i]?=.av:=by simpa using hv
 rw[e,b8] at a;obtain⟨b,f,rfl⟩:=oI.mp a;have g:bs.getD i false=b:=by rw[List.getD_eq_getElem?_getD,f]<;>rfl
 have c:Q (bs.getD i false) s:=d;rw[g] at c;exact wpAny_truthy_bool c
theorem all_range:∀bs:List Bool,(a8 bs.length).all (λi=>bs.getD i false)=bs.all id
 |[]=>rfl
 |b::bs=>by
  rw[bB,yF,lY,jG,lY,<-all_range bs];all_goals rfl
def acB(K:ah):.r->.aD:=λvs H Q=>∃(a:Addr) (bs:List Bool),vs=[V.ref a]/\bh K H a (bs.map V.bl)/\Q (.bl<|bs.all id) H
theorem wV(g:.ce):o8 X (.builtin "all") (acB X.K):=by
 intro pins s σ H vs us Q I r h;obtain⟨a,bs,rfl,hs,q⟩:=h;obtain⟨its,i,j,_⟩:=I.list hs;rw[Vals.aaA r];have e:=i.bls;refine call_all_walk<|PY j.isList λs₂ k st d=>?_;subst k;refine⟨_,_,_,_,_,_,_,rfl,Walks.list (A:=X.A.in1) (I.ok.hd g) _ a d its.toArray,st,Hw e,λh' tk hk=>?_⟩;refine⟨.bl _,H,I.kept λb o f=>hk b o (λc=>?_)<|aY _ f,?_,q⟩
 ·rcases aH.mp c with l|c
  ·exact absurd (l▸aZ f)<|gQ _
  ·cases c
 ·show oB _=oB _;rw[<-all_range,e,b9,au]
end
mutual
inductive Dp(K:ah)(H:Hp):V->PyData->Prop
 |non:Dp K H .non .none
 |bl (b:Bool):Dp K H (.bl b) (.bool b)
 |int (i:Int):Dp K H (.int i) (.int i)
 |str (x:Str):Dp K H (.str x) (.str x)
 |lst {a:Addr} {xs:.r} {ds:List PyData}:.b2->AG K H xs ds->Dp K H .E (.list ds)
 |tup {a:Addr} {xs:.r} {ds:List PyData}:.cH->AG K H xs ds->Dp K H .E (.tuple ds)
inductive AG(K:ah)(H:Hp):.r->List PyData->Prop
 |nil:AG K H [] []
 |cons {v:V} {vs:.r} {d:PyData} {ds:List PyData}:Dp K H v d->AG K H vs ds->AG K H (v::vs) (d::ds)
end
section
variable{X:Cx}{pins:.U}{σ:St}{H:Hp}{s:Shared}
mutual
theorem Dp.reads(I:.D):∀(d:PyData) (v:V) (u:Value),Dp X.K H v d->RelV v u->∃as,Reads s.heap u d as
 |.none,_,_,h,r=>by
  cases h;cases r;exact⟨_,Reads.none⟩
 |.bool b,_,_,h,r=>by
  cases h;cases r;exact⟨_,Reads.bool b⟩
 |.int i,_,_,h,r=>by
  cases h;obtain⟨t,rfl⟩:=r;exact⟨_,Reads.int i t⟩
 |.str x,_,_,h,r=>by
  cases h;obtain⟨t,rfl⟩:=r;exact⟨_,Reads.str x t⟩
 |.list ds,_,_,h,r=>by
  cases h with
  |lst hs ha=>
   cases r;obtain⟨its,a,⟨o,n,c,e,_,f⟩,_⟩:=I.list hs;obtain⟨as,g⟩:=Dp.readsAll I ds _ its ha a;exact⟨_,Reads.list c e f g⟩
 |.tuple ds,_,_,h,r=>by
  cases h with
  |tup hs ha=>
   cases r;obtain⟨its,a,⟨o,c,e,n,f⟩,_⟩:=I.tuple hs;obtain⟨as,g⟩:=Dp.readsAll I ds _ its ha a;exact⟨_,Reads.tuple c e f g⟩
 |.dict _,_,_,h,_=>by cases h
theorem Dp.readsAll(I:.D):∀(ds:List PyData) (vs:.r) (us:.u),AG X.K H vs ds->Vals vs us->∃as,ReadsAll s.heap us ds as
 |[],_,_,h,r=>by
  cases h;cases r;exact⟨_,ME⟩
 |d::ds,_,_,h,r=>by
  cases h with
  |cons h1 h2=>
   cases r with
   |cons r1 r2=>
    obtain⟨as,a⟩:=Dp.reads I d _ _ h1 r1;obtain⟨bs,b⟩:=Dp.readsAll I ds _ _ h2 r2;exact⟨_,MD a b⟩
end
end
section
variable{X:Cx}
def acC(K:ah):R2:=λx y H Q=>∃d e,Dp K H x d/\Dp K H y e/\kW d=true/\kW e=true/\Q (.bl<|gX d e) H
def acD(K:ah):R2:=λx y H Q=>∃d e,Dp K H x d/\Dp K H y e/\kW d=true/\kW e=true/\Q (.bl<|!gX d e) H
theorem X2(a:X.A.units+64<cLine):xZ X (compareOp .Eq) (acC X.K):=by
 intro pins s σ H x y v u Q I b c h;obtain⟨d,e,f,g,sd,i,q⟩:=h;obtain⟨as,j⟩:=Dp.reads I d x v f b;obtain⟨bs,k⟩:=Dp.reads I e y u g c;exact SeqAt.compareEq_shaped j k sd i a ⟨.bl _,H,I,rfl,q⟩
theorem X3(a:X.A.units+64<cLine):xZ X (compareOp .NotEq) (acD X.K):=by
 intro pins s σ H x y v u Q I b c h;obtain⟨d,e,f,g,sd,i,q⟩:=h;obtain⟨as,j⟩:=Dp.reads I d x v f b;obtain⟨bs,k⟩:=Dp.reads I e y u g c;exact SeqAt.compareNe_shaped j k sd i a ⟨.bl _,H,I,rfl,q⟩
end
abbrev PZ(h:Heap)(c:Addr)(v:.br):Prop:=h.IsCell c v
def acE(a b:Scope):Scope:=
 { a with names:=a.names.map λ(n,k)=>if(k == .free&&b.kind == .function&&b.names.lookup n == .b7) then(n,.cell) else(n,k) }
def eK(cells:.a8):.de->.a8->.a8
 |[],acc=>acc
 |(n,k)::r,acc=>if k == .free then eK cells r ((n,(cells.lookup n).getD 0)::acc) else eK cells r acc
theorem vH(env:Env)(f:Str×NameKind->.a8->Sem (ForInStep<|List<|Str×Addr))
  (b:∀n k c,f (n,k) c=if k == .free then(do let a <-cellOf env n;pure<|.yield ((n,a)::c)) else pure<|.yield c):
  ∀(names:.de) (acc:.a8),(∀y∈names,y.2=.free->∃c,env.cells.lookup y.1=some c)->forIn names acc f=pure (eK env.cells names acc)
 |[],acc,_=>by rw[uA];rfl
 |(n,k)::r,acc,h=>by
  rw[yR,b];have d:=λacc=>vH env f b r acc λy i=>h y<|aV _ i;unfold eK;by_cases hk:(k == oO)=true
  ·rw[if_pos hk,if_pos hk];obtain⟨c,g⟩:=h (n,k) bf (by simpa using hk);have e:cellOf env n=pure c:=by unfold cellOf;rw[g]
   rw[e];have j:(env.cells.lookup n).getD 0=c:=by rw[g];rfl
   rw[j];exact d _
  ·rw[if_neg hk,if_neg hk];exact d _
theorem JB{a:Scope}{env:Env}(h:∀y∈a.names,y.2=.free->∃c,env.cells.lookup y.1=some c):closureFor a env=pure (eK env.cells a.names []):=by
 simp only[closureFor];rw[vH env _ (λn k c=>rfl) a.names [] h];rfl
theorem mem_lookup{α:Type}:∀{l:List (Str×α)} {n:Str} {c:α},(n,c)∈l->∃c',l.lookup n=some c'
 |(k,v)::r,n,c,h=>by
  rw[lW];cases a:n == k with
  |true=>exact .Y
  |false=>
   rcases aH.mp h with e|h
   ·cases e;simp at a
   ·exact mem_lookup h
theorem nB{cells:.a8}:∀{names:.de} {acc:.a8} {n:Str} {c:Addr},(n,c)∈eK cells names acc->(n,c)∈acc\/((n,.free)∈names/\c=(cells.lookup n).getD 0)
 |[],_,_,_,h=>.inl h
 |(m,k)::r,acc,n,c,h=>by
  unfold eK at h;split at h
  ·rename_i hk;have hk:k=.free:=by simpa using hk
   rcases nB h with h|⟨h1,h2⟩
   ·rcases aH.mp h with e|h
    ·cases e;exact .inr ⟨hk▸bf,rfl⟩
    ·exact .inl h
   ·exact .inr ⟨aV _ h1,h2⟩
  ·rcases nB h with h|⟨h1,h2⟩
   ·exact .inl h
   ·exact .inr ⟨aV _ h1,h2⟩
theorem rD{cells:.a8}:∀{names:.de} {acc:.a8} {p:Str×Addr},p∈acc->p∈eK cells names acc
 |[],_,_,h=>h
 |(m,k)::r,acc,p,h=>by
  unfold eK;split
  ·exact rD<|aV _ h
  ·exact rD h
theorem rE{cells:.a8}:∀{names:.de} {acc:.a8} {n:Str},(n,.free)∈names->(n,(cells.lookup n).getD 0)∈eK cells names acc
 |(m,k)::r,acc,n,h=>by
  unfold eK;rcases aH.mp h with e|h
  ·cases e;exact rD bf
  ·split
   ·exact rE h
   ·exact rE h
theorem pb:∀{names:.de} {h:Heap} {acc:.a8} {x:Str} {c:Addr},(x,c)∈cellsFrom h.objs.size names acc->
  (x,c)∈acc\/((x,.cell)∈names/\h.objs.size<=c/\PZ (pushCells h names) c none)
 |[],_,_,_,_,h=>.inl h
 |(n,k)::r,h,acc,x,c,a=>by
  unfold cellsFrom at a;unfold pushCells;split at a
  ·rename_i hk;rw[if_pos hk];have hk:k=.cell:=by simpa using hk
   rw[<-dB h { cls:=.type "cell",data:=.cell none }] at a;rcases pb a with a|⟨h1,h2,b⟩
   ·rcases aH.mp a with e|a
    ·cases e;exact .inr ⟨hk▸bf,aG _,_,pushCells_keeps r _ _ _<|cY _ rfl,rfl⟩
    ·exact .inl a
   ·rw[dB] at h2;exact .inr ⟨aV _ h1,uG h2,b⟩
  ·rename_i hk;rw[if_neg hk];rcases pb a with a|⟨h1,h2,b⟩
   ·exact .inl a
   ·exact .inr ⟨aV _ h1,h2,b⟩
theorem sC:∀{names:.de} {n:Nat} {acc:.a8} {p:Str×Addr},p∈acc->p∈cellsFrom n names acc
 |[],_,_,_,h=>h
 |(m,k)::r,n,acc,p,h=>by
  unfold cellsFrom;split
  ·exact sC<|aV _ h
  ·exact sC h
theorem wW:∀{names:.de} {n:Nat} {acc:.a8} {x:Str},(x,.cell)∈names->∃c,(x,c)∈cellsFrom n names acc
 |(m,k)::r,n,acc,x,h=>by
  unfold cellsFrom;rcases aH.mp h with e|h
  ·cases e;exact⟨n,sC bf⟩
  ·split
   ·exact wW h
   ·exact wW h
theorem wX:∀{names:.de} {h:Heap} {acc:.a8} {x y:Str} {c:Addr},(∀p∈acc,p.2<h.objs.size)->(∀x y c,(x,c)∈acc->(y,c)∈acc->x=y)->
  (x,c)∈cellsFrom h.objs.size names acc->(y,c)∈cellsFrom h.objs.size names acc->x=y
 |[],_,_,_,_,_,_,hi,h1,h2=>hi _ _ _ h1 h2
 |(n,k)::r,h,acc,x,y,c,hl,hi,h1,h2=>by
  unfold cellsFrom at h1 h2;split at h1
  ·rename_i hk;rw[if_pos hk] at h2;rw[<-dB h { cls:=.type "cell",data:=.cell none }] at h1 h2;refine wX (h:=h.push _) (λp hp=>?_) (λx y c a b=>?_) h1 h2
   ·rw[dB];rcases aH.mp hp with rfl|hp
    ·exact l7 _
    ·exact kM<|hl p hp
   ·rcases aH.mp a with e|a<;>rcases aH.mp b with d|b
    ·cases e;cases d;rfl
    ·cases e;exact absurd (hl _ b)<|gQ _
    ·cases d;exact absurd (hl _ a)<|gQ _
    ·exact hi _ _ _ a b
  ·rename_i hk;rw[if_neg hk] at h2;exact wX hl hi h1 h2
theorem Hx{M:Model}{A:Around}{E:.ac}{s:Shared}{a:Scope}{e:Addr}{b:.a8}{g:Str}{i:.bS}{j:Value}{f:Env}{d:Addr}{Q:Env->.aT}
  (h:Q (newEnv a s.heap.objs.size e (cellsFrom .aW a.names b) g i j (some f) d)
   { s with heap:=pushCells .cc a.names }):
  wpAny M A (newFunctionEnv a e b [] g i j (some f) d) Q E s:=by
 simp only[newFunctionEnv,Gb,if_true];refine wpAny_bind<|wpAny_alloc ?_;refine wpAny_bind<|wpAny_layCells _ (λn k c=>rfl) a.names b _ _ ?_;rw[show ({ s with heap:=.cc }:Shared).heap.objs.size=.aW from dB ..];rw[uA];exact wpAny_bind<|wpAny_pure<|wpAny_pure h
theorem rF{a:Scope}:∀{names:.de} {x:Str} {k:NameKind},
  (names.map λ(n,k)=>if(k == oO&&a.kind == .function&&a.names.lookup n == .b7) then(n,zL) else(n,k)).lookup x=some k->
  ∃d,names.lookup x=.aS/\(k=d\/(d=.free/\k=.cell))
 |[],_,_,h=>.b0
 |(n,k₀)::r,x,k,h=>by
  have e:=@rF a r x k;have h':kI x ((if .fy then(n,zL) else(n,k₀))::(r.map _))=some k:=h
  cases c:x == n with
  |true=>
   simp only[lW,c];by_cases b:.fy
   ·rw[if_pos b] at h';simp only[lW,c] at h';cases h';simp only[cn,beq_iff_eq] at b;exact⟨k₀,rfl,.inr ⟨b.1.1,rfl⟩⟩
   ·rw[if_neg b] at h';simp only[lW,c] at h';cases h';exact⟨_,rfl,.ar⟩
  |false=>
   simp only[lW,c];by_cases b:.fy
   ·rw[if_pos b] at h';simp only[lW,c] at h';exact e h'
   ·rw[if_neg b] at h';simp only[lW,c] at h';exact e h'
structure Hy(N:.L)(sc scope:Scope)(own:List (Str×Nat)):Prop where
 kind:scope.kind=.function
 uniq:∀y∈scope.names,scope.names.lookup y.1=some y.2
 ix:∀p∈own,N[p.2]?=some p.1
 free:∀y∈scope.names,y.2=.free->sc.names.lookup y.1=.b7\/sc.names.lookup y.1=some .free
 own:∀y∈scope.names,y.2=.local\/y.2=.cell->y.1∈own.map (·.1)\/y.1∉N
def wipe(σ:St):.e->St
 |[]=>σ
 |v::vs=>(.bm).set v none
theorem rG(σ:St):∀vs:.e,(.bm).length=σ.length
 |[]=>rfl
 |v::vs=>by unfold wipe;rw[fz,rG σ vs]
theorem wY{σ:St}{i:Nat}{x:V}:∀{vs:.e},.bm[i]?=some .v->σ[i]?=some .v/\i∉vs
 |[],h=>⟨h,.m⟩
 |v::vs,h=>by
  unfold wipe at h;by_cases hi:v=i
  ·subst hi;by_cases hv:v<(.bm).length
   ·rw[gI hv] at h;cases h
   ·rw[fu<|by simpa using hv] at h;cases h
  ·rw[fQ hi] at h;obtain⟨h1,h2⟩:=wY h;exact⟨h1,by simp only[aH,not_or];exact⟨λe=>hi e.symm,h2⟩⟩
abbrev Cx.blk(X:Cx)(s:Shared)(H:Hp)(scope:Scope)(cenv:Env)(fp:.B):Cx:={ X with wL:=s,TF:=H,env:=cenv,outer:=X.stack,ex:=fp,fn:=λx=>scope.names.lookup x == .b7,pn:=[],xe:=λ_ _=>False }
section
variable{X:Cx}{pins:.U}{σ:St}{H:Hp}{s:Shared}
theorem Hz{d:Scope}{own:List (Str×Nat)}{P:.B}(I:.D)(ok:Hy X.N X.env.scope d own)(W:X.N.Nodup)(g:∀b∈P,xY X pins H b/\b<s.heap.objs.size):
  Inv (X.blk s H d (compEnvC d (cellsFrom .aW d.names<|eK X.env.cells d.names []) s.heap.objs.size X.env) P) [] (wipe σ<|own.map (·.2)) H { s with heap:=pushCells .cc d.names }:=by
 have D:∀y∈d.names,y.2=.free->∃c,X.env.cells.lookup y.1=some c:=λy u e=>by
  rcases ok.free y u e with k|k
  ·exact I.ok.has _<|.inl k
  ·exact I.ok.has _<|.inr k
 generalize G:compEnvC d (cellsFrom .aW d.names<|eK X.env.cells d.names []) s.heap.objs.size X.env=cenv;have L:∀b o,.bx->(pushCells .cc d.names).get? b=.i:=λb o e=>pushCells_keeps _ _ _ _<|aY _ e;have M:cenv.locals=s.heap.objs.size:=by rw[<-G];rfl
 have f:cenv.cells=cellsFrom .aW d.names (eK X.env.cells d.names []):=by rw[<-G];rfl
 have E:cenv.scope=acE d X.env.scope:=by rw[<-G];rfl
 rw[<-dB s.heap .bi] at f;have J:∀{y c},(y,c)∈eK X.env.cells d.names []->X.env.cells.lookup y=some c/\c<s.heap.objs.size:=λ{y c} h=>by
  rcases nB h with h|⟨h1,rfl⟩
  ·cases h
  ·obtain⟨c,U⟩:=D _ h1 rfl;rw[U];obtain⟨w,z⟩:=I.cell _ _ U;exact⟨rfl,z.lt⟩
 have mem:∀{y c},.dv->(X.env.cells.lookup y=some c/\c<s.heap.objs.size)\/(.aW<=c/\PZ (pushCells .cc d.names) c none):=λ{y c} e=>by
  rw[f] at e;rcases pb (fH e) with h|⟨_,h2,Y⟩
  ·exact .inl<|J h
  ·rw[dB] at h2;exact .inr ⟨h2,Y⟩
 have look:∀{y},d.names.lookup y=some .free->∃c,.dv/\X.env.cells.lookup y=some c:=λ{y} O=>by
  have u:(y,oO)∈d.names:=fH O;obtain⟨c',j⟩:=mem_lookup<|sC (names:=d.names) (n:=(.cc).objs.size)<|rE (cells:=X.env.cells) (acc:=[]) u;rw[<-f] at j;refine⟨c',j,?_⟩;rw[f] at j;rcases pb (fH j) with h|⟨h1,_,_⟩
  ·exact(J h).1
  ·have:=ok.uniq _ h1;rw[O] at this;cases this
 have Q:(X.blk s H d cenv P).Ok:=by
  refine⟨I.ok.mod,by show cenv.scope.kind=_;rw[E];exact ok.kind,by show cenv.globals=_;rw[<-G];exact I.ok.glob,by show cenv.builtins=_;rw[<-G];exact I.ok.blt,by show s.heap.objs.size<=cenv.locals;rw[M];exact aG _,
   λy z c x A=>?_,λy u=>?_,λy c z e=>?_,I.ok.hd,I.ok.frames,.ar,λb B=>⟨?_,λy c e z=>?_⟩,I.bs,bK I.ok.Kw I.sz,λb o e B=>?_,λb B z=>?_,I.stack,I.ym⟩
  ·have x:.dv:=x;have A:cenv.cells.lookup z=some c:=A;rw[f] at x A;refine wX (λp hp=>?_) (λy z c a b=>I.ok.inj y z c (J a).1 (J b).1) (fH x)<|fH A;rw[dB];exact kM (J (y:=p.1) (c:=p.2) hp).2
  ·show ∃c,.dv;have l:∀k,cenv.kindOf y=some k->(k=.cell\/k=.free)->∃c,.dv:=λk hk F=>by
    unfold Env.kindOf at hk;rw[E] at hk;obtain⟨C,e,r⟩:=rF hk;have:C=.cell\/C=.free:=by
     rcases r with rfl|⟨rfl,_⟩
     ·exact F
     ·exact .inr rfl
    rcases this with rfl|rfl
    ·obtain⟨c,h⟩:=wW (n:=(.cc).objs.size) (acc:=eK X.env.cells d.names [])<|fH e;obtain⟨c',j⟩:=mem_lookup h;exact⟨c',by rw[f];exact j⟩
    ·obtain⟨c,h1,_⟩:=look e;exact⟨c,h1⟩
   rcases u with u|u
   ·exact l _ u<|.inl rfl
   ·exact l _ u<|.inr rfl
  ·have z:(d.names.lookup y == some zL)=true:=z;have z:d.names.lookup y=.b7:=.c3
   have e:.dv:=e;rw[f] at e;rcases pb (fH e) with h|⟨_,h2,_⟩
   ·rcases nB h with h|⟨h1,_⟩
    ·cases h
    ·have q:=ok.uniq _ h1;rw[z] at q;cases q
   ·rw[dB] at h2;exact uG h2
  ·show b≠cenv.locals;rw[M];exact cy (g b B).2
  ·have e:.dv:=e;rcases mem e with⟨h1,_⟩|⟨h1,_⟩
   ·exact(g b B).1.2.2.2.2.1 y c h1 z
   ·have h2:.aW<=b:=by rw[<-z];exact h1
    exact absurd (eQ (g b B).2<|uG h2)<|gQ _
  ·rcases (g b B).1.2.2.2.1 with z|z
   ·exact I.ok.o7 b o e z
   ·exact absurd (eQ (aZ e)<|bK I.ok.Kw z)<|gQ _
  ·rcases aH.mp (I.wM b z) with z|z
   ·exact(g b B).1.2.1 z
   ·exact(g b B).1.2.2.1 z
 refine⟨Q,rfl,I.bare,Un.kept L,⟨λ_=>none,?_,λi y Z x A t=>?_⟩,λy c e=>?_,?_,λy c e=>?_,λp hp=>?_,I.hok.kept L,by rw[rG];exact I.len⟩
 ·show Heap.Ns _ cenv.locals _;rw[M];exact Heap.Ns.keeps (Heap.Ns.new ..) λb o e=>pushCells_keeps _ _ _ _ e
 ·obtain⟨A,R⟩:=wY A;have v:d.names.lookup y=some .free/\(cenv.kindOf y=.b7\/cenv.kindOf y=some .free):=by
   have l:∀k,cenv.scope.names.lookup y=some k->k=.local\/k=.cell\/k=.free->d.names.lookup y=some .free/\(cenv.kindOf y=.b7\/cenv.kindOf y=some .free):=λk hk F=>by
    have K:=hk;rw[E] at hk;obtain⟨C,e,r⟩:=rF hk;have V:¬(C=.local\/C=.cell):=λhh=>by
     rcases ok.own _ (fH e) hh with j|j
     ·obtain⟨p,hp,S⟩:=b6.mp j;have t:=ok.ix p hp;have:p.1=y:=S;rw[this] at t;exact R<|b6.mpr ⟨p,hp,Aj W t x⟩
     ·exact j<|bc x
    rcases r with rfl|⟨rfl,rfl⟩
    ·rcases F with rfl|rfl|rfl
     ·exact absurd .ar V
     ·exact absurd (.inr rfl) V
     ·exact⟨e,.inr K⟩
    ·exact⟨e,.inl K⟩
   have t:ZU cenv.scope y:=t;rcases t with t|t|t
   ·exact l _ t<|.inl rfl
   ·exact l _ t<|.inr<|.inl rfl
   ·exact l _ t<|.inr<|.inr rfl
  obtain⟨m,hn,O⟩:=I.loc;have T:ZU X.env.scope y:=(ok.free _ (fH v.1) rfl).elim (λk=>.inr<|.inl k) λk=>.inr<|.inr k;obtain⟨w,r,q⟩:=O i y Z x A T;refine⟨w,r,.inr ⟨v.2,?_⟩⟩;obtain⟨c,h1,h2⟩:=look v.1;rcases q with⟨k,_⟩|⟨_,c',j,z⟩
  ·have k:X.env.scope.names.lookup y=some .local:=k;rcases ok.free _ (fH v.1) rfl with C|C<;>rw[show X.env.scope.names.lookup y=_ from C] at k<;>cases k
  ·rw[h2] at j;cases j;exact⟨c,h1,z.keeps L⟩
 ·have e:.dv:=e;rcases mem e with⟨h1,_⟩|⟨_,z⟩
  ·obtain⟨w,z⟩:=I.cell y c h1;exact⟨w,z.keeps L⟩
  ·exact⟨_,z⟩
 ·show H cenv.locals=none;rw[M];exact I.hok.fresh<|aG _
 ·have e:.dv:=e;rcases mem e with⟨h1,_⟩|⟨h1,_⟩
  ·exact I.lq y c h1
  ·exact I.hok.fresh<|uG h1
 ·exact absurd (show p∈([]:.U)++[] from hp)<|by simp
theorem X6{E:.ac}{D:Addr}{xs:.r}{y:V}{v:Value}{Q:.ac}(I:.D)(c:H D=.aZ)(f:xs.length<sizeLine)(r:RelV y v)
  (h:∀s',Inv X pins σ (upd H D<|.lst<|xs++[y]) s'->Q .none s'):wpAny .af X.A (call (.builtin "list.append") [.bw,v]) Q E s:=by
 obtain⟨g,its,n,d,e⟩:=I.hok D _ c;have k:=d.length;refine append_at (hsz:=by rw[b9];omega) e λh' i a=>?_;refine h .cO (I.write (t':=s.toks) (by rw[c];trivial) .ar (λb u j q=>(i.2 b j).trans q) ⟨_,a⟩ ⟨by rw[bS];exact f,its++[v],n+1,d.append<|.cons r .nil,?_⟩);rw[a];simp
def PTs(X:Cx)(a:.aU)(t:TT):Prop:=
 ∀(pins:.U) (s:Shared) (σ:St) (H:Hp) (Q:Bool->.Z),.D->t σ H Q->
  wpAny .af X.A (forIn a true λc r=>if r=true then do let ok <-isTrue c X.env (eval c X.env);pure (vb ok) else pure<|vb r) (TP X pins σ Q) X.xe s
def P4:TT:=λ_ H Q=>Q true H
theorem eB:PTs X [] P4:=λ_ _ _ H _ I h=>wpAny_tests_nil ⟨H,I,h⟩
theorem lJ{c:Expr}{t:TT}(h:PT X c t):PTs X [c] t:=λpins s σ H Q I a=>wpAny_tests_one<|h pins s σ H Q I a
end
theorem M4{α:Type}{t:Sem α}{Q b:α->.aT}{M:Model}{A:Around}{E:.ac}{s:Shared}(h:wpAny M A t Q (λ_ _=>False) s)(c:∀a s,Q a s->b a s):wpAny M A t b E s:=wpAny_mono h c λ_ _ z=>de z
theorem DL{prog:Program}{w:World}{A:Around}{R:Result->.aT}{s:Shared}{f a d:Expr}{g:.aU}{b:Scope}{pos:Pos}{i acc:Value}{env:Env}(I:Nat->.aT)
  (turn:∀n s,I n s->wpAny .ad A (pyNext i) (λr s₁=>match r with
   |none=>R (.ok .next) s₁
   |some v=>wpAny .ad A (letOwnedTupleGo a i v) (λ_ s₁'=>wpAny .ad A (assign a env v) (λ_ s₂=>
     wpAny .ad A (forIn g true λc r=>if r=true then do let ok <-isTrue c env (eval c env);pure (vb ok) else pure (vb r)) (λok s₃=>
      if ok=true then wpAny .ad A (eval f env) (λx s₄=>
       wpAny .ad A (call (.builtin "list.append") [acc,x]) (λ_ s₅=>∃m,m<n/\I m s₅) .ek s₄) .ek s₃
      else ∃m,m<n/\I m s₃) .ek s₂) .ek s₁') .ek s₁) .ek s)
  (n:Nat) (h:I n s):
  codeAny .ad A (.compLoop (.ListComp f [⟨a,d,g,0⟩] b pos) 0 i acc env) R s:=by
 refine codeAny_loop rfl I (λn s j=>?_) n h;show wpAny _ A ((compTurn (.ListComp f [⟨a,d,g,0⟩] b pos) 0 i acc env).onRaise (λx=>do noteFrame x env;theTreesLotGoes x)) _ _ s
 refine wpAny_noted ?_;rw[compTurn_list];refine wpAny_bind<|wpAny_standAt<|wpAny_bind<|wpAny_mono (turn n s j) (λr s₁ h₁=>?_) λ_ _ h'=>h';cases r with
 |none=>exact wpAny_pure h₁
 |some v=>
  refine wpAny_bind<|wpAny_mono h₁ (λ_ s₁' h₁'=>?_) λ_ _ h'=>h';refine wpAny_bind<|wpAny_mono h₁' (λ_ s₂ h₂=>wpAny_bind<|wpAny_mono h₂ (λok s₃ h₃=>?_) λ_ _ h'=>h') λ_ _ h'=>h';cases ok with
  |false=>exact wpAny_pure ⟨rfl,h₃⟩
  |true=>
   exact wpAny_bind<|wpAny_bind<|wpAny_mono h₃ (λx s₄ h₄=>wpAny_bind<|wpAny_mono h₄ (λ_ s₅ h₅=>wpAny_pure<|wpAny_pure ⟨rfl,h₅⟩) λ_ _ h'=>h') λ_ _ h'=>h'
section
variable{X:Cx}
def tLc(f:TI)(g:TG)(h:TT)(te:TE)(vs:.e):TE:=λσ H Q=>f σ H λJ H1=>∀D,H1 D=none->∃W:Nat->Nat->.Z,.eR/\∀i m H,W i m H->
 (J.stop i H/\Q .bw H)\/(J.go i H/\∃a:.Z,(∀H',a H'->∃c,c<m/\W (i+1) c H')/\∀x H',J.BB i H x H'->g x .bm H' λσ2 H2=>.dE/\h σ2 H2 λb d=>
  if b=true then te σ2 d λy e=>∃acc,e D=some (.lst acc)/\acc.length<sizeLine/\a (upd e D (.lst (acc++[y]))) else a d)
theorem KO{pins:.U}{s:Shared}{σ:St}{H:Hp}{Q:VK}{B tg l:Expr}{E:.aU}{a:Scope}{own:List (Str×Nat)}{pos pos':Pos}{wi:TI}{g:TG}{tt:TT}{te:TE}{use:Option (Value->Sem Unit)}{Qf:.ac}
  (hc:.ce) (hN:X.N.Nodup) (I:.D) (hi:PI X tg l wi) (ok:Hy X.N X.env.scope a own)
  (hg:∀(s:Shared) (H:Hp) (C:Addr) (cl:.a8) (d:.B),PG (X.blk s H a .eA d) tg g) (ht:∀(s:Shared) (H:Hp) (C:Addr) (cl:.a8) (d:.B),PTs (X.blk s H a .eA d) E tt)
  (he:∀(s:Shared) (H:Hp) (C:Addr) (cl:.a8) (d:.B),PE (X.blk s H a .eA d) B te) (hs:∀x,foldedSetIterable l X.env x=pure x)
  (h:tLc wi g tt te (own.map (·.2)) σ H Q)
  (hRR:∀D C s' m H',.df->Q .bw H'->s'.heap.Ns C m->xY X pins H' C->compPost .af X.A X.xe use Qf .bw C (.ok .next) s'):
  wpAny .af X.A (comprehension (.ListComp B [⟨tg,l,E,0⟩] a pos) a X.env pos' (newList []) false (eval l X.env) use) Qf X.xe s:=by
 have G:∀y∈a.names,y.2=.free->∃c,X.env.cells.lookup y.1=some c:=λy hy e=>by
  rcases ok.free y hy e with k|k
  ·exact I.ok.has _<|.inl k
  ·exact I.ok.has _<|.inr k
 refine wpAny_comprehension_free (use:=use) rfl hs (JB G) ok.kind (λy hy e=>by rw[ok.uniq y hy,e])
  (eF .eF λxv s1 hx=>eF hx λitv O h2=>?_)
 obtain⟨it,d,tn,J,H2,e,I2,T,U,f2,q⟩:=h2;subst e;refine wpAny_newObj_type (Hx ?_) (by show 0<=sizeLine;decide);generalize hD:O.heap.objs.size=D;have hDn:H2 D=none:=I2.hok.fresh<|jJ hD;obtain⟨W,⟨m0,w0⟩,turn⟩:=q D hDn;generalize V:({ O with heap:=O.heap.push { cls:=.bB,data:=.seq ([]:.u).toArray } }:Shared)=s3;have I3:Inv X pins σ (upd H2 D<|.lst []) s3:=by
  rw[<-V];refine I2.laid (t':=O.toks) (λb o e=>aY _ e) (jJ hD) ⟨bj _,[],0,.nil,?_⟩;rw[<-hD];exact cY _ rfl
 have h3:s3.heap=O.heap.push { cls:=.bB,data:=.seq ([]:.u).toArray }:=by rw[<-V]
 have sz:∀b∈d,b<O.heap.objs.size:=λb f=>by
  obtain⟨o,e,_⟩:=T.obj _ _ U b f;exact aZ e
 have K:∀b∈d,xY X pins (upd H2 D<|.lst []) b/\b<s3.heap.objs.size:=λb f=>by
  have Y:=sz b f;refine⟨⟨?_,(f2 b f).2⟩,by rw[h3,dB];exact kM Y⟩;rw[aq (by rw[<-hD];exact cy Y)];exact(f2 b f).1
 have st3:tn 0 s3.heap:=T.keep _ _ _ U λb _ o e=>by rw[h3];exact aY _ e
 have I4:=Hz I3 ok hN K;have pg:=hg s3 (upd H2 D<|.lst []) s3.heap.objs.size .eH d;have pt:=ht s3 (upd H2 D<|.lst []) s3.heap.objs.size .eH d;have pe:=he s3 (upd H2 D<|.lst []) s3.heap.objs.size .eH d;show codeAny _ _ (.compStart (.ListComp B [⟨tg,l,E,0⟩] a pos) 0 (.ref it) .bw<|compEnvC a .eH s3.heap.objs.size X.env) (compPost .af X.A X.xe use Qf .bw s3.heap.objs.size) { s3 with heap:=pushCells (s3.heap.push .bi) a.names };have Z:∀b∈d,(upd H2 D<|.lst []) b=none:=λb f=>(K b f).1.1;generalize hce:compEnvC a .eH s3.heap.objs.size X.env=ce at I4 pg pt pe ⊢;have cL:ce.locals=s3.heap.objs.size:=by subst hce;rfl
 generalize hH3:upd H2 D (.lst [])=H3 at I3 I4 pg pt pe w0 Z K;generalize hs4:({ s3 with heap:=pushCells (s3.heap.push .bi) a.names }:Shared)=s4 at I4 ⊢;have st4:tn 0 s4.heap:=T.keep _ _ _ st3 λb _ o e=>by rw[<-hs4];exact pushCells_keeps _ _ _ _<|aY _ e
 have t:∀{σ':St} {H':Hp} {s':Shared},Inv .dM [] σ' H' s'->(∀b∈d,H' b=none)->∀b∈d,xY .dM [] H' b:=λ{σ' H' s'} P R b f=>
  ⟨R b f,(P.ok.XD b f).1,P.ok.Hj b f,.inl f,λx c e=>(P.ok.XD b f).2 x c e,λp hp=>absurd (show p∈([]:.U)++[] from hp)<|by simp⟩
 have F:codeAny .af X.A (.compLoop (.ListComp B [⟨tg,l,E,0⟩] a pos) 0 (.ref it) .bw ce) (compPost .af X.A X.xe use Qf .bw s3.heap.objs.size) s4:=by
  refine DL (λn s'=>∃i H',Inv .dM [] (wipe σ<|own.map (·.2)) H' s'/\tn i s'.heap/\(∀b∈d,H' b=none)/\W i n H') ?_ m0 ⟨0,H3,I4,st4,Z,w0⟩;rintro n s5 ⟨i,L,I5,st5,n5,w5⟩;rcases turn i n L w5 with⟨stop,qq⟩|⟨go,Nx,hNx,step⟩
  ·have td:=T.done .dM rfl rfl rfl hc i [] s5 _ L (λ_ _=>False) I5 (t I5 n5) st5 stop;refine M4 td λr s6 ⟨hr,S⟩=>?_;subst hr;have I7:Inv X pins σ L s6:=I3.call' (ch:=d) S.os S.base S.hok S.bare λb f=>⟨(K b f).1.2.2.2.1,(K b f).1.2.1,(K b f).1.2.2.2.2.1,(K b f).1.2.2.2.2.2⟩;have nC:L s3.heap.objs.size=none:=by
    have z:L ce.locals=none:=S.free;rw[cL] at z;exact z
   obtain⟨m,R,_⟩:=S.loc;have R:s6.heap.Ns ce.locals m:=R;rw[cL] at R;exact hRR D s3.heap.objs.size s6 m L I7 qq R<|I3.Jr (aG _) nC
  ·have ti:=T.item .dM rfl rfl rfl hc i [] s5 _ L (λ_ _=>False) I5 (t I5 n5) st5 go;refine M4 ti λr s6 ⟨u,hr,h6⟩=>?_;subst hr;refine M4 h6 λ_ s7 ⟨x,H7,I7,r7,y7,M,n7⟩=>?_;have I7':=I7.pinned (t I7 n7)<|T.obj _ _ M;refine M4 (pg _ s7 _ H7 x u _ I7' r7<|step x H7 y7) λ_ s8 ⟨σ8,H8,I8,hw8,q8⟩=>?_;refine M4 (pt _ s8 σ8 H8 _ I8 q8) λb s9 ⟨H9,I9,q9⟩=>?_;have fin:∀{s':Shared} {H':Hp},Inv .dM ([]++Ao d s7.heap) σ8 H' s'->Nx H'->∃m,m<n/\∃i H',Inv .dM [] (wipe σ<|own.map (·.2)) H' s'/\tn i s'.heap/\(∀b∈d,H' b=none)/\W i m H':=λ{s' H'} P nx=>by
    obtain⟨m',hm,w'⟩:=hNx H' nx;have aaB:∀b∈d,∀o,s7.heap.get? b=.i->s'.heap.get? b=.i/\H' b=none:=λb f o e=>
     let z:=P.pin (b,o)<|eP _<|eP _<|tG f e;⟨z.1,z.2.1⟩
    have hl:(wipe σ<|own.map (·.2)).length=σ8.length:=by rw[<-hw8,rG]
    refine⟨m',hm,i+1,H',(P.vB (pins:=[])).weak hl λj v e=>?_,T.keep _ _ _ M λb f o e=>(aaB b f o e).1,λb f=>?_,w'⟩
    ·rw[<-hw8] at e;exact(wY e).1
    ·obtain⟨o,e,_⟩:=T.obj _ _ M b f;exact(aaB b f o e).2
   cases b with
   |false=>
    simp only[ze,if_false] at q9 ⊢;exact fin I9 q9
   |true=>
    simp only[if_true] at q9 ⊢;refine M4 (pe _ s9 σ8 H9 _ I9 q9) λz ZY ⟨yv,H10,I10,r10,acc,acG,acH,nx⟩=>?_;exact X6 (X:=.dM) I10 acG acH r10 λs11 I11=>fin I11 nx
 exact codeAny_compStart_list F<|T.self X.A 0 _ _ _ st4 F
theorem gH{d tg c:Expr}{i:.aU}{a:Scope}{own:List (Str×Nat)}{pos:Pos}{k:TI}{g:TG}{l:TT}{te:TE}(n:.ce)(p:X.N.Nodup)(hi:PI X tg c k)(ok:Hy X.N X.env.scope a own)
  (r:∀(s:Shared) (H:Hp) (C:Addr) (cl:.a8) (j:.B),PG (X.blk s H a .eA j) tg g) (ht:∀(s:Shared) (H:Hp) (C:Addr) (cl:.a8) (j:.B),PTs (X.blk s H a .eA j) i l)
  (t:∀(s:Shared) (H:Hp) (C:Addr) (cl:.a8) (j:.B),PE (X.blk s H a .eA j) d te) (hs:∀x,foldedSetIterable c X.env x=pure x:=by intro _;rfl):
  PE X (.ListComp d [⟨tg,c,i,0⟩] a pos) (tLc k g l te<|own.map (·.2)):=by
 intro pins s σ H Q I h;rw[eval_ListComp];refine KO n p I hi ok r ht t hs h λD C s' m H' u q v f=>⟨m,v,λw y=>?_⟩;obtain⟨z,A,J,B,E,F⟩:=f;exact⟨ .bw,H',u.turned (t':=s'.toks) (λb o G e=>(y.2 b G).trans e) z A B E F,rfl,q⟩
theorem rH{i:Nat}{y:Str}{r:Pos}{k tg d:Expr}{j:.aU}{c:Scope}{own:List (Str×Nat)}{pos l:Pos}{t:TI}{g:TG}{u:TT}{te:TE}(K:.ce)(F:X.N.Nodup)(M:X.N[i]?=.ao)(n:X.env.scope.names.lookup y=some .local)
  (w:swapsWith (.ListComp k [⟨tg,d,j,0⟩] c pos) (some<|.Name y r) l.line X.env=pure true) (hi:PI X tg d t) (ok:Hy X.N X.env.scope c own)
  (O:∀(s:Shared) (H:Hp) (C:Addr) (cl:.a8) (p:.B),PG (X.blk s H c (compEnvC c cl C X.env) p) tg g) (ht:∀(s:Shared) (H:Hp) (C:Addr) (cl:.a8) (p:.B),PTs (X.blk s H c (compEnvC c cl C X.env) p) j u)
  (P:∀(s:Shared) (H:Hp) (C:Addr) (cl:.a8) (p:.B),PE (X.blk s H c (compEnvC c cl C X.env) p) k te) (hs:∀x,foldedSetIterable d X.env x=pure x:=by intro _;rfl):
  PS X (.Assign [.Name y r] (.ListComp k [⟨tg,d,j,0⟩] c pos) l) (Pu (tLc t g u te<|own.map (·.2))<|Am i):=by
 intro pins s σ H D I h;rw[exec_Assign_Name_used _ _ _ _ w];refine wpAny_bind<|wpAny_standAt<|wpAny_bind ?_;show wpAny _ X.A (do let _ <-comprehension (.ListComp k [⟨tg,d,j,0⟩] c pos) c X.env (firstIterPos [⟨tg,d,j,0⟩] pos) (newList []) false (eval d X.env) (some<|assign (.Name y r) X.env)) _ _ s
 have h:tLc t g u te (own.map (·.2)) σ H (λx H1=>Am i x σ H1 D.nx):=h;refine wpAny_bind<|eF (KO (Qf:=λ_ s'=>SP X pins D .next s') K F I hi ok O ht P hs h λL C s' m H' Q q R f=>?_) λ_ s' S=>wpAny_pure<|wpAny_pure S;show wpAny _ _ (assign (.Name y r) X.env<|.ref L) _ _ _;refine wpAny_assign_Name<|Cq (v:=V.ref L) Q F M (.inl n) rfl (λT U ⟨a,W,Y⟩=>?_)<|.inr n;obtain⟨Z,G,f2,f3,J,f5⟩:=f;have B:C≠a:=by
  rcases Y with z|z
  ·rw[z];exact G
  ·exact λe=>J y a z e.symm
 refine⟨m,R.sameBut W B,λh3 E=>?_⟩;exact⟨_,H',U.turned (t':=T.toks) (λb o hb e=>(E.2 b hb).trans e) Z G f3 J f5,q⟩
end
def iP(N:.L)(b a:Scope)(own:List (Str×Nat)):Bool:=
 (match a.kind with|.function=>true|_=>false)&&(a.names.all λy=>decide (a.names.lookup y.1=some y.2))&&(own.all λp=>decide (N[p.2]?=some p.1))&&
  (a.names.all λy=>match y.2 with
   |.free=>(match b.names.lookup y.1 with|some .cell=>true|some .free=>true|_=>false)
   |.local=>decide (y.1∈own.map (·.1))||decide (y.1∉N)
   |.cell=>decide (y.1∈own.map (·.1))||decide (y.1∉N)
   |_=>true)
theorem bO{N:.L}{c a:Scope}{own:List (Str×Nat)}(h:iP N c a own=true):Hy N c a own:=by
 unfold iP at h;simp only[cn,eC,decide_eq_true_eq] at h;obtain⟨⟨⟨h1,h2⟩,f⟩,d⟩:=h;refine⟨?_,h2,f,λy b e=>?_,λy b e=>?_⟩
 ·split at h1
  ·assumption
  ·cases h1
 ·have q:=d y b;simp only[e] at q;split at q<;>first|exact .inl (by assumption)|exact .inr (by assumption)|cases q
 ·have q:=d y b;rcases e with e|e<;>(simp only[e,qP,decide_eq_true_eq] at q;exact q)
section
variable{κ:Type}[DecidableEq κ]
def cG(kvs:.bt)(k:κ):.aw:=(kvs.find? λa=>decide (a.1=k)).map (·.2)
def putK(kvs:.bt)(k:κ)(v:V):.bt:=
 if(kvs.any λa=>decide (a.1=k))=true then kvs.map (λa=>if a.1=k then(a.1,v) else a) else kvs++[(k,v)]
def Ws(kvs:.bt)(k:κ):.bt:=kvs.filter λa=>decide (a.1≠k)
theorem gD{p:κ×V}{r:.bt}{k:κ}(e:p.1=k):cG (p::r) k=some p.2:=by simp[cG,jE,e]
theorem fZ{p:κ×V}{r:.bt}{k:κ}(e:¬p.1=k):cG (p::r) k=cG r k:=by simp[cG,jE,e]
theorem rJ(k:κ):∀kvs:.bt,(kvs.any λa=>decide (a.1=k))=(.bu).isSome
 |[]=>rfl
 |p::r=>by
  rw[lZ];by_cases e:p.1=k
  ·simp only[gD e,decide_eq_true e,Bool.true_or,Gb]
  ·rw[fZ e,decide_eq_false e,qR];exact rJ k r
theorem HB(k j:κ)(y:V):∀kvs:.bt,cG (kvs.map λa=>if a.1=k then(a.1,y) else a) j=(cG kvs j).map λx=>if j=k then y else x
 |[]=>rfl
 |p::r=>by
  have b:=HB k j y r;rw[bP];by_cases h:p.1=k
  ·rw[if_pos h];by_cases e:p.1=j
   ·rw[gD (p:=(p.1,y)) e,gD e,i9,if_pos<|e.symm.trans h]
   ·rw[fZ (p:=(p.1,y)) e,fZ e,b]
  ·rw[if_neg h];by_cases e:p.1=j
   ·rw[gD (p:=p) e,gD e,i9,if_neg λz=>h<|e.trans z]
   ·rw[fZ (p:=p) e,fZ e,b]
theorem CF(k j:κ)(y:V):∀kvs:.bt,.bu=none->cG (kvs++[(k,y)]) j=if j=k then .ao else cG kvs j
 |[],_=>by
  by_cases e:k=j
  ·rw[if_pos e.symm];exact gD (p:=(k,y)) e
  ·rw[if_neg λz=>e z.symm];exact fZ (p:=(k,y)) e
 |p::r,hn=>by
  rw[List.cons_append];have hk:¬p.1=k:=λz=>by rw[gD z] at hn;cases hn
  rw[fZ hk] at hn;have a:=CF k j y r hn;by_cases e:p.1=j
  ·rw[gD e,gD e,if_neg λz=>hk<|e.trans z]
  ·rw[fZ e,fZ e,a]
theorem pd(kvs:.bt)(k j:κ)(y:V):cG (putK kvs k y) j=if j=k then .ao else cG kvs j:=by
 unfold putK;by_cases a:(kvs.any λb=>decide (b.1=k))=true
 ·rw[if_pos a,HB];rw[rJ] at a;by_cases e:j=k
  ·obtain⟨x,c⟩:=uR.mp a;rw[if_pos e,e,c,i9,.ah]
  ·rw[.bo];cases cG kvs j with
   |none=>rfl
   |some x=>rw[i9,.bo]
 ·rw[if_neg a];refine CF k j y kvs ?_;rw[rJ] at a;cases q:.bu with
  |none=>rfl
  |some x=>rw[q] at a;exact(a rfl).elim
theorem jy(kvs:.bt)(k:κ)(v:V):(putK kvs k v).length<=kvs.length+1:=by
 unfold putK;split
 ·rw[au];omega
 ·rw[bS,bB,og];omega
theorem P6{kvs:.bt}{k:κ}(v:V)(h:.bu=none):putK kvs k v=kvs++[(k,v)]:=by
 unfold putK;rw[rJ,h];exact .be
theorem lF.ku{o:.aw}{u:.br}(r:lF o u):o.isSome=u.isSome:=by
 cases o with
 |none=>cases u with
  |none=>rfl
  |some _=>exact .eD
 |some _=>cases u with
  |none=>exact .eD
  |some _=>rfl
theorem lF.getD{o:.aw}{u:.br}{d:V}{d':Value}(r:lF o u)(a:RelV d d'):RelV (o.getD d) (u.getD d'):=by
 cases o with
 |none=>cases u with
  |none=>exact a
  |some _=>exact .eD
 |some _=>cases u with
  |none=>exact .eD
  |some _=>exact r
theorem KV.val{kvs:.bt}{vs:List (κ×Value)}(r:KV kvs vs)(k:κ):lF .bu (valueAt vs k):=by
 unfold KV at r;induction r with
 |nil=>exact jR
 |@cons p q ps qs h t ih=>
  obtain⟨h1,h2⟩:=h;by_cases e:p.1=k
  ·have a:q.1=k:=h1.symm.trans e;have b:valueAt (q::qs) k=some q.2:=by simp[valueAt,jE,a]
   rw[gD e,b];exact h2
  ·have a:¬q.1=k:=λz=>e<|h1.trans z;have b:valueAt (q::qs) k=valueAt qs k:=by simp[valueAt,jE,a]
   rw[fZ e,b];exact ih
theorem KV.any{kvs:.bt}{vs:List (κ×Value)}(r:KV kvs vs)(k:κ):(kvs.any λa=>decide (a.1=k))=vs.any λa=>decide (a.1=k):=by
 unfold KV at r;induction r with
 |nil=>rfl
 |cons h t ih=>rw[lZ,lZ,ih,h.1]
theorem KV.repl{kvs:.bt}{vs:List (κ×Value)}(r:KV kvs vs)(k:κ){y:V}{u:Value}(b:RelV y u):
  KV (kvs.map λa=>if a.1=k then(a.1,y) else a) (vs.map λa=>if a.1=k then(a.1,u) else a):=by
 unfold KV at r ⊢;induction r with
 |nil=>exact .nil
 |@cons p q ps qs h t ih=>
  rw[bP,bP];refine .cons ?_ ih;obtain⟨h1,h2⟩:=h;by_cases e:p.1=k
  ·rw[if_pos e,if_pos<|h1.symm.trans e];exact⟨h1,b⟩
  ·rw[.bo,if_neg λz=>e<|h1.trans z];exact⟨h1,h2⟩
theorem KV.put{kvs:.bt}{vs:List (κ×Value)}(r:KV kvs vs)(k:κ){y:V}{u:Value}(a:RelV y u):KV (putK kvs k y) (stored vs k u):=by
 unfold putK stored;rw[r.any k];by_cases e:(vs.any λb=>decide (b.1=k))=true
 ·rw[if_pos e,if_pos e];exact r.repl k a
 ·rw[.bo,.bo];exact zP r ⟨rfl,a⟩
theorem KV.drop{kvs:.bt}{vs:List (κ×Value)}(r:KV kvs vs)(k:κ):KV (Ws kvs k) (without vs k):=by
 unfold KV at r ⊢;unfold Ws without;induction r with
 |nil=>exact .nil
 |@cons p q ps qs h t ih=>
  obtain⟨h1,h2⟩:=h;rw[lV,lV];by_cases e:p.1=k
  ·have a:¬decide (p.1≠k)=true:=by simp[e]
   have b:¬decide (q.1≠k)=true:=by simp[h1.symm.trans e]
   rw[if_neg a,if_neg b];exact ih
  ·have c:¬q.1=k:=λz=>e<|h1.trans z;have a:decide (p.1≠k)=true:=by simp[e]
   have b:decide (q.1≠k)=true:=by simp[c]
   rw[if_pos a,if_pos b];exact .cons ⟨h1,h2⟩ ih
theorem KV.keys{kvs:.bt}{vs:List (κ×Value)}(r:KV kvs vs):kvs.map (·.1)=vs.map (·.1):=by
 unfold KV at r;induction r with
 |nil=>rfl
 |cons h t ih=>rw[bP,bP,ih,h.1]
theorem KV.length{kvs:.bt}{vs:List (κ×Value)}(r:KV kvs vs):kvs.length=vs.length:=ve r
end
theorem qi{P:Program}{w:World}{k:Key}{u:Value}(r:RelV (kV k) u):(dk P w).is k u=true:=by
 cases k with
 |inl i=>obtain⟨t,e⟩:=(show ∃t,u=oE i t from r);subst e;exact Hg P w i t
 |inr x=>obtain⟨t,e⟩:=(show ∃t,u=uO x t from r);subst e;exact Hh P w x t
theorem CH{P:Program}{w:World}:∀{ks:List Key} {us:.u},Vals (ks.map kV) us->ItemsAre (dk P w) ks us
 |[],_,r=>by rw[l3] at r;cases r;exact .nil
 |k::ks,_,r=>by
  rw[bP] at r;cases r with
  |cons h t=>exact .cons (qi h)<|CH t
abbrev KT(H:Hp):.cP->.d3->Prop:=Paired λp q=>p.1=q.1/\H q.2.1=some (.tup<|p.1.map kV)/\RelV p.2 q.2.2
theorem KT.val{H:Hp}{kvs:.cP}{xs:.d3}(r:KT H kvs xs)(k:List Key):lF .bu ((atKey xs k).map (·.2)):=by
 induction r with
 |nil=>exact jR
 |@cons p q ps qs h t ih=>
  obtain⟨h1,_,h2⟩:=h;by_cases e:p.1=k
  ·have a:q.1=k:=h1.symm.trans e;have b:atKey (q::qs) k=some q.2:=by simp[atKey,jE,a]
   rw[gD e,b];exact h2
  ·have a:¬q.1=k:=λz=>e<|h1.trans z;have b:atKey (q::qs) k=atKey qs k:=by simp[atKey,jE,a]
   rw[fZ e,b];exact ih
theorem KT.repl{H:Hp}{kvs:.cP}{xs:.d3}(r:KT H kvs xs)(k:List Key){y:V}{u:Value}(b:RelV y u):
  KT H (kvs.map λa=>if a.1=k then(a.1,y) else a) (xs.map<|putAt k u):=by
 induction r with
 |nil=>exact .nil
 |@cons p q ps qs h t ih=>
  rw[bP,bP];refine .cons ?_ ih;obtain⟨h1,h2,c⟩:=h;unfold putAt;by_cases e:p.1=k
  ·rw[if_pos e,if_pos<|h1.symm.trans e];exact⟨h1,h2,b⟩
  ·rw[.bo,if_neg λz=>e<|h1.trans z];exact⟨h1,h2,c⟩
theorem KT.put{H:Hp}{kvs:.cP}{xs:.d3}(r:KT H kvs xs)(k:List Key){b:Addr}{y:V}{u:Value}(c:H b=some (.tup<|k.map kV))(a:RelV y u):
  KT H (putK kvs k y) (storedH xs k b u):=by
 have e:(kvs.any λd=>decide (d.1=k))=(atKey xs k).isSome:=by
  rw[rJ,(r.val k).ku,qT]
 unfold putK storedH;rw[e];by_cases q:(atKey xs k).isSome=true
 ·rw[if_pos q,if_pos q];exact r.repl k a
 ·rw[if_neg q,if_neg q];exact zP r ⟨rfl,c,a⟩
theorem KT.keeps{H H':Hp}{kvs:.cP}{xs:.d3}(r:KT H kvs xs)(ht:∀b ys,H b=some (.tup ys)->H' b=some (.tup ys)):KT H' kvs xs:=
 Paired.wK r λ_ _ z=>⟨z.1,ht _ _ z.2.1,z.2.2⟩
section
variable{P:Program}{w:World}{H:Hp}{h:Heap}{a:Addr}
theorem Wt{u:HO}(ok:.b6)(e:Rd H a u):dM P w H h a u:=e.ok ok
theorem HC{kvs:.an}(ok:.b6)(e:Rd H a (.dK kvs)):.fA:=
 show dM P w H h a (.dK kvs) from Wt ok e
theorem Wu{kvs:.an}(ok:.b6)(e:H a=.bg):.fA:=HC ok<|.inl e
theorem AH{ks:List Key}(ok:.b6)(e:H a=some (.tup<|ks.map kV)):(tupleKind<|dk P w).is h ks a:=by
 obtain⟨_,its,r,o,h1,h2,n,b⟩:=(show dM P w H h a (.tup<|ks.map kV) from ok a _ e);exact⟨o,its.toArray,n,h1,h2,b,by simpa using CH r⟩
theorem HD{kvs:.cP}(ok:.b6)(e:Rd H a (.dT kvs)):kvs.length<=sizeLine/\.dd/\
  ∃xs,KT H kvs xs/\h.DictOfH (tupleKind<|dk P w) a xs:=by
 obtain⟨z,y,xs,r,o,es,c,h1,h2,d,f,g⟩:=(show dM P w H h a (.dT kvs) from Wt ok e);refine⟨z,y,xs,r,o,es,c,h1,h2,d,f,λx b=>?_,g⟩;have all:∀{l:.cP} {m:.d3},KT H l m->∀x∈m,(tupleKind<|dk P w).is h x.1 x.2.1:=by
  intro l m q;induction q with
  |nil=>intro x b;exact nomatch b
  |@cons p q ps qs hq t ih=>
   intro x b;rcases aH.mp b with e|b
   ·subst e;exact AH ok (by rw[<-hq.1];exact hq.2.1)
   ·exact ih x b
 exact all r x b
theorem aaC{kvs:.cP}(ok:.b6)(e:H a=some (.dT kvs)):kvs.length<=sizeLine/\.dd/\
  ∃xs,KT H kvs xs/\h.DictOfH (tupleKind<|dk P w) a xs:=HD ok<|.inl e
end
def ky(H:Hp)(a:Addr)(y:V)(r:.aw):Prop:=
 (∃kvs k,Rd H a (.dK kvs)/\y=kV k/\r=.bu)\/∃kvs k b,Rd H a (.dT kvs)/\y=.aM/\H b=some (.tup<|k.map kV)/\r=.bu
def BJ(H:Hp)(a:Addr)(y v:V)(H':Hp):Prop:=
 (∃kvs k,H a=.bg/\y=kV k/\kvs.length<sizeLine/\H'=upd H a (.dK<|putK kvs k v))\/
 ∃kvs k b,H a=some (.dT kvs)/\y=.aM/\H b=some (.tup<|k.map kV)/\kvs.length<sizeLine/\H'=upd H a (.dT<|putK kvs k v)
theorem ky.k{H:Hp}{a:Addr}{kvs:.an}{k:Key}(e:H a=.bg):ky H a (kV k) .bu:=.inl ⟨kvs,k,.inl e,rfl,rfl⟩
theorem ky.t{H:Hp}{a b:Addr}{kvs:.cP}{k:List Key}(e:H a=some (.dT kvs))(c:H b=some (.tup<|k.map kV)):ky H a .aM .bu:=.inr ⟨kvs,k,b,.inl e,rfl,c,rfl⟩
theorem BJ.k{H:Hp}{a:Addr}{kvs:.an}{k:Key}{v:V}(e:H a=.bg)(b:kvs.length<sizeLine):BJ H a (kV k) v (upd H a<|.dK<|putK kvs k v):=.inl ⟨kvs,k,e,rfl,b,rfl⟩
theorem BJ.t{H:Hp}{a b:Addr}{kvs:.cP}{k:List Key}{v:V}(e:H a=some (.dT kvs))(c:H b=some (.tup<|k.map kV))(d:kvs.length<sizeLine):
  BJ H a .aM v (upd H a<|.dT<|putK kvs k v):=.inr ⟨kvs,k,b,e,rfl,c,d,rfl⟩
section
variable{X:Cx}{pins:.U}{σ:St}{H:Hp}{s:Shared}{a:Addr}{y v:V}{u r:Value}{o:.aw}{A:Around}{E:.ac}
theorem Inv.big(I:.D):sysModules<s.heap.objs.size:=by
 have h:mainGlobals<s.heap.objs.size:=(I.mod.glob.keeps I.bk).lt;exact uJ .O h
theorem M5{Q:.ac}(q:A.units+1<cLine)(I:.D)(g:ky H a y .av)(n:RelV y u)(h:∀w' s',Inv X pins σ H s'->RelV v w'->Q w' s'):
  wpAny .af A (getItem .E u) Q E s:=by
 rcases g with⟨kvs,k,e,d,l⟩|⟨kvs,k,b,e,d,r,l⟩
 ·subst d;obtain⟨z,t,vs,c,f⟩:=HC I.hok e;obtain⟨w',i,j⟩:=lF.some_of (v:=v) (o:=valueAt vs k) (by rw[l];exact c.val k);exact wpAny_getItem_of (qi n) f.mapOf i<|h w' _ (I.tok _) j
 ·subst d;cases (show u=br b from n);obtain⟨z,t,xs,c,f⟩:=HD I.hok e;obtain⟨w',i,j⟩:=lF.some_of (v:=v) (o:=(atKey xs k).map (·.2)) (by rw[l];exact c.val k);obtain⟨p,hp,m⟩:=oI.mp i;refine wpAny_getItem_heap (tupleKind_room_in1 q) (AH I.hok r) f hp ?_;rw[m];exact h w' _ (I.tok _) j
theorem acI{Q:.ac}(m:A.units+1<cLine)(I:.D)(g:ky H a y o)(j:RelV y u)(h:∀s',Inv X pins σ H s'->Q (.bool o.isSome) s'):
  wpAny .af A (compareOp .In u<|.ref a) Q E s:=by
 rcases g with⟨kvs,k,e,d,l⟩|⟨kvs,k,b,e,d,n,l⟩
 ·subst d;obtain⟨z,f,vs,c,i⟩:=HC I.hok e;refine wpAny_in_of (qi j) f i.mapOf ?_;rw[<-(c.val k).ku,<-l];exact h _<|I.tok _
 ·subst d;cases (show u=br b from j);obtain⟨z,f,xs,c,i⟩:=HD I.hok e;refine wpAny_in_heap (tupleKind_room_in1 m) (AH I.hok n) f i ?_;have q:=(c.val k).ku;rw[qT] at q;rw[<-q,<-l];exact h _<|I.tok _
theorem Uk{Q:.ac}(m:A.units+1<cLine)(I:.D)(g:ky H a y o)(j:RelV y u)(h:∀s',Inv X pins σ H s'->Q (.bool<|!o.isSome) s'):
  wpAny .af A (compareOp .NotIn u<|.ref a) Q E s:=by
 rcases g with⟨kvs,k,e,d,l⟩|⟨kvs,k,b,e,d,n,l⟩
 ·subst d;obtain⟨z,f,vs,c,i⟩:=HC I.hok e;refine wpAny_notIn_of (qi j) f i.mapOf ?_;rw[<-(c.val k).ku,<-l];exact h _<|I.tok _
 ·subst d;cases (show u=br b from j);obtain⟨z,f,xs,c,i⟩:=HD I.hok e;refine wpAny_notIn_heap (tupleKind_room_in1 m) (AH I.hok n) f i ?_;have q:=(c.val k).ku;rw[qT] at q;rw[<-q,<-l];exact h _<|I.tok _
theorem DM{h':Heap}{t':Nat}{ob:HO}(I:.D)(c:Mut (H a))(hs:kK a s.heap h')(d:∃q,h'.get? a=some q)(new:dM X.prog X.w (upd H a ob) h' a ob):
  Inv X pins σ (upd H a ob) .dH:=
 I.write (x:=a) (e:=a) c .ar (λb q f z=>(hs.2 b f).trans z) d new
theorem P7{P:Program}{w:World}{H':Hp}{h':Heap}{kvs:.an}{vs:.dz}(z:kvs.length<=sizeLine)(c:.dd)(b:KV kvs vs)(d:h'.DictOf (dk P w) a vs):
  dM P w H' h' a (.dK kvs):=⟨z,c,vs,b,d⟩
theorem M6{H':Hp}{Q:Unit->.aT}(F:A.units+1<cLine)(I:.D)(g:BJ H a y v H')(x:RelV y u)(B:RelV v r)(h:∀s',.df->Q () s'):
  wpAny .af A (setItem .E u r) Q E s:=by
 rcases g with⟨kvs,k,e,j,l,m⟩|⟨kvs,k,b,e,j,C,l,m⟩
 ·subst j m;obtain⟨z,n,vs,d,o⟩:=Wu I.hok e;have p:vs.length<=sizeLine:=by rw[<-d.length];exact z
  have t:(putK kvs k v).length<=sizeLine:=by have:=jy kvs k v;omega
  refine wpAny_setItem_pairs (hsz:=p) (qi x) o λh' f hs=>h _ ?_;have G:∃q,h'.get? a=some q:=let ⟨q,_,_,i,_⟩:=f;⟨q,i⟩;exact DM I (by rw[e];exact jR) hs G<|P7 t n (d.put k B) f
 ·subst j m;cases (show u=br b from x);obtain⟨z,n,xs,d,o⟩:=aaC I.hok e;have p:.dx:=by rw[<-ve d];exact z
  have t:(putK kvs k v).length<=sizeLine:=by have:=jy kvs k v;omega
  refine wpAny_setItem_heap (hsz:=p) (tupleKind_room_in1 F) (AH I.hok C) o λh' f hs=>h _ ?_;obtain⟨q,es,J,i,h2,K,L,_,M⟩:=f;refine DM I (by rw[e];exact jR) hs ⟨q,i⟩ ⟨t,n,_,(d.put k C B).keeps λc ys D=>?_,q,es,J,i,h2,K,L,M⟩;rw[aq<|jc D e λz=>nomatch z];exact D
end
def X8(i:Expr):Prop:=∀a b,subscripted i false a b=operate [a,b] (getItem a b)
theorem KP{prog:Program}{w:World}{A:Around}{E:.ac}{s:Shared}{env:Env}{value a:Expr}{pos:Pos}{T id:String}{Q:.ac}
  (d:typeLookup (.type T) "__getitem__"=pure (some<|.builtin id)) (hs:X8 a)
  (h:wpAny .ad A (eval value env) (λo s₁=>wpAny .ad A (eval a env) (λi s₂=>s₂.TypeIs o T/\wpAny .ad A (getItem o i) Q E s₂) E s₁) E s):
  wpAny .ad A (eval (.Subscript value a pos) env) Q E s:=by
 refine Subscript_<|wpAny_mono h (λo s₁ h₁=>wpAny_mono h₁ (λi s₂ h₂=>?_) λ_ _ x=>x) λ_ _ x=>x;obtain⟨c,h₂⟩:=h₂;unfold subscriptTail;refine wpAny_bind ?_;rw[getitemInPython_of_ne c.not_modules];refine wpAny_bind<|wpAny_specialOf c d ?_;have b:wpAny .ad A (subscripted a false o i) (λr s₃=>wpAny .ad A (letTemporaryGo value o r >>= λ_=>pure r) Q E s₃) E s₂:=by
  rw[hs o i];exact wpAny_operating<|wpAny_mono h₂ (λr s₃ h₃=>wpAny_bind<|wpAny_letTemporaryGo<|wpAny_pure h₃) λ_ _ x=>x
 first
  |exact wpAny_pure<|wpAny_bind b
  |exact wpAny_bind<|wpAny_pure<|wpAny_bind b
  |exact wpAny_bind b
theorem HE{X:Cx}{pins:.U}{σ:St}{H:Hp}{s:Shared}{a:Addr}{y:V}{o:.aw}(I:.D)(g:ky H a y o):s.TypeIs .E "dict":=by
 rcases g with⟨kvs,k,e,_,_⟩|⟨kvs,k,b,e,_,_,_⟩
 ·obtain⟨_,_,vs,_,c⟩:=HC I.hok e;exact c.typeIs
 ·obtain⟨_,_,xs,_,c⟩:=HD I.hok e;exact c.typeIs
def aaD(td ty:TE):TE:=λσ H Q=>td σ H λx H1=>ty σ H1 λy H2=>∃a v,x=.E/\ky H2 a y .av/\Q v H2
def acJ(ty td:TE):TE:=λσ H Q=>ty σ H λy H1=>td σ H1 λx H2=>∃a o,x=.E/\ky H2 a y o/\Q (.bl o.isSome) H2
def Ul(ty td:TE):TE:=λσ H Q=>ty σ H λy H1=>td σ H1 λx H2=>∃a o,x=.E/\ky H2 a y o/\Q (.bl<|!o.isSome) H2
def aaE(td ty tv:TE):TS:=λD σ H=>tv σ H λv H1=>td σ H1 λx H2=>ty σ H2 λy c=>∃a b,x=.E/\BJ c a y v b/\D.nx σ b
section
variable{X:Cx}{o i e value:Expr}{pos pos' tpos:Pos}{td ty tv:TE}
theorem nE(c:X.A.units+1<cLine)(d:PE X o td)(hi:PE X i ty)(hs:X8 i):PE X (.Subscript o i pos) (aaD td ty):=by
 intro pins s σ H Q I h;refine KP FI.lookup hs<|eF .d_ λu s1 ⟨x,H1,e,f,j⟩=>eF (hi pins s1 σ H1 _ e j) λp q ⟨y,H2,b,k,a,v,ex,g,l⟩=>?_;subst ex;obtain rfl:u=br a:=f;exact⟨HE b g,M5 c b g k λw' r m n=>⟨v,H2,m,n,l⟩⟩
theorem JC(b:X.A.units+1<cLine)(hi:PE X i ty)(c:PE X o td):PC X .In i o (acJ ty td):=by
 intro pins s σ H Q I h;refine eF .eF λp s1 ⟨y,H1,d,e,f⟩=>eF (c pins s1 σ H1 _ d f) λu q ⟨x,H2,j,k,a,l,ex,g,m⟩=>?_;subst ex;obtain rfl:u=br a:=k;exact acI b j g e λr n=>⟨.bl l.isSome,H2,n,rfl,m⟩
theorem kz(b:X.A.units+1<cLine)(hi:PE X i ty)(c:PE X o td):PC X .NotIn i o (Ul ty td):=by
 intro pins s σ H Q I h;refine eF .eF λp s1 ⟨y,H1,d,e,f⟩=>eF (c pins s1 σ H1 _ d f) λu q ⟨x,H2,j,k,a,l,ex,g,m⟩=>?_;subst ex;obtain rfl:u=br a:=k;exact Uk b j g e λr n=>⟨.bl<|!l.isSome,H2,n,rfl,m⟩
theorem yo(b:X.A.units+1<cLine)(c:PE X o td)(hi:PE X i ty)(hv:PE X value tv)(hs:swapsWith value (some<|.Subscript o i pos') pos.line X.env=pure false):
  PS X (.Assign [.Subscript o i pos'] value pos) (aaE td ty tv):=by
 intro pins s σ H D I h;refine wpAny_Assign_Subscript (eF (hv pins s σ H _ I h) λr s1 ⟨v,H1,d,e,f⟩=>eF (c pins s1 σ H1 _ d f) λu j ⟨x,H2,k,l,m⟩=>eF (hi pins j σ H2 _ k m) λz B ⟨y,C,n,p,a,q,ex,g,t⟩=>?_) hs;subst ex;obtain rfl:u=br a:=l;exact M6 b n g p e λE w=>⟨σ,q,w,t⟩
end
theorem HF{P:Program}{w:World}{H:Hp}(h:Heap)(a:sysModules<h.objs.size):dM P w H (h.push .bi) h.objs.size (.dK []):=
 ⟨bj _,beq_eq_false_iff_ne.mpr<|aF<|cy a,[],.nil,GI h⟩
def X9:TE:=λ_ H Q=>∀p,H p=none->Q .aO (upd H p<|.dK [])
section
variable{X:Cx}{pos:Pos}
theorem AI:PE X (.Dict [] [] pos) X9:=λpins s σ H Q I h=>
 wpAny_Dict_empty ⟨ .ba,_,I.laid (a:=s.heap.objs.size) (o:=.dK []) (t':=s.toks) (λ_ _ q=>aY _ q) (aG _)<|HF s.heap I.big,rfl,h _<|I.hok.fresh<|aG _⟩
end
def JE:List (TE×TE)->St->Hp->(List (V×V)->.Z)->Prop
 |[],_,H,Q=>Q [] H
 |(tk,tv)::r,σ,H,Q=>tk σ H λx H1=>tv σ H1 λy H2=>JE r σ H2 λps a=>Q ((x,y)::ps) a
abbrev VV:List (V×V)->List (Value×Value)->Prop:=Paired λp q=>RelV p.1 q.1/\RelV p.2 q.2
def PPs(X:Cx)(pos:Pos)(keys:List (Option Expr))(a:.aU)(b:List (TE×TE)):Prop:=
 ∀(pins:.U) (s:Shared) (σ:St) (H:Hp) (Q:List (V×V)->.Z),.D->JE b σ H Q->
  wpAny .af X.A (evalPairs<|pairTrees keys a X.env pos) (λvs s'=>∃ps H',.df/\VV ps vs/\Q ps H') X.xe s
theorem Uo{X:Cx}{pos:Pos}:PPs X pos [] [] []:=λpins s σ H Q I h=>pairTrees_nil_walk ⟨[],H,I,.nil,h⟩
theorem P8{X:Cx}{pos:Pos}{k v:Expr}{ks:List (Option Expr)}{vs:.aU}{tk tv:TE}{b:List (TE×TE)}(hk:PE X k tk)(hv:PE X v tv)(c:PPs X pos ks vs b):
  PPs X pos (some k::ks) (v::vs) ((tk,tv)::b):=λpins s σ H Q I h=>
 pairTrees_cons_walk (eF (hk pins s σ H _ I h) λu s1 ⟨x,H1,d,e,f⟩=>eF (hv pins s1 σ H1 _ d f) λp g ⟨y,H2,i,j,l⟩=>
  eF (c pins g σ H2 _ i l) λq r ⟨ps,m,n,a,o⟩=>⟨(x,y)::ps,m,n,.cons ⟨e,j⟩ a,o⟩)
def gE(kvs more:.an):.an:=more.foldl (λacc a=>putK acc a.1 a.2) kvs
theorem KV.merge:∀{more:.an} {rs:.dz} {kvs:.an} {vs:.dz},KV more rs->KV kvs vs->KV (gE kvs more) (merged vs rs):=by
 intro more rs kvs vs r;unfold KV at r;induction r generalizing kvs vs with
 |nil=>intro q;exact q
 |@cons p q ps qs h t ih=>
  intro a;have e:KV (putK kvs p.1 p.2) (stored vs q.1 q.2):=by
   have:=a.put p.1 h.2;rw[<-h.1];exact this
  exact ih e
theorem nP:∀(more kvs:.an),(gE kvs more).length<=kvs.length+more.length
 |[],kvs=>by show kvs.length<=kvs.length+0;omega
 |p::r,kvs=>by
  have h1:=nP r<|putK kvs p.1 p.2;have h2:=jy kvs p.1 p.2;show(gE (putK kvs p.1 p.2) r).length<=_;rw[bB];omega
theorem AJ{P:Program}{w:World}:∀{kvs:.an} {d:List (Value×Value)},VV (kvs.map λe=>(kV e.1,e.2)) d->∃rs,Carries (dk P w) d rs/\KV kvs rs
 |[],_,r=>by rw[l3] at r;cases r;exact⟨[],jR,.nil⟩
 |p::kvs,_,r=>by
  rw[bP] at r;cases r with
  |@cons a b as bs h t=>
   obtain⟨rs,c,q⟩:=AJ (P:=P) (w:=w) t;obtain⟨b1,b2⟩:=b;exact⟨(p.1,b2)::rs,⟨qi h.1,rfl,c⟩,.cons ⟨rfl,h.2⟩ q⟩
def aaF(b:List (TE×TE)):TE:=λσ H Q=>∀p,H p=none->JE b σ (upd H p<|.dK []) λps H2=>H2 p=some (.dK [])/\∃kvs:.an,ps=kvs.map (λa=>(kV a.1,a.2))/\kvs.length<=15/\Q .aO (upd H2 p<|.dK<|gE [] kvs)
theorem Uq{X:Cx}{pos:Pos}{keys:List (Option Expr)}{b:.aU}{i:List (TE×TE)}(h:PPs X pos keys b i)(d:keys.all (·.isSome)=true)(l:keys.length=b.length)(m:keys≠[])
  (f:keys.length<=15):PE X (.Dict keys b pos) (aaF i):=by
 intro pins s σ H Q I q;have n:=I.hok.fresh<|aG s.heap.objs.size;have p:=I.laid (a:=s.heap.objs.size) (o:=.dK []) (h':=.cc) (t':=s.toks) (λ_ _ q=>aY _ q) (aG _)<|HF s.heap I.big;refine wpAny_Dict_walk (knd:=dk X.prog X.w) d l m f<|eF (h pins _ σ _ _ p<|q _ n) λD E ⟨ps,H2,j,g,e,kvs,r,F,t⟩=>?_;subst r;obtain⟨rs,c,u⟩:=AJ (P:=X.prog) (w:=X.w) g;obtain⟨z,v,x,y,A⟩:=Wu j.hok e;cases y;refine⟨rs,c,A,λh' k hs=>⟨ .ba,_,?_,rfl,t⟩⟩;have B:(gE [] kvs).length<=sizeLine:=by
  have h1:=nP kvs [];rw[og] at h1;rw[sizeLine_eq];omega
 have C:∃q,h'.get? s.heap.objs.size=some q:=let ⟨q,_,_,hq,_⟩:=k;⟨q,hq⟩;exact DM j (by rw[e];exact jR) hs C<|P7 B v (u.merge .nil) k
structure M1(X:Cx)(o:Expr)(m:Str)(apos:Pos)(e:Expr)(cpos:Pos):Prop where
 base:attributeBase o m X.env .cu=.cu
 few:((backTo cpos (starEach [e] X.env)).all (λx=>!x.1)&&.fD
  &&decide (([e]:.aU).length+([]:List Keyword).length+(if([]:List Keyword).isEmpty then 0 else 1)<30))=true
 line:(apos.endLine == cpos.line)=true
 trees:backTo cpos (starEach [e] X.env)=[(false,.bA)]
structure M2(X:Cx)(o:Expr)(m:Str)(apos:Pos)(e f:Expr)(cpos:Pos):Prop where
 base:attributeBase o m X.env .cu=.cu
 few:((backTo cpos (starEach [e,f] X.env)).all (λx=>!x.1)&&.fD
  &&decide (([e,f]:.aU).length+([]:List Keyword).length+(if([]:List Keyword).isEmpty then 0 else 1)<30))=true
 line:(apos.endLine == cpos.line)=true
 trees:backTo cpos (starEach [e,f] X.env)=[(false,.bA),(false,eval f X.env)]
theorem AK:typeLookup .bB "keys"=pure none:=am_miss_of_fast (by first|decide +kernel|rfl)
theorem HG:entryFor table "dict.update.loop"=some Builtin.«dict.update.loop»:=entryFor_of_tree<|by kernel_rfl
theorem rK:plainId "dict.update.loop"=true:=.aq
section
variable{prog:Program}{w:World}{A:Around}{E:.ac}
theorem M7{s:Shared}{a:Addr}{o:Obj}{xs:.aE}{k:Nat}{Q:.br->.aT}(n:s.heap.get? a=.i)(p:o.cls=.bB)(f:o.data=.seq xs k)(q:o.dict=none)(hA:.c5)
  (h:∀h' tk,(∀b ob,s.heap.get? b=some ob->.aQ=some ob)->Q none .c_):wpAny .ad A (getAttr? .E "keys") Q E s:=by
 obtain⟨c,t,u,v⟩:=o;simp only at p f q;subst p f q;obtain⟨hp,g,d,tk,os⟩:=s;have r:∀m,(⟨hp,g,d,m,os⟩:Shared).TypeIs .E "list":=λ_=>⟨_,n,rfl⟩;have i:=AK;have j:(["__module__","__name__","__qualname__","__doc__","__annotations__"]:.L).contains "keys"=false:=.aq
 have hsz:("keys":Str).length+100<=sizeLine:=by first|size_fits|decide +kernel
 have x:=sub_AttributeError;have y:=zj.lookup;have z:=zj.bind<|.ref a;have B:=am_list_getattr_none;unfold getAttr? getAttrBy? getAttrBy;repeat (any_goals (first|assumption|exact r _|((with_reducible show wpAny _ _ (call (oz "list.__getattribute__") _ _) _ _ _);refine call_meets zj (r _) am_entry_list_getattribute (PySem.F.args_list_getattribute_2 _ _) (meets_getattribute_miss_list a xs k v "keys" _ i j hsz) ⟨n,hA,λh' m e l=>?_⟩)|wp_step))
 obtain⟨t',C,D⟩:=l.there;show wpAny _ _ (getattributeRaised _ _ _ _ _ _ _) _ _ _;unfold getattributeRaised;repeat (any_goals (first|assumption|wp_step))
 all_goals first|exact h _ _ l.keeps|(dsimp only;repeat (any_goals (first|assumption|exact h _ _ l.keeps|wp_step)))
theorem HI{R:Result->.aT}{S I l:Addr}{items:.aE}{res:Value}(M:.c5)(g:l≠I)(d:S≠I)(h:S≠l):
  ∀(rest:.dz) (i:Nat) (acc:.dz) (y:Int) (t:Tok) (s:Shared),items.size=i+rest.length->acc.length+rest.length<=sizeLine->
   (∀(j:Nat) (q:Key×Value),rest[j]?=some q->∃(b:Addr) (u:Value),items[i+j]?=some .aM/\b≠S/\b≠I/\IsTup s.heap b #[u,q.2]/\vy q.1 u=true)->
   s.heap.IsListIter I l i->s.heap.IsList l items->s.heap.DictOf (dk prog w) S acc->
   (∀h' tk,h'.DictOf (dk prog w) S (merged acc rest)->(∀b o,b≠S->b≠I->.bx->.aQ=.i)->R (.ok<|.ret res) .c_)->
   codeAny .ad A (.builtin "dict.update.loop" ⟨[.ref S,.ref I,.int y t,res],[]⟩) R s
 |[],i,acc,y,t,s,hsz,hln,ht,hit,hl,hm,hR=>by
  refine codeAny_builtin HG ?_;rw[Gu rK _];show wpAny _ A.in1 (pyNext (.ref I) >>= _) _ _ s;refine wpAny_bind<|wpAny_pyNext_list_end (A:=A.in1) M hit hl (by first|exact F8 (jJ hsz)|(simp at hsz;simp;omega)) λh' N=>?_
  show wpAny _ A.in1 (Og S [] >>= _) _ _ _;refine wpAny_bind<|wpAny_pure<|wpAny_pure ?_;exact hR h' s.toks (hm.extBut N d) λb o _ B e=>N b o B e
 |q::rest,i,acc,y,t,s,hsz,hln,ht,hit,hl,hm,hR=>by
  obtain⟨b,u,B,U,C,m,hk⟩:=ht 0 q rfl;rw[bB] at hsz hln;refine codeAny_builtin HG ?_;rw[Gu rK _];show wpAny _ A.in1 (pyNext (.ref I) >>= _) _ _ s;refine wpAny_bind (wpAny_pyNext_list_item (x:=.aM) hit hl (by simpa using B) λh1 p a=>?_);have D:IsTup h1 b #[u,q.2]:=m.extBut a.extBut C;have E:h1.IsList l items:=hl.extBut a.extBut g;have F:h1.DictOf (dk prog w) S acc:=hm.extBut a.extBut d;obtain⟨o,O,V,n,W⟩:=id D;show wpAny _ A.in1 (holding [br b] _ >>= _) _ _ _;refine wpAny_bind<|wpAny_holding ?_;refine wpAny_bind<|wpAny_tryCatch ?_;unfold Oi;refine wpAny_bind<|wpAny_typeOf (T:="tuple") ⟨o,O,V⟩ ?_;rw[if_pos (by first|decide|rfl|simp)]
  refine wpAny_bind<|wpAny_seqItems O W<|wpAny_pure ?_;show wpAny _ A.in1 (holding [u,q.2]<|dictSet S u q.2) _ _ _;refine wpAny_holding (wpAny_dictSet_pairs (knd:=dk prog w) (k:=q.1) hk F (λh2 G f=>?_)<|by omega);refine wpAny_pure ⟨plainId_quiet rK _,HI (items:=items) M g d h rest (i+1) (stored acc q.1 q.2) (y+1) 0 _ (show items.size=i+1+rest.length by omega) ?_ (λj X e=>?_) ?_ ?_ G λh' tk H k=>?_⟩
  ·have z:=stored_length_le acc q.1 q.2;omega
  ·obtain⟨Y,Z,J,r,v,K,L⟩:=ht (j+1) X .dS;refine⟨Y,Z,?_,r,v,(K.extBut a.extBut v).extBut f.extBut r,L⟩;rw[show i+1+j=i+(j+1) by omega];exact J
  ·exact p.at λo' e=>f.extBut I o' (aF d) e
  ·exact E.extBut f.extBut<|aF h
  ·exact hR h' tk H λc oc P Q e=>k c oc P Q<|f.extBut c oc P<|a.extBut c oc Q e
theorem x8{s:Shared}{l:Addr}{i:Obj}{items:.aE}{n:Nat}{prs:.dz}{Q:.ac}(H:.c5)(x:s.heap.get? l=some i)(B:i.cls=.bB)(L:i.dict=none)
  (g:i.data=.seq items n) (hsz:items.size=prs.length) (C:prs.length<=sizeLine)
  (ht:∀(j:Nat) (q:Key×Value),prs[j]?=some q->∃(b:Addr) (u:Value),items[j]?=some .aM/\IsTup s.heap b #[u,q.2]/\vy q.1 u=true)
  (h:∀h' tk,h'.DictOf (dk prog w) s.heap.objs.size (merged [] prs)->(∀b o,.bx->.aQ=.i)->Q .ba .c_):
  wpAny .ad A (call (.type "dict") [.aH]) Q E s:=by
 refine callType_codes (Q₁:=λobj s₁=>obj=.ba/\s₁={ s with heap:=.cc }) PySem.F.kt_called_dict (PySem.F.kt_typeCall_dict_1 _) PySem.F.entry_dict_init (kt_code_dict_new _ .cg) ?_;rintro obj s₁ ⟨rfl,rfl⟩;have a:(.cc).DictOf (dk prog w) s.heap.objs.size []:=GI s.heap;have m:∀b o,.bx->(.cc).get? b=.i:=λb o e=>aY _ e;refine⟨a.typeIs,PySem.F.args_dict_init_2 _ _,?_⟩;unfold Builtin.«dict.__init__»;refine wpAny_bind ?_;unfold Oh;refine wpAny_bind<|wpAny_notOrdered_dict a.typeIs ?_;show wpAny _ _ (pure (s.heap.objs.size,[br l])) _ _ _;refine wpAny_pure ?_;show wpAny _ _ (Gn "dict.__init__" s.heap.objs.size .aH [] .none) _ _ _;unfold Gn;refine wpAny_bind<|wpAny_typeOf (T:="list") ⟨i,m _ _ x,B⟩ ?_;rw[if_pos (by first|decide|rfl|simp)]
 refine wpAny_bind<|M7 (m _ _ x) B g L H λh1 D d=>?_;rw[if_pos<|show(none:.br).isNone=true from rfl];refine wpAny_bind<|wpAny_rule ?_;have p:h1.IsList l items:=⟨i,d _ _<|m _ _ x,B,n,g⟩;have f:s.heap.objs.size<h1.objs.size:=by
  have e:(.cc).get? s.heap.objs.size=some .bi:=cY _ rfl;exact aZ<|d _ _ e
 refine wpAny_bind<|wpAny_pyIter_list p ?_;have y:∀b o,h1.get? b=.i->(h1.push .fE).get? b=.i:=λb o e=>aY _ e;have t:l<s.heap.objs.size:=aZ x;have v:=HI (prog:=prog) (w:=w) (A:=A.in1) (R:=wants (λr s₂=>r=.none/\Q .ba s₂) E) (S:=s.heap.objs.size) (I:=h1.objs.size) (l:=l) (items:=items) (res:=dC) H
  (cy<|uJ t f) (cy f) (gR t) prs 0 [] 0 0
  { s with heap:=h1.push .fE,toks:=D } (by rw[hsz,kO]) (by rw[og,kO];exact C)
  (λj q e=>by
   obtain⟨b,u,M,J,N⟩:=ht j q e;have K:b<s.heap.objs.size:=J.lt;exact⟨b,u,by rw[kO];exact M,cy K,cy (uJ K f),J.keeps λc o z=>y _ _ (d _ _ (m _ _ z)),N⟩)
  .ez (p.at λo e=>y _ _ e) ((a.at λo e=>d _ _ e).at λo e=>y _ _ e)
  (λh' tk G k=>⟨rfl,h h' tk G λb o e=>k b o (cy<|aZ e) (cy<|uJ (aZ e) f)<|y _ _<|d _ _<|m _ _ e⟩)
 first
  |exact wpAny_pure ⟨plainId_quiet rK _,v⟩
  |exact wpAny_bind<|wpAny_pure<|wpAny_pure ⟨plainId_quiet rK _,v⟩
end
section
variable{X:Cx}
theorem HJ{pins:.U}{σ:St}{H:Hp}{s:Shared}(I:.D):∀{ps:.B} {kvs:.an},Paired (λp c=>gm X.K H p [kV c.1,c.2]) ps kvs->
  ∃prs:.dz,KV kvs prs/\prs.length=ps.length/\∀(j:Nat) (q:Key×Value),prs[j]?=some q->∃(b:Addr) (u:Value),ps[j]?=some b/\IsTup s.heap b #[u,q.2]/\vy q.1 u=true
 |_,_,.nil=>⟨[],.nil,rfl,λj q e=>by simp at e⟩
 |_,_,.cons (a:=p) (b:=c) h t=>by
  obtain⟨prs,r,d,hp⟩:=HJ I t;obtain⟨its,f,ht,_⟩:=I.tuple h;obtain⟨u,y,g,i,k⟩:=vals2 f;subst g;refine⟨(c.1,y)::prs,.cons ⟨rfl,k⟩ r,by rw[bB,bB,d],λj q e=>?_⟩;cases j with
  |zero=>
   have l:(c.1,y)=q:=aI e;subst l;exact⟨p,u,rfl,ht,qi (P:=X.prog) (w:=X.w) i⟩
  |succ j=>
   obtain⟨b,m,n,o,v⟩:=hp j q .dS;exact⟨b,m,by simpa using n,o,v⟩
theorem KQ:∀{ps:.B} {us:.u},Vals (ps.map V.ref) us->us=ps.map br
 |[],us,r=>by
  rw[l3] at r;cases r;rfl
 |p::ps,us,r=>by
  rw[bP] at r;cases r with
  |cons h t=>
   cases h;rw[bP,<-KQ t]
theorem AL(c:.ce):o8 X (.type "dict") (λxs H Q=>∃(a:Addr) (ps:.B) (kvs:.an),xs=[.E]/\bh X.K H a (ps.map V.ref)/\Paired (λp t=>gm X.K H p [kV t.1,t.2]) ps kvs/\
  ∀p,H p=none->Q .aO (upd H p (.dK (gE [] kvs)))):=by
 intro pins s σ H xs us Q I r q;obtain⟨a,ps,kvs,ex,v,hp,q⟩:=q;subst ex;obtain⟨u,x,y⟩:=vals1 r;subst x;cases y;obtain⟨its,z,pl,h⟩:=I.list v;have A:=KQ z;subst A;rw[au] at h;obtain⟨prs,d,i,l⟩:=HJ I hp;obtain⟨o,n,B,C,D,f⟩:=pl;refine x8 (prs:=prs) (I.ok.hd c) B C D f (by simp[i]) (by rw[i];exact h) (λj E e=>?_) λh' tk m k=>?_
 ·obtain⟨b,u,F,G,J⟩:=l j E e;exact⟨b,u,by simp[F],G,J⟩
 ·have L:(s.heap.objs.size == sysModules)=false:=beq_eq_false_iff_ne.mpr<|gR I.big;have g:(gE [] kvs).length<=sizeLine:=by
   refine bK (nP kvs []) ?_;rw[og,kO,d.length,i];exact h
  exact⟨ .ba,upd H s.heap.objs.size<|.dK<|gE [] kvs,I.laid (t':=tk) k (aG _)<|show dM X.prog X.w _ _ _ (.dK<|gE [] kvs) from⟨g,L,merged [] prs,KV.merge d .nil,m⟩,rfl,q _<|I.hok.fresh<|aG _⟩
end
section
variable{X:Cx}{pins:.U}{σ:St}{H:Hp}{s:Shared}{h':Heap}
theorem Inv.Ur{t':Nat}{ch:.B}(I:.D)(k:∀b o,b∉ch->.bx->.aQ=.i)(d:∀b∈ch,xY X pins H b):Inv X pins σ H .dH:=by
 have g:∀b u,H b=.ai->b∉ch:=λb u e z=>by
  have q:=(d b z).1;rw[q] at e;cases e
 refine I.step (g':=s.gens) (d':=s.drawn) (ch:=ch) (λb f=>⟨(d b f).2.2.2.1,(d b f).2.1,(d b f).2.2.2.2.1,(d b f).2.2.2.2.2⟩) (λb o _ _ a e _=>k b o a e) (λb o _ _ a e _=>⟨o.slots,k b o a e⟩)
  (λ_ _ _ _ n=>n) (λb o a e=>⟨o,k b o a e⟩) (λ_ _ e=>e) (λ_ _ _ e=>e) (λb ps e=>⟨#[],by rw[e];simp⟩) (λm h=>?_) (λb u e=>?_) I.bare
 ·obtain⟨o,es,i,j,r⟩:=h;exact⟨o,es,i,k _ o (λz=>(d _ z).2.1 rfl) j,r⟩
 ·refine(I.hok b u e).stay (λc v a q=>k c v ?_ q) (λ_ q=>q) λ_ _ q=>q;rcases a with z|z
  ·rw[z];exact g b u e
  ·exact g c _ z
theorem Inv.CI{t':Nat}{ch:.B}{T:Addr}{ob:HO}(I:.D)(k:∀b o,b∉ch->.bx->.aQ=.i)(f:∀b∈ch,xY X pins H b)(h:s.heap.objs.size<=T)
  (new:dM X.prog X.w (upd H T ob) h' T ob):Inv X pins σ (upd H T ob) .dH:=by
 have g:H T=none:=I.hok.fresh h;have i:∀b u,H b=.ai->b∉ch:=λb u e z=>by
  have q:=(f b z).1;rw[q] at e;cases e
 refine I.step (g':=s.gens) (d':=s.drawn) (ch:=ch) (λb a=>⟨(f b a).2.2.2.1,(f b a).2.1,(f b a).2.2.2.2.1,(f b a).2.2.2.2.2⟩) (λb o _ _ d e _=>k b o d e) (λb o _ _ d e _=>⟨o.slots,k b o d e⟩)
  (λb o _ e n=>?_) (λb o d e=>⟨o,k b o d e⟩) (λb xs e=>?_) (λb o u e=>?_) (λb ps e=>⟨#[],?_⟩) (λm j=>?_) (λb u e=>?_) I.bare
 ·rw[aq<|cy<|eQ (aZ e) h];exact n
 ·rw[aq<|aC e g];exact e
 ·rw[aq<|aC e g];exact e
 ·rw[aq<|aC e g,e];simp
 ·obtain⟨o,es,l,p,r⟩:=j;exact⟨o,es,l,k _ o (λz=>(f _ z).2.1 rfl) p,r⟩
 ·by_cases a:b=T
  ·subst a;rw[ai] at e;cases e;exact new
  ·rw[aq a] at e;refine(I.hok b u e).stay (λc v d q=>k c v ?_ q) (λc q=>by rw[aq<|aC q g];exact q) λc xs q=>by rw[aq<|aC q g];exact q
   rcases d with z|z
   ·rw[z];exact i b u e
   ·exact i c _ z
end
section
variable{X:Cx}
theorem P9{tg:Expr}{pins:.U}{σ:St}{H:Hp}{s:Shared}{R:It->.Z}{J:It}{a:Nat->Heap->Prop}{tk:Nat}(I:.D)(o:Obj)
  (T:Turn X.prog X.w X.K tg J [s.heap.objs.size] s.heap.objs.size a) (st:a 0 (s.heap.push o)) (q:R J H):PIE X pins σ tg R .ba { s with heap:=s.heap.push o,toks:=tk }:=by
 refine⟨s.heap.objs.size,[s.heap.objs.size],a,J,H,rfl,I.kept λb ob e=>aY _ e,T,st,λb c=>?_,q⟩;have e:b=s.heap.objs.size:=.cC
 subst e;exact I.Jr (aG _)<|I.hok.fresh<|aG _
end
def RgC(i j c:Int)(n:Nat):Prop:=c≠0/\c.natAbs<1073741824/\Ma i j c=true/\Gm i j c=n
theorem RgC.neg{i j:Int}(c:-(2 ^ 62)<=i)(a:i<2 ^ 62)(d:-(2 ^ 62)<=j)(b:j<2 ^ 62):RgC i j (-1) (i-j).toNat:=
 ⟨ .O,.O,PySem.W.small_down c a d b,PySem.W.rangeSize_downNat i j⟩
def Its(x:Str):It:=⟨λi _=>i<x.cps.size,λi H v H'=>H'=H/\∃c,x.cps[i]?=some c/\v=.str ⟨#[c]⟩,λi _=>x.cps.size<=i⟩
theorem HK{P:Program}{w:World}{K:ah}{tg:Expr}(a:Addr)(x:Str)(t:Tok)(ty:String)(f:ty="str_ascii_iterator"\/ty="str_iterator"):
  Turn P w K tg (Its x) [a] a (λi h=>h.IsStrIter a ty x t i) where
 mem:=.m
 obj:=λi h st b g=>by
  have e:b=a:=.dj
  subst e;obtain⟨o,e,c,d⟩:=st;exact⟨o,e,λv z=>by rw[d] at z;cases z⟩
 keep:=λi h h' st k=>let ⟨o,ho,r⟩:=st;⟨o,k a .m o ho,r⟩
 item:=by
  intro X C D F j i pins s σ H E I m st G;subst C D F;obtain⟨n,p,O,q,y,B⟩:=m a .m;have W:Walks X.prog X.w X.A a [a] [a] x.cps.size (SignAt x) (λi h=>h.IsStrIter a ty x t i):=by
   rcases f with e|e
   ·rw[e];exact Walks.strAscii (I.ok.hd j) a x t
   ·rw[e];exact Walks.strWide (I.ok.hd j) a x t
  have J:["enumerate","zip","dict_itemiterator","dict_reverseitemiterator","odict_iterator","itertools.zip_longest","itertools.pairwise"].contains ty=false:=by
   rcases f with e|e
   ·rw[e];decide
   ·rw[e];decide
  refine W.item i s _ _ G st λv h' tk hv l R=>?_;obtain⟨c,u,L,rfl⟩:=hv;have S:Inv X pins σ H .c_:=I.turned (λb o g e=>R b o .dj e) n p q y B;obtain⟨V,e,T,U⟩:=id l;exact⟨_,rfl,KA (s:=.c_) e T U J ⟨.str ⟨#[c]⟩,H,S,⟨u,rfl⟩,⟨rfl,c,L,rfl⟩,l,λb g=>(m b g).1⟩⟩
 done:=by
  intro X C D F j i pins s σ H E I m st G;subst C D F;obtain⟨n,p,O,q,y,B⟩:=m a .m;have N:x.cps[i]?=none:=F8 G;rcases f with e|e
  ·rw[e] at st;exact wpAny_pyNext_ascii_end (I.ok.hd j) st N λh' M=>⟨rfl,I.turned (t':=s.toks) (λb o g e=>M b o g e) n p q y B⟩
  ·rw[e] at st;exact wpAny_pyNext_wide_end (I.ok.hd j) st N λh' M=>⟨rfl,I.turned (t':=s.toks) (λb o g e=>M b o g e) n p q y B⟩
 self:=λA i s Q E st h=>by
  rcases f with e|e
  ·rw[e] at st;exact wpAny_pyIter_striter_ascii st h
  ·rw[e] at st;exact wpAny_pyIter_striter_wide st h
def acK(te:TE):TI:=λσ H R=>te σ H λv H1=>∃x,v=.str x/\R (Its x) H1
theorem Qa{X:Cx}{tg e:Expr}{te:TE}(c:PE X e te):PI X tg e (acK te):=by
 intro pins s σ H R I h;refine eF (c pins s σ H _ I h) λv s1 ⟨y,H1,a,d,x,ex,q⟩=>?_;subst ex;obtain⟨t,rfl⟩:=d;cases b:x.cps.all (· < 128)
 ·exact wpAny_pyIter_wide b<|P9 (tk:=s1.toks) a _ (HK _ x t "str_iterator"<|.inr rfl) .ez q
 ·exact wpAny_pyIter_ascii b<|P9 (tk:=s1.toks) a _ (HK _ x t "str_ascii_iterator"<|.inl rfl) .ez q
def ZZ(K:ah)(a:Addr):It:=
 ⟨λi H=>∃(xs:.r) (x:V),.b2/\.ck,λi H v H'=>∃T x,v=.ref T/\H T=none/\H'=upd H T (.tup [.bC,x])/\∀xs,.b2->.ck,λi H=>∃xs:.r,.b2/\xs.length<=i⟩
theorem M8{P:Program}{w:World}{K:ah}{n:.aU}{W:Nat}{tpos:Pos}(a e f:Addr):
  Turn P w K (.Tuple n W tpos) (ZZ K a) [e,f] e (λi h=>(∃c,IsEnum h e f ((i:Nat):Int) c)/\h.IsListIter f a i/\e≠f) where
 mem:=.m
 obj:=λi h st b g=>by
  obtain⟨⟨c,j⟩,⟨o,C,D,Y⟩,_⟩:=st;have F:b=e\/b=f:=.dj
  rcases F with z|z
  ·rw[z];exact⟨_,j,λv q=>nomatch q⟩
  ·rw[z];exact⟨o,C,λv q=>by rw[Y] at q;cases q⟩
 keep:=λi h h' st k=>let ⟨⟨c,j⟩,hi,d⟩:=st;⟨⟨c,k e .m _ j⟩,hi.at λo q=>k f .m o q,d⟩
 item:=by
  intro X G J L D i pins s σ H E I y st M;subst G J L;obtain⟨⟨c,j⟩,l,d⟩:=st;obtain⟨xs,x,B,N⟩:=M;obtain⟨its,O,p,Z⟩:=I.list B;obtain⟨u,hu,ru⟩:=O.get N;have r:e<s.heap.objs.size:=aZ j;have R:f<s.heap.objs.size:=by obtain⟨_,q,_⟩:=l;exact aZ q
  refine wpAny_pyNext_enum_item j l p.isList (x:=u) (by simpa using hu) d λh' C t hT hsz hk=>?_;refine⟨_,rfl,wpAny_letOwnedTupleGo_enum (s:={ s with heap:=h',toks:=s.toks+1 }) C λm S T=>?_⟩;have U:m.get? s.heap.objs.size=some { cls:=.bz,data:=.seq #[.int i s.toks,u] }:=(T.2 _<|gR r).trans hT;have new:dM X.prog X.w (upd H s.heap.objs.size<|.tup [.bC,x]) m s.heap.objs.size (.tup [.bC,x]):=
   ⟨ .b8,[.int i s.toks,u],.cons .Y<|.cons ru .nil,⟨_,U,rfl,_,rfl⟩⟩
  have I1:Inv X pins σ (upd H s.heap.objs.size<|.tup [.bC,x]) { s with heap:=m,toks:=s.toks+1 }:=
   I.CI (ch:=[e,f]) (λb ob g q=>(T.2 b λz=>g<|by simp[z]).trans<|hk b ob (λz=>g<|by simp[z]) (λz=>g<|by simp[z]) q) y (aG _) new
  refine⟨ .ba,_,I1,rfl,⟨_,x,rfl,I.hok.fresh<|aG _,rfl,λys hy=>by rw[I.Al hy B];exact N⟩,⟨⟨u,?_⟩,t.at λo q=>(T.2 f<|aF d).trans q,d⟩,λb g=>?_⟩
  ·have e1:((i+1:Nat):Int)=(i:Int)+1:=.h
   rw[e1];exact S
  ·have V:b<s.heap.objs.size:=by
    have F:b=e\/b=f:=.dj
    rcases F with z|z
    ·rw[z];exact r
    ·rw[z];exact R
   rw[aq<|cy V];exact(y b g).1
 done:=by
  intro X G J L D i pins s σ H E I y st M;subst G J L;obtain⟨⟨c,j⟩,l,d⟩:=st;obtain⟨xs,B,N⟩:=M;obtain⟨its,O,p,Z⟩:=I.list B;obtain⟨f0,f1,f2,f3,f4,f5⟩:=y f .m;have hl:=O.length;exact wpAny_pyNext_enum_end (I.ok.hd D) j l p.isList .bq λh' eb=>⟨rfl,I.turned (t':=s.toks) (λb o g q=>eb b o g q) f0 f1 f3 f4 f5⟩
 self:=λA i s Q E st h=>let ⟨⟨_,j⟩,_⟩:=st;wpAny_pyIter_enum j h
def aaJ(K:ah)(ta:TA):TI:=λσ H R=>ta σ H λvs H1=>∃a xs,vs=[.E]/\bh K H1 a xs/\R (ZZ K a) H1
theorem sE{X:Cx}{e:Expr}{ta:TA}{p pos tpos:Pos}{c:.aU}{j:Nat}(k:Gl X "enumerate")(l:X.mg "enumerate"=none)(m:PA X [e] ta)(hs:starEach [e] X.env=[(false,.bA)]:=by rfl):
  PI X (.Tuple c j tpos) (.Call (.Name "enumerate" p) [e] [] pos) (aaJ X.K ta):=by
 intro pins s σ H R I h;refine Call_<|Ak I k l boot_enumerate<|uU (eF (m pos pins s σ H _ I h) λus s1 ⟨vs,H1,f,n,o⟩=>?_) hs rfl;obtain⟨a,xs,ex,t,q⟩:=o;subst ex;cases n with
 |cons r rr=>
  cases rr;cases r;obtain⟨its,y,u,A⟩:=f.list t;refine call_enumerate_list u.isList λh' i g hsz hk=>wpAny_pyIter_enum i ?_;have v:Inv X pins σ H1 { s1 with heap:=h' }:=f.kept (t':=s1.toks) hk;refine⟨s1.heap.objs.size+1,[s1.heap.objs.size+1,s1.heap.objs.size],_,_,H1,rfl,v,M8 a (s1.heap.objs.size+1) s1.heap.objs.size,⟨⟨.none,i⟩,g,Nat.succ_ne_self _⟩,λb w=>?_,q⟩;have x:b=s1.heap.objs.size+1\/b=s1.heap.objs.size:=by simpa using w
  have d:s1.heap.objs.size<=b:=by
   rcases x with z|z
   ·rw[z];exact Fi _ _
   ·rw[z];exact aG _
  exact f.Jr d<|f.hok.fresh d
theorem M9:bootBuiltins "zip"=some (.type "zip"):=.aq
end L2
section
namespace Ya
open PySem PyProof.Rows
theorem qj(m:Nat):∀n:Nat,(m ^^^ n)+2*(m&&& n)=m+n:=by
 induction m using Nat.strongRecOn with
 |_ m ih=>
  intro n;by_cases b:m=0
  ·subst b;simp
  ·have a:=ih (m / 2) .h<|n / 2;rw[<-Nat.xor_div_two,<-Nat.and_div_two] at a;have o1:=@Nat.xor_mod_two_eq_one m n;have a1:=@Nat.and_mod_two_eq_one m n;omega
theorem Na{x y:Int}(a:0<=x)(b:0<=y):zS x y=((x.toNat ^^^ y.toNat:Nat):Int):=by
 have e:=qj x.toNat y.toNat;rw[bitXor_and,bitAnd_pp a b];omega
end Ya
end
section
namespace TL
open PySem PySem.Builtin PySem.Builtin.Str PySem.StrLaws
abbrev tl(x:Str):.e:=x.cps.toList
theorem wZ(x:Str):x.length=(tl x).length:=by simp[tl,B2]
theorem Yb{x y:Str}(h:tl x=tl y):x=y:=Str.ext'<|Ga.mp h
theorem CJ(x y:Str):tl (x++y)=tl x++tl y:=by
 show(x++y).cps.toList=_;rw[Str.cps_append,Array.toList_append]
theorem AN:∀{l m:.L},l.map tl=m.map tl->l=m
 |[],[],_=>rfl
 |[],_::_,h=>.b0
 |_::_,[],h=>.b0
 |x::l,y::m,h=>by
  rw[bP,bP] at h;injection h with h1 h2;rw[Yb h1,AN h2]
def pre(S l:.e):Bool:=l.take S.length == S
def spl(S:.e):Nat->.e->.e->.aV
 |_,acc,[]=>[acc]
 |0,acc,c::r=>.fo
 |k+1,acc,_::r=>spl S k acc r
def par(S:.e):.e->.e->Option (.e× .e)
 |_,[]=>none
 |acc,c::r=>if pre S (c::r)=true then some (acc,(c::r).drop S.length) else par S (acc++[c]) r
theorem yp(S:.e)(k:Nat)(acc:.e):spl S k acc []=[acc]:=by cases k<;>rfl
theorem Us{S acc r:.e}{c:Nat}(h:pre S (c::r)=true):spl S 0 acc (c::r)=acc::spl S (S.length-1) [] r:=by
 show .fo=_
 rw[if_pos h]
theorem Qb{S acc r:.e}{c:Nat}(h:pre S (c::r)=false):spl S 0 acc (c::r)=spl S 0 (acc++[c]) r:=by
 show .fo=_
 rw[if_neg (by rw[h];exact cX)]
theorem HL(S:.e):∀(k:Nat) (acc l:.e),spl S k acc l=spl S 0 acc (l.drop k)
 |0,_,_=>by rw[uB]
 |k+1,acc,[]=>by rw[List.drop_nil,yp,yp]
 |k+1,acc,c::r=>by
  show spl S k acc r=spl S 0 acc (r.drop k);exact HL S k acc r
theorem Ut{S:.e}(hS:S≠[]):pre S []=false:=by
 cases S with
 |nil=>exact absurd rfl hS
 |cons s S=>rfl
theorem HM{s c:Nat}(S r:.e)(h:c≠s):pre (s::S) (c::r)=false:=by
 cases hp:pre (s::S) (c::r) with
 |false=>rfl
 |true=>
  have e:(c::r).take (s::S).length=s::S:=eq_of_beq hp;rw[bB,EG] at e;injection e with e1 e2;exact absurd e1 h
theorem Qc(S r:.e):pre S (S++r)=true:=by
 show((S++r).take S.length == S)=true;have e:(S++r).take S.length=S:=EX;rw[e]<;>exact beq_self_eq_true S
theorem vI{L:.e}{a:Nat}(h:a<L.length):∃c,L.drop a=c::L.drop (a+1):=⟨L[a],uj h⟩
theorem vJ(S L:.e):∀(m a:Nat) (acc:.e),a+m<=L.length->(∀k,a<=k->k<a+m->pre S (L.drop k)=false)->
  spl S 0 acc (L.drop a)=spl S 0 (acc++(L.drop a).take m) (L.drop<|a+m)
 |0,a,acc,_,_=>by rw[List.take_zero,dR,Nat.add_zero]
 |m+1,a,acc,h,hn=>by
  have b:a<L.length:=.h
  obtain⟨c,e⟩:=vI b;have d:=hn a (aG _) .h;have f:=vJ S L m (a+1) (acc++[c]) .h (λk h1 h2=>hn k .h<|by omega);have g:a+1+m=a+(m+1):=.h
  rw[g] at f;rw[e] at d;rw[e,Qb d,f,EG,iR]<;>rfl
theorem HN(L:.e)(a b:Nat):(L.drop a).drop b=L.drop (a+b):=by
 first
  |rw[yS]
  |rw[yS,zd]
theorem Qe{S L:.e}(hS:S≠[]){c:Nat}{acc:.e}(h:pre S (L.drop c)=true):spl S 0 acc (L.drop c)=acc::spl S 0 [] (L.drop<|c+S.length):=by
 rw[<-HN];cases e:L.drop c with
 |nil=>rw[e,Ut hS] at h;cases h
 |cons d r=>
  rw[e] at h;rw[Us h,HL];cases S with
  |nil=>exact absurd rfl hS
  |cons s S=>rfl
theorem Qg{x y:Str}(b:tl y≠[])(i:Nat):At x y x.length i↔pre (tl y) ((tl x).drop i)=true:=by
 have d:=wZ x;have a:=wZ y;constructor
 ·intro h;have h2:=h.2;rw[subAt_eq,a] at h2;exact h2
 ·intro h;have e:((tl x).drop i).take (tl y).length=tl y:=eq_of_beq h;have c:=congrArg l4 e;rw[ie,iS] at c;have f:0<(tl y).length:=uq.mpr b;refine⟨ .h,?_⟩;rw[subAt_eq,a];exact h
theorem Wv{x y:Str}(a:tl y≠[]){i:Nat}(h:¬At x y x.length i):pre (tl y) ((tl x).drop i)=false:=by
 cases hp:pre (tl y) ((tl x).drop i) with
 |false=>rfl
 |true=>exact absurd ((Qg a i).mpr hp) h
theorem acL{y:Str}(a:tl y≠[]):1<=y.length:=by
 have b:0<(tl y).length:=uq.mpr a;rw[wZ y];exact b
theorem CL(x:Str)(i j:Nat):tl (strSub x i j)=((tl x).drop i).take (j-i):=strSub_toList x i j
theorem BK(x:Str)(i:Nat):tl (strSub x i x.length)=(tl x).drop i:=by
 rw[CL,wZ x];exact qC (by rw[iS]<;>omega)
theorem CM{x y:Str}(g:tl y≠[]):∀(d:.e) (a f:Nat),a<=(tl x).length->ChainG x y x.length a d f->(∀k,f<=k->¬At x y x.length k)->
  (partsFrom x y.length a d).map tl=spl (tl y) 0 [] ((tl x).drop a)
 |[],a,f,ha,h,hn=>by
  have e:f=a:=h;subst e;show [tl<|strSub x f x.length]=_;have b:=vJ (tl y) (tl x) ((tl x).length-f) f [] .h λk h1 _=>Wv g<|hn k h1;have i:f+((tl x).length-f)=(tl x).length:=.h
  rw[i,uy,yp,lX,qC (by rw[iS]<;>omega)] at b;rw[b,BK]
 |c::r,a,f,ha,h,hn=>by
  obtain⟨h1,h2,j,l⟩:=h;have p:c+y.length<=x.length:=h2.1;have q:=wZ x;have m:=wZ y;have n:=CM g r (c+y.length) f .h l hn;show tl (strSub x a c)::(partsFrom x y.length (c+y.length) r).map tl=_;have b:=vJ (tl y) (tl x) (c-a) a [] .h (λk o s=>Wv g<|j k o<|by omega);have i:a+(c-a)=c:=.h
  rw[i,lX,Qe g<|(Qg g c).mp h2] at b;rw[b,n,CL,m]
theorem Nc(x y:Str)(d:tl y≠[])(hk:¬iu x<iu y):(gY x y).map tl=spl (tl y) 0 [] (tl x):=by
 obtain⟨f,g,i⟩:=occ_tight x y<|acL d;have a:=CM d _ 0 f (bj _) g i;rw[uB] at a;have e:occurrences x y 0 x.length (x.length+1)=[]->[x].map tl=spl (tl y) 0 [] (tl x):=λb=>by
  rw[b] at a;rw[<-a];show [tl x]=[tl<|strSub x 0 x.length];rw[sub_whole]
 unfold gY;by_cases h1:(decide (x.length<y.length)||decide (iu x<iu y))=true
 ·rw[if_pos h1];have j:x.length<y.length:=by
   simp only[qP,decide_eq_true_eq] at h1;rcases h1 with h|h
   ·exact h
   ·exact absurd h hk
  refine e ?_;cases b:occurrences x y 0 x.length (x.length+1) with
  |nil=>rfl
  |cons c r=>
   rw[b] at g;have k:c+y.length<=x.length:=g.2.1.1;omega
 ·rw[if_neg h1];by_cases h2:(occurrences x y 0 x.length<|x.length+1).isEmpty=true
  ·rw[if_pos h2];exact e<|List.isEmpty_iff.mp h2
  ·rw[if_neg h2,partsBetween_eq];exact a
theorem Uu{x y:Str}(h:y.cps.all (· < 256)=true):¬iu x<iu y:=by
 have e:iu y=1:=by unfold iu;rw[if_pos h]
 rw[e];unfold iu;split
 ·omega
 ·split<;>omega
theorem Qh{S p rest acc:.e}(hS:S≠[])(h:∀i,i<p.length->pre S ((p++(S++rest)).drop i)=false):
  spl S 0 acc (p++(S++rest))=(acc++p)::spl S 0 [] rest:=by
 have a:=vJ S (p++(S++rest)) p.length 0 acc (by rw[bS];omega) (λk _ c=>h k<|by omega);have b:(p++(S++rest)).drop p.length=S++rest:=EY;rw[uB,kO,EX] at a;rw[a,Qe hS (by rw[b];exact Qc S rest),<-HN,b,EY]
theorem Qi{S p acc:.e}(h:∀i,i<p.length->pre S (p.drop i)=false):spl S 0 acc p=[acc++p]:=by
 have a:=vJ S p p.length 0 acc .h (λk _ b=>h k<|by omega);rw[uB,kO,uy,yp,gr] at a;exact a
theorem KS{s:Nat}{S p q:.e}(h:s∉p):∀i,i<p.length->pre (s::S) ((p++q).drop i)=false:=λi hi=>by
 have a:i<(p++q).length:=by rw[bS];omega
 have e:(p++q).drop i=(p++q)[i]::(p++q).drop (i+1):=uj a;rw[e];refine HM _ _ λz=>h ?_;have b:(p++q)[i]=p[i]:=List.getElem_append_left hi;rw[<-z,b];exact ux hi
theorem Nd{s:Nat}{S p rest acc:.e}(h:s∉p):spl (s::S) 0 acc (p++(s::S++rest))=(acc++p)::spl (s::S) 0 [] rest:=
 Qh .m (KS h)
theorem Nf{s:Nat}{S p acc:.e}(h:s∉p):spl (s::S) 0 acc p=[acc++p]:=Qi λi hi=>by
 have z:=KS (S:=S) (q:=[]) h i hi;rw[dR] at z;exact z
def vK(S:.e):.aV->.e
 |[]=>[]
 |[p]=>p
 |p::q::r=>p++(S++vK S (q::r))
theorem yq(y:Str):∀a:.L,tl (wI y a)=vK (tl y) (a.map tl)
 |[]=>rfl
 |[_]=>rfl
 |x::z::r=>by
  show tl (x++y++wI y (z::r))=tl x++(tl y++vK (tl y) ((z::r).map tl));rw[CJ,CJ,yq y (z::r),iR]
theorem HP{s:Nat}{S:.e}:∀{a:.aV},a≠[]->(∀p∈a,s∉p)->spl (s::S) 0 [] (vK (s::S) a)=a
 |[],h,_=>absurd rfl h
 |[p],_,hp=>by
  show spl (s::S) 0 [] p=[p];rw[Nf<|hp p<|yK.mpr rfl,lX]
 |p::q::r,_,hp=>by
  show spl (s::S) 0 [] (p++(s::S++vK (s::S) (q::r)))=p::q::r;rw[Nd<|hp p<|bf ..,lX,HP .m λz b=>hp z<|aV _ b]
theorem join_eq(y:Str)(a:.L):kU y a=wI y a:=glued_eq_join y a
theorem JF{y:Str}{s:Nat}{S:.e}(c:tl y=s::S)(hk:y.cps.all (· < 256)=true){a:.L}(b:a≠[])(hp:∀p∈a,s∉tl p):
  gY (kU y a) y=a:=by
 refine AN ?_;rw[Nc _ y (by rw[c];simp)<|Uu hk,join_eq,yq,c];refine HP (λe=>b<|yI.mp e) λp h=>?_;obtain⟨z,d,rfl⟩:=b6.mp h;exact hp z d
end TL
end
namespace L2
open PySem PySem.Spec PyProof.Rows
theorem CP:∀l:List (Str×Tok),Vals ((l.map (·.1)).map V.str) (strValues l)
 |[]=>.nil
 |p::r=>.cons ⟨p.2,rfl⟩<|CP r
theorem pQ:∀{ys:.L} {us:.u},Vals (ys.map V.str) us->StrsAre us ys
 |[],_,.nil=>.nil
 |y::ys,_,.cons r t=>by
  obtain⟨k,rfl⟩:=r;exact .cons y k<|pQ t
def AO(ys:.L):.aD:=λH Q=>∀p,H p=none->Q .aO (upd H p<|.lst<|ys.map V.str)
section
variable{X:Cx}{pins:.U}{σ:St}{H:Hp}{s:Shared}{Q:VK}
theorem w6{l:List (Str×Tok)}{ys:.L}{k:Nat}(I:.D)(e:l.map (·.1)=ys)(a:ys.length<=sizeLine)(h:AO ys H Q):
  EP X pins σ Q .ba { s with toks:=k,heap:=s.heap.push { cls:=.bB,data:=.seq (strValues l).toArray } }:=by
 have hp:=I.hok.fresh<|aG _;refine⟨ .ba,upd H s.heap.objs.size<|.lst<|ys.map V.str,I.laid (λb u q=>aY _ q) (aG _) ⟨by rw[au];exact a,strValues l,_,?_,cY _ rfl⟩,rfl,h _ hp⟩;rw[<-e];exact CP l
end
section
variable{X:Cx}
theorem Qj:XW X "str.split" .f4:=by
 intro pins s σ H x xs v us Q I f rs h;obtain⟨a,b,rfl,rfl,e,g,h⟩:=h;obtain⟨t,rfl⟩:=f;cases rs with
 |cons r1 rs=>
  cases rs;obtain⟨u,rfl⟩:=r1;have d:(gY a b).length<=sizeLine:=bK (Of a b) g;have i:(F5 a (zt a b 0 a.length<|a.length+1) b.length).length<=sizeLine:=by
   have j:=StrLaws.occ_length_le a b 0 a.length<|a.length+1;rw[length_partsBetween];omega
  cases h1:(decide (a.length<b.length)||decide (iu a<iu b))
  ·cases c:(zt a b 0 a.length<|a.length+1).isEmpty
   ·refine call_meets uM (typeIs_str _ _ _) zq (zp _ _) (meets_str_split_sep a b t u h1 e c .h i) ?_;show EP X pins σ Q .ba { s with toks:=_,heap:=s.heap.push { cls:=.bB,data:=.seq (strsFrom s.toks<|F5 a (zt a b 0 a.length<|a.length+1) b.length).toArray } };rw[strsFrom_eq];exact w6 (ys:=gY a b) I ((numbered_texts _ _).trans ((if_neg<|ne_true_of_eq_false h1).trans<|if_neg<|ne_true_of_eq_false c).symm) d h
   ·refine call_meets uM (typeIs_str _ _ _) zq (zp _ _) (meets_str_split_not_found a b t u h1 e c) ?_;exact w6 (l:=[(a,t)]) (ys:=gY a b) (k:=s.toks) I ((if_neg<|ne_true_of_eq_false h1).trans<|if_pos c).symm d h
  ·refine call_meets uM (typeIs_str _ _ _) zq (zp _ _) (meets_str_split_cannot_occur a b t u h1) ?_;exact w6 (l:=[(a,t)]) (ys:=gY a b) (k:=s.toks) I (if_pos h1).symm d h
theorem Uv:XW X "str.join" (λx xs H Q=>∃a p,∃ys:.L,x=.str a/\xs=[.aO]/\(bh X.K H p (ys.map V.str)\/gm X.K H p (ys.map V.str))/\
  (ys.map (·.length)).sum+ys.length*a.length<=16777216/\Q (.str (kU a ys)) H):=by
 intro pins s σ H x xs v us Q I c rs h;obtain⟨a,p,ys,rfl,rfl,hp,b,h⟩:=h;obtain⟨t,rfl⟩:=c;cases rs with
 |cons r1 rs=>
  cases rs;cases r1;rcases hp with hp|hp
  ·obtain⟨its,r,⟨o,n,d,e,_,f⟩,_⟩:=I.list hp;exact Od (items:=its.toArray) ⟨o,d,e,n,f⟩ (by rw[EH];exact pQ r) b λt' k=>⟨.str _,H,I.tok k,⟨t',rfl⟩,h⟩
  ·obtain⟨its,r,ht,_⟩:=I.tuple hp;exact Oc (items:=its.toArray) ht (by rw[EH];exact pQ r) b λt' k=>⟨.str _,H,I.tok k,⟨t',rfl⟩,h⟩
theorem mt1{id:String}{g:Str->Str->V}(c:∀(a b:Str) (t u:Tok) (s:Shared) (Q:.ac),(∀(v:Value) (k:Nat),RelV (g a b) v->Q v { s with toks:=k })->
  wpAny .af X.A (call (.builtin id) [.str a t,.str b u]) Q X.xe s):XW X id (λx xs H Q=>∃a b,x=.str a/\xs=[.str b]/\Q (g a b) H):=by
 intro pins s σ H x xs v us Q I d rs h;obtain⟨a,b,rfl,rfl,h⟩:=h;obtain⟨t,rfl⟩:=d;cases rs with
 |cons r1 rs=>
  cases rs;obtain⟨u,rfl⟩:=r1;exact c a b t u s _ λv k r=>⟨g a b,H,I.tok k,r,h⟩
theorem BL:XW X "str.startswith" (λx xs H Q=>∃a b,x=.str a/\xs=[.str b]/\Q (.bl<|uY a b) H):=
 mt1 (g:=λa b=>.bl<|uY a b) λ_ _ _ _ s _ h=>Mw<|h _ s.toks rfl
theorem gb:o8 X (.type "int") (λxs H Q=>∃a n,xs=[.str a]/\zr a=some n/\a.length<=640/\Q (.int n) H):=by
 intro pins s σ H xs us Q I rs h;obtain⟨a,n,rfl,b,c,h⟩:=h;cases rs with
 |cons r1 rs=>
  cases rs;obtain⟨t,rfl⟩:=r1;exact OS b c ⟨.int n,H,I.tok _,.Y,h⟩
end
section
variable{X:Cx}{o e:Expr}{to te:TE}
def tM1(r:V->.r->.aD)(to te:TE):TE:=λσ H Q=>to σ H λx H1=>(∃a,x=.str a)/\te σ H1 λy H2=>r x [y] H2 Q
theorem Qk{id:String}{name:Str}{apos pos:Pos}{r:V->.r->.aD}(slot:Slot "str" name id)(ty:.fM)(d:XW X id r)(i:PE X o to)(j:PE X e te)
  (hs:starEach [e] X.env=[(false,.bA)]:=by rfl) (b:attributeBase o name X.env .cu=.cu:=by rfl) (c:(apos.endLine == pos.line)=true:=by rfl):
  PE X (.Call (.Attribute o name apos) [e] [] pos) (tM1 r to te):=by
 intro pins s σ H Q I h;refine PySem.Call_method1 b hs c<|eF (i pins s σ H _ I h) λv s1 ⟨x,H1,k,g,f⟩=>?_;obtain⟨⟨a,rfl⟩,f⟩:=f;obtain⟨t,rfl⟩:=_root_.id g;refine⟨"str",_,F.plainAttrs_str,slot,ty,typeIs_str _ _ _,(λ_ e=>nomatch e),zM rfl<|Gg<|Gh ?_⟩;exact eF (j pins s1 σ H1 _ k f) λu l ⟨y,H2,m,n,p⟩=>Gi<|d pins l σ H2 _ [y] _ [u] Q m g (.cons n .nil) p
theorem HQ{apos pos:Pos}(f:PE X o to)(g:PE X e te)(hs:starEach [e] X.env=[(false,.bA)]:=by rfl)(c:attributeBase o "split" X.env .cu=.cu:=by rfl)(d:(apos.endLine == pos.line)=true:=by rfl):
  PE X (.Call (.Attribute o "split" apos) [e] [] pos) (tM1 .f4 to te):=
 Qk uM F.type_str_split Qj f g hs c d
theorem Uw{apos pos:Pos}(d:PE X o to)(f:PE X e te)(hs:starEach [e] X.env=[(false,.bA)]:=by rfl)(b:attributeBase o "join" X.env .cu=.cu:=by rfl)(c:(apos.endLine == pos.line)=true:=by rfl):
  PE X (.Call (.Attribute o "join" apos) [e] [] pos) (tM1 (λx xs H Q=>∃a p,∃ys:.L,x=.str a/\xs=[.aO]/\(bh X.K H p (ys.map V.str)\/gm X.K H p (ys.map V.str))/\
   (ys.map (·.length)).sum+ys.length*a.length<=16777216/\Q (.str (kU a ys)) H) to te):=
 Qk F.slot_str_join F.type_str_join Uv d f hs b c
end
section
variable{X:Cx}
theorem JG:xZ X (compareOp .In) (λx y H Q=>∃(c:Nat) (z:Str),x=.str ⟨#[c]⟩/\y=.str z/\Q (.bl<|decide (c∈z.cps.toList)) H):=by
 intro pins s σ H x y v u Q I a b h;obtain⟨c,z,rfl,rfl,q⟩:=h;obtain⟨t,rfl⟩:=a;obtain⟨t',rfl⟩:=b;exact L7<|du I q (N9 z c).symm
end
theorem IsPart.raw{v:Value}{o:.ab}(p:IsPart v o):∃l:Option (Int×Tok),v=partValue l/\l.map (·.1)=o:=by
 cases p with
 |none=>exact⟨none,rfl,rfl⟩
 |int i t=>exact⟨some (i,t),rfl,rfl⟩
def HR(n d:Nat):.ab->Int
 |none=>(d:Int)
 |some i=>max 0<|min (if i<0 then i+(n:Int) else i) (n:Int)
theorem HS(n d:Nat)(o:.ab):HR n d o=((HT.lu n d o:Nat):Int):=by
 cases o with
 |none=>rfl
 |some v=>
  show max (0:Int) (min (if v<0 then v+(n:Int) else v) (n:Int))=(((if v<0 then(v+(n:Int)).toNat else min v.toNat n):Nat):Int)
  by_cases hv:v<0
  ·simp only[if_pos hv];omega
  ·simp only[if_neg hv];omega
theorem Ng(a b:.ab)(n:Nat):jO a b 1 n=sliceRange (HR n 0 a) (HR n n b) 1:=by
 have h1:((1:Int)>0)=True:=.m
 cases a<;>cases b<;>first
  |rfl
  |(simp only[jO,HR,h1,if_true];rfl)
  |simp[jO,HR]
theorem acM(a b:.ab)(n:Nat):jO a b 1 n=(a8<|HT.lu n n b-HT.lu n 0 a).map (λk=>HT.lu n 0 a+k):=by
 rw[Ng,HS,HS];generalize HT.lu n 0 a=p;generalize HT.lu n n b=q;simp only[sliceRange,show((1:Int)>0)=True from .m,if_true];by_cases c:(p:Int)<q
 ·have d:(((q:Int)-p+1-1) / 1).toNat=q-p:=by first|omega|(simp;done)|(simp;omega)
  simp only[c,if_true,d];refine qD λk _=>?_;omega
 ·have:q-p=0:=.h
  simp[c,this]
def Ql(z:Str)(lo hi:.ab):Str:=
 ⟨ .f7⟩
theorem sX(z:Str)(lo hi:.ab):oM z lo hi=Ql z lo hi:=by
 have h1:HT.lu z.length 0 lo<=z.length:=HT.PL _ _ (bj _) _;have h2:HT.lu z.length z.length hi<=z.length:=HT.PL _ _ (aG _) _;have hp:HT.lu z.length 0 lo<=.eJ:=Nat.le_max_left _ _;have a:.eJ<=z.length:=Nat.max_le.mpr ⟨h1,h2⟩;have b:.eJ-HT.lu z.length 0 lo=HT.lu z.length z.length hi-HT.lu z.length 0 lo:=.h
 have e:jO lo hi 1 z.length=
   jO (some ((HT.lu z.length 0 lo:Nat):Int)) (some ((.eJ:Nat):Int)) 1 z.length:=by
  rw[N7 hp a,b,acM]
 have c:oM z lo hi=
   oM z (some ((HT.lu z.length 0 lo:Nat):Int)) (some ((.eJ:Nat):Int)):=by
  unfold oM;rw[e]
 rw[c,N8 z hp a,b];rfl
theorem HU(z:Str)(lo hi:.ab):(Ql z lo hi).length<=z.length:=by
 show(.f7).size<=z.cps.size;rw[b9,ie,iS,zw];omega
def acN:V->.ab->.ab->.aD:=λx lo hi H Q=>∃z,x=.str z/\z.length<=sizeLine/\Q (.str<|Ql z lo hi) H
theorem Yc{X:Cx}:SlR X acN:=by
 intro pins s σ H x v j k lo hi m Q I f hs pl g h;obtain⟨z,rfl,i,q⟩:=h;obtain⟨t,rfl⟩:=f;obtain⟨os,a,b,d⟩:=hs;obtain⟨l,rfl,rfl⟩:=IsPart.raw pl;obtain⟨u,rfl,rfl⟩:=IsPart.raw g;refine⟨"str",_,F.slot_str_getitem.lookup,typeIs_str _ _ _,?_⟩;refine wpAny_getItem_str_slice (l:=l) (u:=u) (st:=none) ⟨os,a,b,d⟩ rfl ?_;have e:(oM z (l.map (·.1))<|u.map (·.1)).length<=sizeLine:=by
  rw[sX];exact bK (HU z _ _) i
 rw[<-sX] at q;unfold oM at q e;show Made.post (if((1:Int) == 1&&(jO (l.map (·.1)) (u.map (·.1)) 1 z.length).length == z.length)=true then Made.val (.str z t)
  else Made.str ⟨((jO (l.map (·.1)) (u.map (·.1)) 1 z.length).filterMap (z.cps[·]?)).toArray⟩) .cb s
 by_cases c:((1:Int) == 1&&(jO (l.map (·.1)) (u.map (·.1)) 1 z.length).length == z.length)=true
 ·rw[.au] at q ⊢;exact⟨.str z,H,I,⟨t,rfl⟩,q⟩
 ·rw[.ag] at q e ⊢;exact⟨e,.str _,H,I.tok _,.Y,q⟩
def inClass(s:Stmt)(j:Nat):Stmt:=match s with
 |.ClassDef _ _ _ body _ _ _ _ _ _ _=>body.getD j<|.Pass ⟨0,0,0,0⟩
 |_=>.Pass ⟨0,0,0,0⟩
def fk(s:Stmt):Arguments:=match s with
 |.FunctionDef _ a _ _ _ _ _ _ _ _=>a
 |_=>{ posonlyargs:=[],args:=[],vararg:=none,kwonlyargs:=[],kw_defaults:=[],kwarg:=none,defaults:=[] }
def dZ(s:Stmt):List Stmt:=match s with
 |.FunctionDef _ _ b _ _ _ _ _ _ _=>b
 |_=>[]
def ao(s:Stmt):Scope:=match s with
 |.FunctionDef _ _ _ _ _ _ sc _ _ _=>sc
 |_=>{ kind:=.function,names:=[],isGenerator:=false,isCoroutine:=false }
abbrev bV:BD:=λ_ _ _ _ _ _=>False
abbrev E0:XK:=λ_ _ _=>False
theorem aP{X:Cx}:fM bV X E0:=λ_ _ _ _ _ _ _ h=>h.elim
structure d8(K:ah)(x qual:Str)(st:Stmt)(f:Addr)(fd:FuncData):Prop where
 ex:∃(oc:Value) (od:.bS) (kV doc pm:Value) (an:.bS) (cdv ct:Value) (osl:Array .br),
  fd=c9 x qual (fk st) (dZ st) .a1 .none kV doc pm an cdv ct/\K.lookup f=some ⟨oc,od,.func fd,osl⟩/\zb K cdv qual=true
 kp:jI K .aG=true
section
variable{P:Program}{w:World}{K:ah}{mg:.aa}{base:Heap}
theorem d8.ok{x a:Str}{st:Stmt}{f:Addr}{fd:FuncData}{N ps:.L}{k:Nat}{sp:Sp}(F:d8 K x a st f fd)(S:az N ps .a1)(len:.ej)
  (b:∀(cdv:Value) (A:Around) (outer:.a0) (s:Shared) (H:Hp) (vs:.r) (Q:VK) (E:XK),fK k (A.deeper (envOfC a .a1 s.heap.objs.size f cdv))->sp vs H Q E->
   ∃t,Dt (Ax bV P w K mg base N a .a1 f cdv A outer s H E).TJ (dZ st) t/\.eL):aX P w K mg base bV (k+1) f fd ps sp:=by
 obtain⟨oc,od,kV,doc,pm,an,cdv,ct,osl,rfl,e,c⟩:=F.ex;refine Wr e c S len λA outer s H vs Q E g d=>?_;obtain⟨t,h,q⟩:=b cdv A outer s H vs Q E g d;exact⟨t,h.TJ,q⟩
theorem d8.binds{x a:Str}{st:Stmt}{f:Addr}{fd:FuncData}{ps:.L}(F:d8 K x a st f fd)
  (h:∀(kV doc pm:Value) (an:.bS) (cdv ct:Value) (us:.u),us.length=ps.length->bindArgs (c9 x a (fk st) (dZ st) .a1 .none kV doc pm an cdv ct) ⟨us,[]⟩=pure (ps.zip us)):Binds K fd ps []:=by
 obtain⟨oc,od,kV,doc,pm,an,cdv,ct,osl,rfl,c,b⟩:=F.ex;exact .all<|h kV doc pm an cdv ct
theorem tI{x a:Str}{st:Stmt}{f:Addr}{oc:Value}{od an:.bS}{osl:Array .br}{kV doc pm cdv ct:Value}(l:K.lookup f=some ⟨oc,od,.func<|c9 x a (fk st) (dZ st) .a1 .none kV doc pm an cdv ct,osl⟩)
  (c:zb K cdv a=true) (k:jI K .aG=true):d8 K x a st f (c9 x a (fk st) (dZ st) .a1 .none kV doc pm an cdv ct):=⟨⟨oc,od,kV,doc,pm,an,cdv,ct,osl,rfl,l,c⟩,k⟩
end
theorem rM{A:Around}{k:Nat}(a:fK k A):A.units+1<cLine:=uF (Nat.add_le_add_left (.O:1<=64) _) a.units
section
variable{X:Cx}
theorem pv(i:Nat){x:Str}{pos:Pos}(b:X.N[i]?=.v:=by rfl)(hv:ZU X.env.scope x:=by first|exact kX rfl|exact qZ (kX rfl)|exact qZ<|qZ rfl)(c:.bc:=by decide)
  (a:(x == ("__classdict__":Str))=false:=by decide):PE X (.Name x pos) (aaf i):=XE b hv c a
end
theorem jW{A B:Prop}(h:B):if false=true then A else B:=by
 rw[if_neg cX];exact h
theorem ph{A B:Prop}(h:A):if true=true then A else B:=by
 rw[.ah];exact h
theorem c7{c A B:Prop}[Decidable c](h1:c->A)(h2:¬c->B):if c then A else B:=by
 by_cases h:c
 ·rw[if_pos h];exact h1 h
 ·rw[if_neg h];exact h2 h
def Same(H H':Hp):Prop:=∀b o,.dU
theorem Same.refl(H:Hp):Same H H:=λ_ _ h=>h
theorem Same.trans{H H1 H2:Hp}(a:Same H H1)(b:Same H1 H2):Same H H2:=λc o h=>b c o<|a c o h
theorem Same.free{H H':Hp}(e:.Q){l:Addr}(h:H' l=uS):H l=uS:=by
 cases q:H l with
 |none=>rfl
 |some o=>
  rw[e l o q] at h;cases h
theorem Same.seq{K:ah}{H H':Hp}{a:Addr}{xs:.r}(e:.Q)(h:.b2):bh K H' a xs:=by
 rcases h with(h|⟨o,h⟩)|h
 ·exact .inl<|.inl<|e _ _ h
 ·exact .inl<|.inr ⟨o,e _ _ h⟩
 ·exact .inr h
theorem Same.made{H H1:Hp}{x dx C:Addr}(nx:H x=uS)(a:H dx=uS)(k:∀b o,(upd (upd H dx<|.own x) x<|.ins C dx []) b=.i->b≠x->H1 b=.i):Same H H1:=λb o e=>
 k b o (by rw[aq<|aC e nx,aq<|aC e a];exact e) (aC e nx)
end L2
section
namespace L2
open PySem PySem.Spec PyProof.Rows
open PySem.W (WData Codec OpenSpec Well WellAll ReadsW ReadsAllW)
mutual
inductive Dw(K:ah)(H:Hp):V->WData->Prop
 |non:Dw K H .non .none
 |bl (b:Bool):Dw K H (.bl b) (.bool b)
 |int (i:Int):Dw K H (.int i) (.int i)
 |str (x:Str):Dw K H (.str x) (.str x)
 |Hi (b:Array UInt8):Dw K H (.Hi b) (.bytes b.toList)
 |lst {a:Addr} {xs:.r} {ds:.cj}:.b2->qk K H xs ds->Dw K H .E (.list ds)
 |tup {a:Addr} {xs:.r} {ds:.cj}:.cH->qk K H xs ds->Dw K H .E (.tuple ds)
inductive qk(K:ah)(H:Hp):.r->.cj->Prop
 |nil:qk K H [] []
 |cons {v:V} {vs:.r} {d:WData} {ds:.cj}:Dw K H v d->qk K H vs ds->qk K H (v::vs) (d::ds)
end
theorem KU{K:ah}{H:Hp}:∀ns:.ak,qk K H (ns.map V.int) (ns.map Cb)
 |[]=>.nil
 |n::r=>.cons (.int n)<|KU r
theorem KW{K:ah}{H:Hp}:∀(ns:.ak) (xs:.r),qk K H xs (ns.map Cb)->xs=ns.map V.int
 |[],xs,h=>by
  cases h;rfl
 |n::r,xs,h=>by
  cases h with
  |cons h1 h2=>
   cases h1;rw[KW r _ h2]<;>rfl
section
variable{P:Program}{w:World}{K:ah}{H:Hp}{h:Heap}{R:Fb}{cl:Str->.bS}
theorem Yd{a:Addr}{xs:.r}(b:.b6)(c:K.In h)(q:.b2):∃(its:.u) (o:Obj) (n:Nat),Vals xs its/\.a5=.i/\o.cls=.bB/\o.data=.seq its.toArray n:=by
 rcases q with q|⟨o,its,n,e,d,_,f,_,hv⟩
 ·obtain⟨_,its,n,hv,e⟩:=(show dM P w H h a (.lst xs) from q.ok b);exact⟨its,_,n,hv,e,rfl,rfl⟩
 ·exact⟨its.toList,o,n,hv,c _ _ e,d,by simp[f]⟩
theorem Ye{a:Addr}{xs:.r}(b:.b6)(f:K.In h)(q:.cH):∃(its:.u) (o:Obj) (n:Nat),Vals xs its/\.a5=.i/\o.cls=.bz/\o.data=.seq its.toArray n:=by
 rcases q with q|⟨o,its,n,e,c,d,_,hv⟩
 ·obtain⟨_,its,hv,o,e,c,n,d⟩:=(show dM P w H h a (.tup xs) from q.ok b);exact⟨its,o,n,hv,e,c,d⟩
 ·exact⟨its.toList,o,n,hv,f _ _ e,c,by simp[d]⟩
mutual
theorem Dw.reads(a:.b6)(c:K.In h):∀(d:WData) (v:V) (u:Value),Dw K H v d->RelV v u->∃as,ReadsW R cl h u d as
 |.none,_,_,x,r=>by
  cases x;cases r;exact⟨_,ReadsW.none⟩
 |.bool b,_,_,x,r=>by
  cases x;cases r;exact⟨_,ReadsW.bool b⟩
 |.int i,_,_,x,r=>by
  cases x;obtain⟨t,rfl⟩:=r;exact⟨_,ReadsW.int i t⟩
 |.str s,_,_,x,r=>by
  cases x;obtain⟨t,rfl⟩:=r;exact⟨_,ReadsW.str s t⟩
 |.bytes b,_,_,x,r=>by
  cases x;obtain⟨t,rfl⟩:=r;exact⟨_,ReadsW.bytes _ t⟩
 |.list ds,_,_,x,r=>by
  cases x with
  |lst hs ha=>
   cases r;obtain⟨its,o,n,e,f,g,j⟩:=Yd a c hs;obtain⟨as,k⟩:=Dw.readsAll a c ds _ its ha e;exact⟨_,ReadsW.list f g j k⟩
 |.tuple ds,_,_,x,r=>by
  cases x with
  |tup hs ha=>
   cases r;obtain⟨its,o,n,e,f,g,j⟩:=Ye a c hs;obtain⟨as,k⟩:=Dw.readsAll a c ds _ its ha e;exact⟨_,ReadsW.tuple f g j k⟩
 |.float _,_,_,x,_=>by cases x
 |.dict _,_,_,x,_=>by cases x
 |.bytearray _,_,_,x,_=>by cases x
 |.set _,_,_,x,_=>by cases x
 |.frozenset _,_,_,x,_=>by cases x
 |.obj _ _,_,_,x,_=>by cases x
theorem Dw.readsAll(a:.b6)(b:K.In h):∀(ds:.cj) (vs:.r) (us:.u),qk K H vs ds->Vals vs us->∃as,ReadsAllW R cl h us ds as
 |[],_,_,x,r=>by
  cases x;cases r;exact⟨_,MC⟩
 |d::ds,_,_,x,r=>by
  cases x with
  |cons h1 h2=>
   cases r with
   |cons r1 r2=>
    obtain⟨as,c⟩:=Dw.reads a b d _ _ h1 r1;obtain⟨bs,e⟩:=Dw.readsAll a b ds _ _ h2 r2;exact⟨_,MB c e⟩
end
end
mutual
def KY:WData->Bool
 |.none=>true
 |.bool _=>true
 |.int _=>true
 |.str _=>true
 |.bytes _=>true
 |.list xs=>x9 xs
 |.tuple xs=>x9 xs
 |_=>false
def x9:.cj->Bool
 |[]=>true
 |x::r=>KY x&&x9 r
end
theorem HV{α:Type}{f:α->WData}(h:∀a,KY (f a)=true):∀l:.aP,x9 (l.map f)=true
 |[]=>rfl
 |x::r=>by
  show(KY (f x)&&x9 (r.map f))=true;rw[h x,HV h r]<;>rfl
theorem rN:∀(c:Codec) (a:c.denote),KY (c.enc a)=true
 |.unit,_=>rfl
 |.bool,_=>rfl
 |.int _ _,_=>rfl
 |.nat _ _,_=>rfl
 |.u8,_=>rfl
 |.bytes _ _,_=>rfl
 |.text _ _ _ _,_=>rfl
 |.list _ _ c,a=>HV (λx=>rN c x) a
 |.pair c d,a=>by
  show(KY (c.enc a.1)&&(KY (d.enc a.2)&&true))=true;rw[rN c a.1,rN d a.2]<;>rfl
 |.triple c d e,a=>by
  show(KY (c.enc a.1)&&(KY (d.enc a.2.1)&&(KY (e.enc a.2.2)&&true)))=true;rw[rN c a.1,rN d a.2.1,rN e a.2.2]<;>rfl
 |.option c,none=>rfl
 |.option c,some x=>rN c x
theorem CQ:∀(cs:List Codec) (a:u0 cs),x9 (oV cs a)=true
 |[],_=>rfl
 |c::cs,a=>by
  show(KY (c.enc a.1)&&x9 (oV cs a.2))=true;rw[rN c a.1,CQ cs a.2]<;>rfl
theorem tJ:∀{xs:.cj} {d:WData},d∈xs->d.weight<=vd xs
 |[],d,h=>absurd h<|by simp
 |x::r,d,h=>by
  show d.weight<=x.weight+1+vd r;rcases aH.mp h with e|m
  ·rw[e];omega
  ·have z:=tJ m;omega
def toV:Value->V
 |.none=>.non
 |.bool b=>.bl b
 |.int i _=>.int i
 |.str x _=>.str x
 |.bytes b _=>.Hi b
 |.ref a=>.E
 |_=>.non
def Nh(A:.B):Value->Prop
 |.none=>True
 |.bool _=>True
 |.int _ _=>True
 |.str _ _=>True
 |.bytes _ _=>True
 |.ref a=>a∈A
 |_=>False
theorem Nh.mono{A B:.B}(h:∀a∈A,a∈B):∀{u:Value},Nh A u->Nh B u:=λ{u} x=>by
 cases u with
 |ref a=>exact h a x
 |none=>trivial
 |bool b=>trivial
 |int i t=>trivial
 |str s t=>trivial
 |bytes b t=>trivial
 |_=>exact de x
theorem Qm{A:.B}{u:Value}(x:Nh A u):RelV (toV u) u:=by
 cases u with
 |ref a=>rfl
 |none=>rfl
 |bool b=>rfl
 |int i t=>exact⟨t,rfl⟩
 |str s t=>exact⟨t,rfl⟩
 |bytes b t=>exact⟨t,rfl⟩
 |_=>exact de x
theorem pw{A:.B}:∀{vs:.u},(∀u∈vs,Nh A u)->Vals (vs.map toV) vs
 |[],_=>.nil
 |u::r,h=>.cons (Qm<|h u<|bf ..)<|pw λx a=>h x<|aV _ a
def qo(h:Heap)(A:.B)(a:Addr):Prop:=∃vs:.u,vs.length<=sizeLine/\(∀u∈vs,Nh A u)/\
 (.a5=some .dt\/.a5=some .ds)
theorem qo.mono{h:Heap}{A B:.B}{a:Addr}(k:∀a∈A,a∈B)(x:qo h A a):qo h B a:=by
 obtain⟨vs,h1,h2,b⟩:=x;exact⟨vs,h1,λu c=>(h2 u c).mono k,b⟩
theorem nF{P:Params}{h:Heap}:∀{vs:.u} {ds:.cj},WellAll P h vs ds->vs.length=ds.length
 |_,_,.nil=>rfl
 |_,_,.cons _ b=>by
  show _+1=_+1;rw[nF b]
theorem CS{P:Params}{h:Heap}{v:Value}{ds:.cj}(x:Well P h v (.list ds)):∃(a:Addr) (vs:.u),v=.E/\.a5=some .dt/\WellAll P h vs ds:=by
 cases x with
 |list ho hall=>exact⟨_,_,rfl,ho,hall⟩
theorem AQ{P:Params}{h:Heap}{v:Value}{ds:.cj}(x:Well P h v (.tuple ds)):∃(a:Addr) (vs:.u),v=.E/\.a5=some .ds/\WellAll P h vs ds:=by
 cases x with
 |tuple ho hall=>exact⟨_,_,rfl,ho,hall⟩
theorem CT{P:Params}{h:Heap}{us:.u}{d:WData}{ds:.cj}(x:WellAll P h us (d::ds)):∃(v:Value) (vs:.u),us=v::vs/\Well P h v d/\WellAll P h vs ds:=by
 cases x with
 |cons a b=>exact⟨_,_,rfl,a,b⟩
theorem KZ{n:Nat}(h:n<=1048576):n<=sizeLine:=bK h<|by decide
section
variable{P:Params}{h:Heap}
mutual
theorem Qn:∀(d:WData) (v:Value),Well P h v d->KY d=true->d.weight<=1048576->∃A:.B,Nh A v/\∀a∈A,qo h A a
 |.none,_,x,_,_=>by
  cases x;exact .eN
 |.bool b,_,x,_,_=>by
  cases x;exact .eN
 |.int i,_,x,_,_=>by
  cases x;exact .eN
 |.str s,_,x,_,_=>by
  cases x;exact .eN
 |.bytes b,_,x,_,_=>by
  cases x;exact .eN
 |.list ds,_,x,p,z=>by
  obtain⟨a,vs,rfl,j,c⟩:=CS x;have g:vd ds<=1048576:=z;obtain⟨A,h1,h2⟩:=vL ds _ c p λd l=>bK (tJ l) g;have k:∀b∈A,b∈a::A:=λb f=>aV _ f;refine⟨a::A,bf ..,λb f=>?_⟩;rcases aH.mp f with e|m
  ·rw[e];exact⟨vs,KZ (by rw[nF c];exact bK (E3 ds) g),λu n=>(h1 u n).mono k,.inl j⟩
  ·exact(h2 b m).mono k
 |.tuple ds,_,x,p,z=>by
  obtain⟨a,vs,rfl,j,c⟩:=AQ x;have g:vd ds<=1048576:=z;obtain⟨A,h1,h2⟩:=vL ds _ c p λd l=>bK (tJ l) g;have k:∀b∈A,b∈a::A:=λb f=>aV _ f;refine⟨a::A,bf ..,λb f=>?_⟩;rcases aH.mp f with e|m
  ·rw[e];exact⟨vs,KZ (by rw[nF c];exact bK (E3 ds) g),λu n=>(h1 u n).mono k,.inr j⟩
  ·exact(h2 b m).mono k
 |.float _,_,_,p,_=>.cN
 |.dict _,_,_,p,_=>.cN
 |.bytearray _,_,_,p,_=>.cN
 |.set _,_,_,p,_=>.cN
 |.frozenset _,_,_,p,_=>.cN
 |.obj _ _,_,_,p,_=>.cN
theorem vL:∀(ds:.cj) (vs:.u),WellAll P h vs ds->x9 ds=true->(∀d∈ds,d.weight<=1048576)->∃A:.B,(∀u∈vs,Nh A u)/\∀a∈A,qo h A a
 |[],_,x,_,_=>by
  cases x;exact⟨[],λu m=>absurd m<|by simp,λa m=>absurd m<|by simp⟩
 |d::ds,_,x,p,z=>by
  obtain⟨v,vs,rfl,x1,x2⟩:=CT x;have q:KY d=true/\x9 ds=true:=uK.mp p;obtain⟨A,a1,a2⟩:=Qn d v x1 q.1<|z d<|bf ..;obtain⟨B,b1,b2⟩:=vL ds vs x2 q.2 λe i=>z e<|aV _ i;have f:∀b∈A,b∈A++B:=λb c=>bZ.mpr<|.inl c;have g:∀b∈B,b∈A++B:=λb c=>bZ.mpr<|.inr c;refine⟨A++B,λu j=>?_,λb c=>?_⟩
  ·rcases aH.mp j with e|m
   ·rw[e];exact a1.mono f
   ·exact(b1 u m).mono g
  ·rcases bZ.mp c with m|m
   ·exact(a2 b m).mono f
   ·exact(b2 b m).mono g
end
end
def Ux(o:Obj):Option HO:=match o.data with
 |.seq vs _=>if(o.cls == my "list")=true then some (.BA o<|.lst<|vs.toList.map toV) else some<|.BA o<|.tup<|vs.toList.map toV
 |_=>none
def pR(K:ah)(h:Heap)(A:.B):Hp:=λb=>if b∈A then(if(K.lookup b).isNone=true then(h.get? b).bind Ux else none) else none
def HW(H:Hp):Prop:=∀b,.aR\/∃o u,H b=some (.BA o u)
theorem HX(vs:.u):Ux .dt=some (.BA .dt<|.lst<|vs.map toV):=by
 show(if(my "list" == my "list")=true then some (HO.BA .dt<|.lst<|vs.toArray.toList.map toV) else some<|HO.BA .dt<|.tup<|vs.toArray.toList.map toV)=_
 rw[if_pos<|beq_self_eq_true _]
theorem HY(vs:.u):Ux .ds=some (.BA .ds<|.tup<|vs.map toV):=by
 show(if(my "tuple" == my "list")=true then some (HO.BA .ds<|.lst<|vs.toArray.toList.map toV) else some<|HO.BA .ds<|.tup<|vs.toArray.toList.map toV)=_
 rw[.be]
section
variable{P:Program}{w:World}{K:ah}{h:Heap}{A:.B}
theorem yr{b:Addr}{o:Obj}(a:b∈A)(hk:K.lookup b=none)(e:.bK):pR K h A b=Ux o:=by
 unfold pR;rw[if_pos a,hk,if_pos<|show(none:Option Obj).isNone=true from rfl,e]<;>rfl
theorem Uy{b:Addr}{u:HO}(q:pR K h A b=.ai):b∈A/\K.lookup b=none:=by
 unfold pR at q;by_cases a:b∈A
 ·rw[if_pos a] at q;cases hk:K.lookup b with
  |none=>exact⟨a,rfl⟩
  |some o=>
   rw[hk,if_neg<|by simp] at q;cases q
 ·rw[if_neg a] at q;cases q
theorem yt(d:∀a∈A,qo h A a){b:Addr}{u:HO}(q:pR K h A b=.ai):K.lookup b=none/\∃vs:.u,vs.length<=sizeLine/\(∀u∈vs,Nh A u)/\
  ((h.get? b=some .dt/\u=.BA .dt (.lst (vs.map toV)))\/
   (h.get? b=some .ds/\u=.BA .ds (.tup (vs.map toV)))):=by
 obtain⟨c,hk⟩:=Uy q;obtain⟨vs,h1,h2,f⟩:=d b c;refine⟨hk,vs,h1,h2,?_⟩;rcases f with e|e
 ·rw[yr c hk e,HX] at q;exact .inl ⟨e,(aI q).symm⟩
 ·rw[yr c hk e,HY] at q;exact .inr ⟨e,(aI q).symm⟩
theorem Ni(c:∀a∈A,qo h A a):HW (pR K h A):=λb=>by
 cases q:pR K h A b with
 |none=>exact .ar
 |some u=>
  obtain⟨_,vs,_,_,⟨_,e⟩|⟨_,e⟩⟩:=yt c q
  ·exact .inr ⟨_,_,by rw[e]⟩
  ·exact .inr ⟨_,_,by rw[e]⟩
theorem Uz(c:∀a∈A,qo h A a):o6 P w (pR K h A) h:=λb u q=>by
 obtain⟨_,vs,h1,h2,⟨e,rfl⟩|⟨e,rfl⟩⟩:=yt c q
 ·exact⟨e,by rw[au];exact h1,vs,_,pw h2,e⟩
 ·exact⟨e,by rw[au];exact h1,vs,pw h2,_,e,rfl,_,rfl⟩
theorem yu{c c':Value}{vs us:.u}(e:(some { cls:=c,data:=.seq vs.toArray }:Option Obj)=some { cls:=c',data:=.seq us.toArray }):c=c'/\vs=us:=by
 have a:=aI e;have b:c=c':=congrArg Obj.cls a;have d:vf vs.toArray=vf us.toArray:=congrArg B4 a;injection d with e4;refine⟨b,?_⟩;have f:=congrArg zF e4;simpa using f
theorem acO(d:K.In h)(f:∀a∈A,qo h A a){a:Addr}{vs:.u}(b:a∈A)(e:.a5=some .dt):(∀u∈vs,Nh A u)/\bh K (pR K h A) a (vs.map toV):=by
 obtain⟨us,h1,h2,g⟩:=f a b;have i:us=vs:=by
  rcases g with q|q
  ·rw[e] at q;exact(yu q).2.symm
  ·rw[e] at q;exact absurd (GQ (yu q).1)<|by decide
 subst i;refine⟨h2,?_⟩;cases hk:K.lookup a with
 |none=>exact .inl<|.inr ⟨_,by rw[yr b hk e,HX]⟩
 |some o=>
  have c:=d a o hk;rw[e] at c;obtain rfl:=aI c;exact .inr ⟨_,us.toArray,_,hk,rfl,rfl,rfl,by rw[b9];exact h1,by simpa using pw h2⟩
theorem acP(d:K.In h)(f:∀a∈A,qo h A a){a:Addr}{vs:.u}(b:a∈A)(e:.a5=some .ds):(∀u∈vs,Nh A u)/\gm K (pR K h A) a (vs.map toV):=by
 obtain⟨us,h1,h2,g⟩:=f a b;have i:us=vs:=by
  rcases g with q|q
  ·rw[e] at q;exact absurd (GQ (yu q).1)<|by decide
  ·rw[e] at q;exact(yu q).2.symm
 subst i;refine⟨h2,?_⟩;cases hk:K.lookup a with
 |none=>exact .inl<|.inr ⟨_,by rw[yr b hk e,HY]⟩
 |some o=>
  have c:=d a o hk;rw[e] at c;obtain rfl:=aI c;exact .inr ⟨_,us.toArray,_,hk,rfl,rfl,by rw[b9];exact h1,by simpa using pw h2⟩
mutual
theorem Yf{j:Params}(e:K.In h)(f:∀a∈A,qo h A a):∀(d:WData) (v:Value),Well j h v d->KY d=true->Nh A v->Dw K (pR K h A) (toV v) d
 |.none,_,x,_,_=>by
  cases x;exact .non
 |.bool b,_,x,_,_=>by
  cases x;exact .bl b
 |.int i,_,x,_,_=>by
  cases x;exact .int i
 |.str s,_,x,_,_=>by
  cases x;exact .str s
 |.bytes b,_,x,_,_=>by
  cases x;have z:=Dw.Hi (K:=K) (H:=pR K h A) b.toArray;exact z
 |.list ds,_,x,p,hu=>by
  obtain⟨a,vs,rfl,g,c⟩:=CS x;obtain⟨h2,hs⟩:=acO e f hu g;exact .lst hs<|DN e f ds _ c p h2
 |.tuple ds,_,x,p,hu=>by
  obtain⟨a,vs,rfl,g,c⟩:=AQ x;obtain⟨h2,hs⟩:=acP e f hu g;exact .tup hs<|DN e f ds _ c p h2
 |.float _,_,_,p,_=>.cN
 |.dict _,_,_,p,_=>.cN
 |.bytearray _,_,_,p,_=>.cN
 |.set _,_,_,p,_=>.cN
 |.frozenset _,_,_,p,_=>.cN
 |.obj _ _,_,_,p,_=>.cN
theorem DN{e:Params}(b:K.In h)(c:∀a∈A,qo h A a):∀(ds:.cj) (vs:.u),WellAll e h vs ds->x9 ds=true->(∀u∈vs,Nh A u)->qk K (pR K h A) (vs.map toV) ds
 |[],_,x,_,_=>by
  cases x;exact .nil
 |d::ds,_,x,p,hu=>by
  obtain⟨v,vs,rfl,x1,x2⟩:=CT x;have q:KY d=true/\x9 ds=true:=uK.mp p;exact .cons (Yf b c d v x1 q.1<|hu _<|bf ..)<|DN b c ds vs x2 q.2 λu m=>hu u<|aV _ m
end
end
theorem Nj{P:Program}{w:World}{K:ah}{mg E:.aa}{CX:BD}{k:Nat}{T:Addr}{fd:FuncData}{ps:.L}{sp:Sp}{s₁:Shared}{a:.u}{ds:.cj}{R:Fb}{cl:Str->.bS}{d0:WData}
  (G:K.In s₁.heap) (l:s₁.heap.Ns mainGlobals mg) (I:s₁.heap.Ns builtinsNs E) (J:∀x:Str,x≠"__name__"->E x=bootBuiltins x) (p:s₁.heap.NoLimit) (hg:s₁.gens=#[])
  (g:WellAll w.params s₁.heap a ds) (t:x9 ds=true) (L:∀d∈ds,d.weight<=1048576) (hr:fK k callerA)
  (F:∀base:Heap,K.In base->base.Ns mainGlobals mg->aX P w K mg base CX k T fd ps sp) (h:.fm) (y:ds.length=ps.length)
  (M:∀(H:Hp) (xs:.r),HW H->qk K H xs ds->sp xs H (λv H'=>Dw K H' v d0) λ_ _ _=>False)
  (N:∀H e s',CX [] H s₁ (λ_ _ _=>False) e s'->False):
  codeAny (model P w) callerA (.call (.ref T) ⟨a,[]⟩) (λr s'=>∃u as,r=.ok (.ret u)/\ReadsW R cl s'.heap u d0 as/\OldK s₁.heap s'.heap/\s'.os=s₁.os/\AllBare s'.gens) s₁:=by
 obtain⟨A,U,B⟩:=vL ds a g t L;have O:HW (pR K s₁.heap A):=Ni B;have i:o6 P w (pR K s₁.heap A) s₁.heap:=Uz B;have hS:=DN G B ds a g t U;have hV:=pw U;have W:∀b u,pR K s₁.heap A b=.ai->K.lookup b=none:=λb u q=>(yt B q).1;have X:∀{b:Addr} {o:Obj} {es:Array DictEntry} {j:Nat},s₁.heap.get? b=.i->o.data=.dict es j->pR K s₁.heap A b=none:=λ{b o es j} e d=>by
  cases q:pR K s₁.heap A b with
  |none=>rfl
  |some u=>
   obtain⟨_,vs,_,_,⟨C,_⟩|⟨C,_⟩⟩:=yt B q
   ·rw[C] at e;cases e;have d':vf vs.toArray _=Cd es j:=d;cases d'
   ·rw[C] at e;cases e;have d':vf vs.toArray _=Cd es j:=d;cases d'
 generalize pR K s₁.heap A=H at O i hS W X;have Y:∀{b:Addr} {o:Obj},s₁.heap.get? b=.i->.aR->(Dr s₁.heap H).get? b=.i:=λe n=>Ph e n;have c:∀{b:Addr} {m:.aa},s₁.heap.Ns b m->(Dr s₁.heap H).Ns b m:=λ{b m} ⟨o,es,j,e,d,r⟩=>⟨o,es,j,Y e<|X e d,d,r⟩;have nK:∀b o,K.lookup b=.i->.aR:=λb o e=>by
  cases q:H b with
  |none=>rfl
  |some u=>
   rw[W b u q] at e;cases e
 have D:K.In (Dr s₁.heap H):=λb o e=>Y (G b o e)<|nK b o e;have hM:Mod K mg (Dr s₁.heap H):=⟨D,c l,⟨E,c I,J⟩,let ⟨mc,h1,h2⟩:=p;⟨mc,c h1,h2⟩⟩;have e0:BH P w K mg (Dr s₁.heap H) callerA [] s₁ H:=⟨rfl,hM,λb o e=>TB e,jJ<|MV _ _,trivial,λb I=>absurd (show b∈([]:.B) from I)<|by simp,i,.of_eq hg⟩;have hl:a.length=ps.length:=by rw[nF g];exact y
 refine codeAny_mono ((F _ D<|c l).run callerA [] s₁ H ⟨a,[]⟩ a (a.map toV) _ _ hr e0 (h s₁ a hl) hV<|M H _ O hS) λr s' x=>?_;cases r with
 |error e=>exact(N H e s' x).elim
 |ok fl=>
  cases fl with
  |next=>exact de x
  |brk=>exact de x
  |cont=>exact de x
  |ret u=>
   obtain⟨v,H',os,bare,un,f,r',q⟩:=x;have kept:∀b o,s₁.heap.get? b=.i->s'.heap.get? b=.i:=λb o e=>by
    cases Z:H b with
    |none=>exact un.keep b o e Z (by intro z;exact absurd (show b∈([]:.B) from z)<|by simp)<|by simp
    |some u2=>
     rcases O b with z|⟨ob,u3,z⟩
     ·rw[Z] at z;cases z
     ·have z2:=un.pM b ob _ z;obtain⟨e1,_⟩:=i b _ z;obtain⟨C,_⟩:=f b _ z2;rw[e] at e1;cases e1;exact C
   have Q:K.In s'.heap:=λb o e=>kept b o<|G b o e;obtain⟨as,S⟩:=Dw.reads (R:=R) (cl:=cl) f Q d0 v u q r';exact⟨u,as,rfl,S,OldK.of_keep kept,os,bare⟩
theorem AR{ds:.cj}(h:WData.layableAll ds=true):∀d∈ds,d.weight<=1048576:=λd a=>
 (PySem.W.layableW_iff.mp<|eC.mp h d a).2.2
theorem AS:∀(cs:List Codec) (a:u0 cs),(oV cs a).length=cs.length
 |[],_=>rfl
 |c::cs,a=>by
  show(oV cs a.2).length+1=cs.length+1;rw[AS cs a.2]
theorem Nk{r:OpenSpec}{k:Nat}{q:Program}{c:.L}{E:.aa->Heap->Prop}{p:World->Heap->Prop}{d:DefRec}{K:Params->ah}{CX:World->BD}{ps:.L}{sp:World->Sp}
  (I:r.wellSaid=true) (J:d.params.defaults=[]) (i:r.args.length=ps.length) (L:fK k callerA)
  (M:∀(w:World) (h:Heap),p w h->(K w.params).In h)
  (F:∀(w:World) (mg:.aa) (n:Addr) (h:Heap),p w h->(K w.params).In h->h.Ns mainGlobals mg->mg d.name=some (.ref n)->
   ∃fd:FuncData,.fm/\
    ∀base:Heap,(K w.params).In base->base.Ns mainGlobals mg->aX r.prog w (K w.params) mg base (CX w) k n fd ps (sp w))
  (t:∀(w:World) (H:Hp) (xs:.r) (a:u0 r.args),HW H->Gj r.args a=true->qW r.args r.asked a=true->qk (K w.params) H xs (oV r.args a)->
   sp w xs H (λv H'=>Dw (K w.params) H' v (r.ret.enc (qW r.args r.f a))) λ_ _ _=>False)
  (x:∀(w:World) (H:Hp) (s:Shared) (e:Value) (s':Shared),CX w [] H s (λ_ _ _=>False) e s'->False):
  Fd q c E p r d [] (λf vs=>B1 f vs):=by
 intro w wL s₁ mg mb G Y n o pm cd doc dV kV ho hd N hD y O args C as j l P A Q;obtain⟨a,S,U⟩:=PySem.W.os_pre_some j;obtain⟨X,m⟩:=Codec.encAll_of_decAll r.args args a S;subst X;have D:=M w _ Y;obtain⟨fd,Z,hF⟩:=F w mg n _ Y D G.T.g y;refine PySem.W.enter_call (codeAny_mono (Nj (R:=[]) (cl:=classAt wL.heap) (d0:=r.ret.enc (qW r.args r.f a)) D G.T.g G.T.b G.T.builtins G.T.nolimit O A (CQ _ _) (AR l) L hF Z (by rw[AS];exact i)
  (λH xs hO hS=>t w H xs a hO m U hS) λH e s'=>x w H s₁ e s') λr' s' hq=>?_)
 obtain⟨u,B,rfl,h1,h2,h3,h4⟩:=hq;exact⟨.inl ⟨u,_,B,rfl,λ_=>rfl,h1,(My I m _ _).mpr rfl,λz=>gw<|show false=true from z⟩,h2,h3,h4⟩
theorem JH{r:OpenSpec}{k:Nat}{q:Program}{b:.L}{n:.aa->Heap->Prop}{g:World->Heap->Prop}{d:DefRec}{K:Params->ah}{CX:BD}{ps:.L}{sp:ah->Sp}
  (o:r.wellSaid=true) (i:d.params.defaults=[]) (c:r.args.length=ps.length) (p:fK k callerA)
  (t:∀(w:World) (h:Heap),g w h->(K w.params).In h)
  (F:∀(w:World) (mg:.aa) (m:Addr) (h:Heap),g w h->(K w.params).In h->h.Ns mainGlobals mg->mg d.name=some (.ref m)->
   ∃fd:FuncData,.fm/\
    ∀base:Heap,(K w.params).In base->base.Ns mainGlobals mg->aX r.prog w (K w.params) mg base CX k m fd ps (sp (K w.params)))
  (j:∀(K:ah) (H:Hp) (xs:.r) (a:u0 r.args),HW H->Gj r.args a=true->qW r.args r.asked a=true->qk K H xs (oV r.args a)->
   sp K xs H (λv H'=>Dw K H' v (r.ret.enc (qW r.args r.f a))) λ_ _ _=>False)
  (l:∀(H:Hp) (s:Shared) (e:Value) (s':Shared),CX [] H s (λ_ _ _=>False) e s'->False):
  Fd q b n g r d [] (λf vs=>B1 f vs):=
 Nk (K:=K) (CX:=λ_=>CX) (sp:=λw=>sp<|K w.params) o i c p t F (λw H xs a h1 h2 u x=>j (K w.params) H xs a h1 h2 u x) λ_ H s e s'=>l H s e s'
end L2
end
namespace L2
open PySem PySem.Spec PyProof.Rows
def px(e C:Addr)(dx:.bS):HO:=.ext λh=>∃vs:.aE,h.get? e=some { cls:=.I,dict:=dx,data:=.ci }/\vs[1]?=some .none
def HZ(e C dx:Addr):HO:=.ext λh=>∃(vs:.aE) (a:Array .br),h.get? e=some { cls:=.I,dict:=some dx,data:=.ci,slots:=a }
def qv(d:Addr)(fs:.az):HO:=.ext λh=>∃mA,h.Ns1 d mA/\.es/\oF mA (fs.map (·.1))
section
variable{P:Program}{w:World}{H:Hp}{h:Heap}{e C d:Addr}{dx:.bS}{fs:.az}
theorem px.ok{vs:.aE}(a:h.get? e=some { cls:=.I,dict:=dx,data:=.ci })(h1:vs[1]?=some .none):dM P w H h e (px e C dx):=
 ⟨⟨vs,a,h1⟩,⟨_,a⟩,λ_ _ ⟨vs,q,b⟩ k=>⟨vs,k _ q,b⟩⟩
theorem HZ.ok{vs:.aE}{a:Array .br}(b:h.get? e=some { cls:=.I,dict:=.aS,data:=.ci,slots:=a }):dM P w H h e (HZ e C d):=
 ⟨⟨vs,a,b⟩,⟨_,b⟩,λ_ _ ⟨vs,a,q⟩ k=>⟨vs,a,k _ q⟩⟩
theorem qv.ok{mA:.aa}(n:h.Ns1 d mA)(r:.es)(a:oF mA (fs.map (·.1))):dM P w H h d (qv d fs):=by
 refine⟨⟨mA,n,r,a⟩,?_,λ_ _ ⟨mA,⟨o,es,b,q,z⟩,r,a⟩ k=>⟨mA,⟨o,es,b,k _ q,z⟩,r,a⟩⟩;obtain⟨o,_,_,q,_⟩:=n;exact⟨o,q⟩
end
structure Ep(K:ah)(C:Addr)(cd:ClassData):Prop where
 cls:Fe K C=some cd
 ord:XL.mG cd.mro=true
 dict:cd.hasDict=true
 set:fD K .I "__setattr__"=.el
 get:fD K .I "__getattribute__"=.fL
 hook:fD K .I "__getattr__"=.am
 typ:y9 K .I=some .bN
theorem Ep.base{K:ah}{C:Addr}{cd:ClassData}(x:Ep K C cd):cd.mro.contains .cy=true/\cd.mro.contains .bN=false/\cd.mro.isEmpty=false:=by
 have d:∀l:.u,XL.mG l=true->l.contains .cy=true/\l.contains .bN=false/\l.isEmpty=false:=by
  intro l;induction l with
  |nil=>intro e;cases e
  |cons v r ih=>
   intro e;cases v with
   |ref c=>
    obtain⟨a,b,_⟩:=ih e;exact⟨by rw[uu,a,zh],by rw[uu,b];rfl,rfl⟩
   |_=>
    have z:=.ft;rw[z];exact⟨ .aq,.aq,rfl⟩
 exact d _ x.ord
def excPut(H:Hp)(e C d:Addr)(fs:.az):Hp:=upd (upd H d<|qv d fs) e<|px e C<|some d
section
variable{X:Cx}{o value:Expr}{f:Str}{pos pos':Pos}{ta tv:TE}
def aaK(K:ah)(ta tv:TE)(f:Str):TS:=λD σ H=>tv σ H λy H1=>ta σ H1 λx H2=>∃(e C:Addr) (dx:.bS) (fs:.az) (cd:ClassData),x=.a_/\H2 e=some (px e C dx)/\Ep K C cd/\bM K C f/\
 ((dx=none/\fs=[])\/∃d,dx=.aS/\d≠e/\H2 d=some (qv d fs))/\fs.length<1000/\∀d,d≠e->(dx=.aS\/(dx=none/\H2 d=none))->D.nx σ (excPut H2 e C d<|eV f y fs)
theorem DP(U:PE X o ta)(hv:PE X value tv)(hs:swapsWith value (some<|.Attribute o f pos') pos.line X.env=pure false):PS X (.Assign [.Attribute o f pos'] value pos) (aaK X.K ta tv f):=by
 intro pins s σ H D I h;refine plainObj_wpAny_Assign_Attribute (eF (hv pins s σ H _ I h) λu s1 ⟨y,H1,V,W,q⟩=>eF (U pins s1 σ H1 _ V q) λY F ⟨x,H2,k,Z,e,C,dx,fs,cd,ex,A,G,na,M,hl,q2⟩=>?_) hs;subst ex;obtain rfl:Y=br e:=Z;obtain⟨⟨vs,ge,g1⟩,_,_⟩:=(show dM X.prog X.w H2 F.heap e (px e C dx) from k.hok e _ A);have l:∃mA:.aa,((dx=none/\∀n,mA n=none)\/∃d,dx=.aS/\d≠e/\F.heap.Ns1 d mA)/\.es/\oF mA (fs.map (·.1)):=by
  rcases M with⟨h1,h2⟩|⟨d,h1,h2,h3⟩
  ·subst h2;exact⟨λ_=>none,.inl ⟨h1,λ_=>rfl⟩,λ_=>jR,λy hy=>absurd rfl hy⟩
  ·obtain⟨⟨mA,n,r,J⟩,_,_⟩:=(show dM X.prog X.w H2 F.heap d (qv d fs) from k.hok d _ h3);exact⟨mA,.inr ⟨d,h1,h2,n⟩,r,J⟩
 obtain⟨mA,N,O,J⟩:=l;refine XL.ab3 (mA:=mA) (ns:=fs.map (·.1)) k.ug ge rfl ⟨vs,rfl⟩ N G.set G.cls G.ord G.dict na.taker J .et λh' d tk B P S m L=>?_;have E:dx=.aS\/H2 d=none:=by
  rcases m with z|⟨_,a,j⟩
  ·exact .inl z
  ·exact .inr<|k.hok.fresh j
 have q3:=q2 d P (by
  rcases m with z|⟨z0,a,j⟩
  ·exact .inl z
  ·exact .inr ⟨z0,k.hok.fresh j⟩)
 have p:∀b u,H2 b=.ai->(∀φ,u≠.ext φ)->b≠e:=λb u z n i=>by rw[i,A] at z;cases z;exact n _ rfl
 have t:∀b u,H2 b=.ai->(∀φ,u≠.ext φ)->b≠d:=λb u z n i=>by
  rcases E with a|a
  ·rcases M with⟨j,_⟩|⟨d',j,_,Q⟩
   ·rw[j] at a;cases a
   ·rw[j] at a;cases a;rw[i,Q] at z;cases z;exact n _ rfl
  ·rw[i,a] at z;cases z
 have R:∀b o,F.heap.get? b=.i->H2 b=none->b≠d:=λb o z n i=>by
  rcases m with a|⟨_,a,_⟩
  ·rcases M with⟨j,_⟩|⟨d',j,_,Q⟩
   ·rw[j] at a;cases a
   ·rw[j] at a;cases a;rw[i,Q] at n;cases n
  ·rw[i,a] at z;cases z
 have at_:∀b,b≠e->b≠d->excPut H2 e C d (eV f y fs) b=H2 b:=λb h1 h2=>by unfold excPut;rw[aq h1,aq h2]
 refine⟨σ,_,k.un (t':=tk) (H':=excPut H2 e C d<|eV f y fs) ⟨λb o z n _ _=>?_,λb o z n _ _=>?_,λb o z n _=>?_,λb o z _=>?_,λb xs z=>?_,λb o' u z=>?_,λb ps z=>?_⟩ λb u z=>?_,q3⟩
 ·exact L b o (λi=>by rw[i,A] at n;cases n) (R b o z n) z
 ·exact⟨o.slots,L b o (λi=>by rw[i,A] at n;cases n) (R b o z n) z⟩
 ·rw[at_ b (λi=>by rw[i,A] at n;cases n)<|R b o z n];exact n
 ·by_cases b1:b=e
  ·exact⟨_,by rw[b1];exact B⟩
  ·by_cases b2:b=d
   ·obtain⟨o2,_,_,q,_⟩:=S;exact⟨o2,by rw[b2];exact q⟩
   ·exact⟨o,L b o b1 b2 z⟩
 ·rw[at_ b (p b _ z .cR)<|t b _ z .cR];exact z
 ·rw[at_ b (p b _ z .cR)<|t b _ z .cR];exact z
 ·exact⟨#[],by rw[at_ b (p b _ z .cR) (t b _ z .cR),z];simp⟩
 ·by_cases b1:b=e
  ·subst b1;have:excPut H2 b C d (eV f y fs) b=some (px b C<|some d):=ai;rw[this] at z;cases z;exact px.ok B g1
  ·by_cases b2:b=d
   ·subst b2;have:excPut H2 e C b (eV f y fs) b=some (qv b<|eV f y fs):=by unfold excPut;rw[aq b1,ai]
    rw[this] at z;cases z;refine qv.ok S (λg=>?_) λg hg=>?_
    ·show lF ((eV f y fs).lookup g) (if g=f then .ai else mA g)
     rw[rC];by_cases c:g=f
     ·rw[.au,.au];exact W
     ·rw[.ag,.ag];exact O g
    ·by_cases c:g=f
     ·rw[c];exact(o9 f y fs).1
     ·refine(o9 f y fs).2 g<|J g λzz=>hg ?_;show(if g=f then .ai else mA g)=none
      rw[.ag];exact zz
   ·rw[at_ b b1 b2] at z;refine(k.hok b u z).stay (λc v T q=>L c v ?_ ?_ q) (λc q=>?_) λc xs q=>?_
    ·rcases T with a|a
     ·rw[a];exact b1
     ·exact p c _ a .cR
    ·rcases T with a|a
     ·rw[a];exact b2
     ·exact t c _ a .cR
    ·rw[at_ c (p c _ q .cR)<|t c _ q .cR];exact q
    ·rw[at_ c (p c _ q .cR)<|t c _ q .cR];exact q
end
theorem dM.there{P:Program}{w:World}{H:Hp}{h:Heap}{a:Addr}{o:HO}(x:dM P w H h a o):∃ob,.a5=some ob:=by
 cases o with
 |lst xs=>obtain⟨_,_,_,_,e⟩:=x;exact⟨_,e⟩
 |tup xs=>obtain⟨_,_,_,ob,e,_⟩:=x;exact⟨ob,e⟩
 |dK kvs=>obtain⟨_,_,_,_,ob,_,_,e,_⟩:=x;exact⟨ob,e⟩
 |dT kvs=>obtain⟨_,_,_,_,ob,_,_,e,_⟩:=x;exact⟨ob,e⟩
 |set S n=>obtain⟨ob,_,_,_,e,_⟩:=x;exact⟨ob,e⟩
 |ins C dx fs=>obtain⟨_,_,_,e,_⟩:=x;exact⟨_,e⟩
 |own y=>exact x
 |xd fs=>obtain⟨_,⟨ob,_,_,e,_⟩,_⟩:=x;exact⟨ob,e⟩
 |rng lo hi=>obtain⟨_,_,_,e⟩:=x;exact⟨_,e⟩
 |BA ob u=>obtain⟨e,_⟩:=x;exact⟨ob,e⟩
 |Wl ps=>exact⟨_,(show .a5=some _ from x)⟩
 |met f y=>exact⟨_,(show .a5=some _ from x)⟩
 |ext φ=>obtain⟨_,e,_⟩:=x;exact e
structure sY(P:Program)(w:World)(l:.a0)(H0:Hp)(h0:Heap)(e C dx:Addr)(H':Hp)(h:Heap):Prop where
 un:Un (frs l) [] H0 H' h0 h
 ok:o6 P w H' h
 ne:H' e=none
 fl:∃B,XL.o5 B l e C dx h/\(∀b u o,H' b=.ai->.bK->.bZ)/\∀b o,h0.get? b=.i->H0 b=none->b∉frs l->.bZ
def pG(P:Program)(w:World):BD:=λl H s E e s'=>∃(a C dx:Addr) (H':Hp),e=.E/\s'.os=s.os/\AllBare s'.gens/\sY P w l H s.heap a C dx H' s'.heap/\E .I (some dx) H'
def forget(H:Hp)(e:Addr):Hp:=λb=>if b=e then none else H b
theorem b7{H:Hp}{e b:Addr}(h:b≠e):forget H e b=H b:=by unfold forget;rw[if_neg h]
theorem gc{H:Hp}{e:Addr}:forget H e e=none:=by unfold forget;rw[.ah]
theorem o6.fly{P:Program}{w:World}{H':Hp}{h h' B:Heap}(ok:o6 P w H' h)(a:∀b u o,H' b=.ai->.bK->.bZ)(st:B.StaysIn h'):o6 P w H' h':=λb u z=>
 (ok b u z).stay (λc v d q=>by
  rcases d with e|e
  ·subst e;exact st c v<|a c u v z q
  ·exact st c v (a c _ v e q)) (λ_ q=>q) λ_ _ q=>q
theorem w8{P:Program}{w:World}{H':Hp}{h h' B:Heap}(ok:o6 P w H' h)(c:∀b u o,H' b=.ai->.bK->.bZ)(st:B.StaysIn h'):∀b u o,H' b=.ai->.aQ=.i->.bZ:=λb u o z q=>by
 obtain⟨o',d⟩:=(ok b u z).there;have e:=c b u o' z d;have a:=st b o' e;rw[q] at a;cases a;exact e
section
variable{X:Cx}{pins:.U}{σ:St}{H1:Hp}{s1 s':Shared}{e C dx:Addr}{H':Hp}
theorem sY.up(I:Inv X pins σ H1 s1)(h:X.ex=[])(i:X.stack=X.env::X.outer)(F:sY X.prog X.w X.stack H1 s1.heap e C dx H' s'.heap){h' B:Heap}(j:XL.o5 B X.stack e C dx h')
  (r:∀b u o,H' b=.ai->s'.heap.get? b=.i->.bZ) (v:.fF) (s:XL.Kept s'.heap h'):
  Un X.fs [] X.TF H' X.wL.heap h'/\o6 X.prog X.w H' h'/\(∀b u o,H' b=.ai->.aQ=.i->.bZ)/\∀b o,.dN->X.TF b=none->b∉X.fs->.bZ:=by
 have a:∀b:Addr,b∉X.ex:=λb=>by rw[h];simp
 have x:∀b o,.dN->b≠X.env.locals:=λb o q=>cy<|eQ (aZ q) I.ok.above;have k:∀b o,.dN->b∉X.fs->b∉frs X.stack:=λb o q nb z=>by
  rcases aH.mp (I.wM b z) with z|z
  ·exact x b o q z
  ·exact nb z
 have l:∀b,b∈X.fs->b∈frs X.stack:=λb d=>by
  rw[i];unfold frs;rw[lT];split
  ·exact d
  ·exact aV _ d
 have t:∀b o,.dN->X.TF b=none->b∉X.fs->.bZ:=λb o q n nb=>v b o (I.base.keep b o q n nb<|a b) (I.base.free b o q n<|a b)<|k b o q nb;refine⟨⟨λb o q n nb _=>j.stays b o<|t b o q n nb,λb o q n d _=>?_,λb o q n _=>?_,λb o q _=>?_,λb xs q=>F.un.tups b xs<|I.base.tups b xs q,λb o u q=>F.un.pM b o u<|I.base.pM b o u q,λb ps q=>?_⟩,F.ok.fly r j.stays,w8 F.ok r j.stays,t⟩
 ·obtain⟨y,c⟩:=I.base.slot b o q n d<|a b;obtain⟨A,f⟩:=F.un.slot b _ c (I.base.free b o q n<|a b) (l b d) .m;obtain⟨_,o',g,m⟩:=I.ok.qu.mem d;rw[q] at g;cases g;obtain⟨p,D⟩:=s.slots b _ f m;exact⟨p,D⟩
 ·obtain⟨o1,c⟩:=I.base.there b o q<|a b;exact F.un.free b o1 c (I.base.free b o q n<|a b)<|by simp
 ·obtain⟨o1,c⟩:=I.base.there b o q<|a b;obtain⟨o2,f⟩:=F.un.there b o1 c .m;exact s.there b o2 f
 ·obtain⟨m1,c⟩:=I.base.qt b ps q;obtain⟨m2,f⟩:=F.un.qt b _ c;exact⟨m1++m2,by rw[f,zx]⟩
end
theorem bU{P:Program}{w:World}{K:ah}{mg:.aa}{base:Heap}{N:.L}{d:Str}{c:Scope}{f:Addr}{cd:Value}{A:Around}{outer:.a0}{s:Shared}{H:Hp}{E:XK}:
  fM .aK (Ax .aK P w K mg base N d c f cd A outer s H E) E:=by
 intro pins σ H1 s1 e s' I h;obtain⟨a,C,dx,H',rfl,os,bare,F,l⟩:=h;obtain⟨B,i,m,p⟩:=F.fl;refine XL.Xu I.ok.frames rfl i λh' g k=>?_;have r:XL.o5 B (Ax .aK P w K mg base N d c f cd A outer s H E).stack a C dx s'.heap:=i;refine⟨a,C,dx,H',rfl,os.trans I.os,bare,?_,l⟩;have j:XL.o5 B (envOfC d c s.heap.objs.size f cd::outer) a C dx h':=⟨g.stays,g.new,i.frames.of_keeps λb o q n=>by
  obtain⟨y,z⟩:=k.slots b o q n;exact⟨_,z,rfl⟩,g.obj⟩
 obtain⟨t,u,v,x⟩:=sY.up I rfl rfl F j m p k;exact⟨t,u,F.ne,B,g,v,x⟩
theorem Nl{X:Cx}{pins:.U}{σ:St}{H2:Hp}{a:Shared}{e C dx:Addr}{E:XK}(I:Inv X pins σ H2 a)(d:H2 e=some (px e C<|some dx))(f:E .I (some dx) (forget H2 e)):pG X.prog X.w X.stack H2 a E .a_ a:=by
 obtain⟨⟨vs,g,h⟩,_,_⟩:=(show dM X.prog X.w H2 a.heap e (px e C<|some dx) from I.hok e _ d);have ne:∀b u,H2 b=.ai->(∀φ,u≠.ext φ)->b≠e:=λb u z n q=>by rw[q,d] at z;cases z;exact n _ rfl
 have i:e∉frs X.stack:=λz=>by
  have:=I.ym e z;rw[d] at this;cases this
 refine⟨e,C,dx,forget H2 e,rfl,rfl,I.bare,⟨⟨λb o q _ _ _=>q,λb o q _ _ _=>⟨o.slots,q⟩,λb o q n _=>?_,λb o q _=>⟨o,q⟩,λb xs q=>?_,λb o u q=>?_,λb ps q=>?_⟩,λb u z=>?_,gc,
  Fc a.heap (e::frs X.stack),⟨λb o q=>E7 _ q,E5 _ bf,?_,vs,#[],g,.inl h⟩,λb u o z q=>?_,λb o q n nb=>?_⟩,f⟩
 ·by_cases c:b=e
  ·rw[c];exact gc
  ·rw[b7 c];exact n
 ·rw[b7<|ne b _ q λφ z=>by cases z];exact q
 ·rw[b7<|ne b _ q λφ z=>by cases z];exact q
 ·exact⟨#[],by rw[b7 (ne b _ q λφ z=>by cases z),q];simp⟩
 ·have c:b≠e:=λq=>by rw[q,gc] at z;cases z
  rw[b7 c] at z;exact(I.hok b u z).stay (λ_ _ _ q=>q) (λc q=>by rw[b7<|ne c _ q λφ z=>by cases z];exact q) λc xs q=>by rw[b7<|ne c _ q λφ z=>by cases z];exact q
 ·exact PySem.W.funFrames_hide I.stack λenv j b k=>aV _<|yM.mpr ⟨env,j,k⟩
 ·have c:b≠e:=λq=>by rw[q,gc] at z;cases z
  rw[b7 c] at z;refine yV _ q λm=>?_;rcases aH.mp m with m|m
  ·exact c m
  ·have:=I.ym b m;rw[z] at this;cases this
 ·refine yV _ q λm=>?_;rcases aH.mp m with m|m
  ·rw[m,d] at n;cases n
  ·exact nb m
structure Tf(K:ah)(C f:Addr):Prop where
 obj:∃(nm q:Str) (N:Addr) (bs bm:.u) (hd:Bool) (sn:.L) (sub:.u) (ab:Bool) (col:Option Bool) (dd:.bS) (k0 k1 k2 k3 k5:.br),
  K.lookup C=some (excClassObj nm q C N bs bm hd sn sub ab col dd k0 k1 k2 k3 k5 "Exception.__new__")/\bm.contains (.type "Exception")=true/\bm.contains .cy=true/\bm.contains (.type "AttributeError")=false/\bm.contains (.type "NameError")=false
 init:fD K .I "__init__"=.c2
 fn:uE K .aG=true
 kp:jI K .I=true
theorem Tf.at_{K:ah}{C f:Addr}(m:Tf K C f){h:Heap}(X:K.In h):∃bm,XL.Jp h C bm:=by
 obtain⟨nm,q,N,bs,bm,i,j,sub,k,g,l,n,o,p,r,s,e,a,b,c,d⟩:=m.obj;exact⟨bm,⟨nm,q,N,bs,i,j,sub,k,g,l,n,o,p,r,s,X _ _ e⟩,a,b,c,d⟩
def Qq(C:Addr)(sp:Sp)(E:XK)(t:TA):TE:=λσ H Q=>t σ H λvs H1=>vs.length<=sizeLine/\∀e,H1 e=none->sp (.a_::vs) (upd H1 e<|px e C none) (λv H2=>v=.non/\Q .a_ H2) E
section
variable{X:Cx}{CX:BD}{k:Nat}{f C:Addr}{fd:FuncData}{ps:.L}{sp:Sp}{E:XK}{x m:Str}{p pos apos:Pos}{e:Expr}{es:.aU}{ta:TE}{t:TA}
theorem CU{pins:.U}{σ:St}{H:Hp}{s:Shared}{Q:VK}{us:.u}{vs:.r}(M:Tf X.K C f)(F:.c9)(n:fK (k+1) X.A)(p:Binds X.K fd ps [])
  (t:fM CX X E) (I:.D) (r:Vals vs us) (x:vs.length<=sizeLine) (h:∀e,H e=none->sp (.a_::vs) (upd H e<|px e C none) (λv H2=>v=.non/\Q .a_ H2) E):
  wpAny .af X.A (call .I us) .cb X.xe s:=by
 obtain⟨bm,y⟩:=M.at_ I.ug;have z:H .aW=none:=I.hok.fresh<|B0 _;have l:=h .aW z;have B:Inv X pins σ H { s with heap:=s.heap.push { cls:=.bz,data:=.seq us.toArray } }:=I.kept (t':=s.toks) λb u q=>aY _ q;have i:Inv X pins σ (upd H .aW<|px .aW C none) .fR:=by
  refine B.laid (t':=s.toks) (λb u q=>aY _ q) (jJ<|dB _ _)<|px.ok (vs:=#[.ba,.none,.none,.none,.bool false,.none]) ?_ rfl;have:=cY (s.heap.push { cls:=.bz,data:=.seq us.toArray }) (o:={ cls:=.I,data:=.fields #[.ba,.none,.none,.none,.bool false,.none] }) rfl;rwa[dB] at this
 have m:Vals (V.ref .aW::vs) (br .aW::us):=.cons rfl r;have D:((br .aW::us)++[]).length=ps.length:=by
  rw[dR,<-m.length];exact F.len _ _ _ _ l
 have c:=p .fR (br .aW::us) i.ug D;rw[dR] at c;obtain⟨j,g,d,tk,os⟩:=s;refine wpAny_call (XL.aac y I.ug (by rw[<-r.length];exact x) M.init (beq_iff_eq.mp M.fn)<|codeAny_mono (F.run _ X.stack _ _ ⟨br (j.objs.size+1)::us,[]⟩ (br (j.objs.size+1)::us) _ _ E (n.make C us []) (i.env0.make C us []) c m l) λG s' a=>?_);cases G with
 |error er=>exact t pins σ _ _ er s' i a
 |ok fl=>
  cases fl with
  |ret u=>
   obtain⟨v,H',J,L,N,O⟩:=i.after a;subst N;exact⟨L,⟨V.ref<|j.objs.size+1,H',J,rfl,O⟩⟩
  |next=>exact de a
  |brk=>exact de a
  |cont=>exact de a
theorem Qr(M:Tf X.K C f)(F:.c9)(d:fK (k+1) X.A)(g:Gl X x)(i:X.mg x=some .I)(j:Binds X.K fd ps [])(l:fM CX X E)
  (m:.cD) (a:.bc:=by decide) (n:.cm:=by rfl) (b:(.cK).any (·.1)=false:=by rfl):
  PE X .dF (Qq C sp E t):=by
 intro pins s σ H Q I h;refine wpAny_Call_Name_kw<|nh I g i ?_ a;refine qH (h₀:=X.base) I.ok.mod.XC M.kp (eF (m pos pins s σ H _ I h) λus s1 ⟨vs,H1,c,r,z,q⟩=>⟨c.ug,?_⟩) n b;exact CU M F d j l c r z q
theorem Nm(M:Tf X.K C f)(F:.c9)(b:fK (k+1) X.A)(c:Gl X x)(d:X.mg x=some .I)(e:Binds X.K fd ps [])(g:fM CX X E)
  (a:.bc:=by decide):PE X (.Call (.Name x p) [] [] pos) (Qq C sp E Hq):=by
 intro pins s σ H Q I h;refine wpAny_Call_Name_kw<|nh I c d ?_ a;exact yX I.ug M.kp<|CU (us:=[]) M F b e g I .nil (bj _) h.2
def Yh(K:ah)(te:TE)(E:XK):TS:=λ_ σ H=>te σ H λu H2=>∃(e C dx:Addr) (cd:ClassData),u=.a_/\H2 e=some (px e C<|some dx)/\Ep K C cd/\E .I (some dx) (forget H2 e)
theorem Ia(g:PE X e ta)(i:.ce)(j:fM (pG X.prog X.w) X E):PS X (.Raise (some e) none pos) (Yh X.K ta E):=by
 intro pins s σ H D I h;rw[arm_exec_Raise];refine wpAny_bind<|wpAny_standAt ?_;refine XL.Xw (K:=X.K) (I.ok.hd i) ?_;refine wpAny_bind<|eF (g pins s σ H _ I h) λu c ⟨y,H2,b,k,a,C,dx,cd,l,f,d,q⟩=>wpAny_bind<|wpAny_standAt<|wpAny_pure ?_;subst l;obtain rfl:u=br a:=k;obtain⟨⟨vs,m,n⟩,_,_⟩:=(show dM X.prog X.w H2 c.heap a (px a C<|some dx) from b.hok a _ f);obtain⟨b1,b2,_⟩:=d.base;exact⟨a,C,some dx,vs,cd,rfl,b.ug,m,n,d.cls,b1,b2,d.typ,j pins σ H2 c .E c b<|Nl b f q⟩
end
theorem d8.okX{P:Program}{w:World}{K:ah}{mg:.aa}{base:Heap}{x a:Str}{st:Stmt}{f:Addr}{fd:FuncData}{N ps:.L}{k:Nat}{sp:Sp}(F:d8 K x a st f fd)(S:az N ps .a1)(len:.ej)
  (b:∀(cdv:Value) (A:Around) (outer:.a0) (s:Shared) (H:Hp) (vs:.r) (Q:VK) (E:XK),fK k (A.deeper (envOfC a .a1 s.heap.objs.size f cdv))->sp vs H Q E->
   ∃t,Dt (Ax .aK P w K mg base N a .a1 f cdv A outer s H E) (dZ st) t/\.eL):aX P w K mg base .aK (k+1) f fd ps sp:=by
 obtain⟨oc,od,kV,doc,pm,an,cdv,ct,osl,rfl,e,c⟩:=F.ex;exact Wr e c S len λA outer s H vs Q E g d=>b cdv A outer s H vs Q E g d
def Ww(K:ah)(ta:TE)(f:Str):TE:=λσ H Q=>ta σ H λx H1=>∃(e C d:Addr) (fs:.az) (cd:ClassData) (v:V),x=.a_/\H1 e=some (HZ e C d)/\H1 d=some (qv d fs)/\Ep K C cd/\bM K C f/\fs.lookup f=.av/\Q v H1
section
variable{X:Cx}{CX:BD}{k:Nat}{f D:Addr}{fd:FuncData}{ps:.L}{sp:Sp}{E:XK}{x m g:Str}{p pos apos:Pos}{e:Expr}{es:.aU}{ta:TE}{t:TA}
theorem UA(i:PE X e ta)(j:attributeBase e g X.env .bA=.bA):PE X (.Attribute e g pos) (Ww X.K ta g):=by
 intro pins s σ H Q I h;refine KG j<|eF (i pins s σ H _ I h) λu s1 ⟨y,H1,c,k,a,C,d,fs,cd,v,m,p,t,b,na,l,q⟩=>?_;subst m;obtain rfl:u=br a:=k;obtain⟨⟨vs,D,x⟩,_,_⟩:=(show dM X.prog X.w H1 s1.heap a (HZ a C d) from c.hok a _ p);obtain⟨⟨mA,n,r,_⟩,_,_⟩:=(show dM X.prog X.w H1 s1.heap d (qv d fs) from c.hok d _ t);obtain⟨od,z,A⟩:=Cu n;obtain⟨u,B,f⟩:=lF.some_of (v:=v) (o:=mA g) (by rw[<-l];exact r g);refine XL.ab5 (od:=some od) c.ug ⟨x,rfl,rfl,z⟩ b.cls b.base.1 b.get b.hook (E6 (by unfold qI;rw[b.cls];exact b.dict) na rfl<|by rw[A,B]) (Cv f) ?_;exact⟨v,H1,c.tok _,f,q⟩
theorem sF{pl:Sem Bool}(j:Gl X x)(l:X.mg x=some .bw)(a:qJ X.K .bw "__getattribute__"=some (some<|.builtin "type.__getattribute__"))(n:y6 X.K D .bN=true)
  (o:y8 X.K .bw .bN m=some (.val<|.ref f)) (hk:jI X.K .aG=true) (F:.c9) (b:fK k X.A) (q:Binds X.K fd ps []) (u:fM CX X E) (v:.cD)
  (c:.bc:=by decide) (d:.cm:=by rfl) (g:(.cK).any (·.1)=false:=by rfl)
  (ht:eval (.Call (.Attribute (.Name x p) m apos) (e::es) [] pos) X.env=(do
   let ov <-eval (.Name x p) X.env
   .ed
   let (f,first) <-holding [ov] (getMethod ov m pl)
   callWith pos f first (backTo pos .ey) .d1):=by rfl):
  PE X (.Call (.Attribute (.Name x p) m apos) (e::es) [] pos) (KI sp [] E t):=by
 intro pins s σ H Q I h;refine yU (pl:=pl) (nh I j l ?_ c) ht;refine PySem.W.method_cls I.ug a<|PySem.W.cls_value I.ug n o rfl ?_;refine qH (first:=[]) (h₀:=X.base) I.ok.mod.XC hk (eF (v pos pins _ σ H _ (I.tok _) h) λus z ⟨vs,H2,i,r,y⟩=>⟨i.ug,?_⟩) d g
 exact DE (us:=us) (vs:=vs) F b q .nil u i r y
end
section
variable{X:Cx}{pins:.U}{σ:St}{H H1 H':Hp}{s s1 s':Shared}{e C dx:Addr}{h' B:Heap}
theorem sY.here(I:Inv X pins σ H1 s1)(F:sY X.prog X.w X.stack H1 s1.heap e C dx H' s'.heap)(g:XL.o5 B X.stack e C dx h')(j:∀b u o,H' b=.ai->s'.heap.get? b=.i->.bZ)
  (k:.fF) (h:XL.Kept s'.heap h') (os:s'.os=s1.os) (bare:AllBare s'.gens):Inv X pins σ H' { s' with heap:=h' }:=by
 refine I.call' (s':={ s' with heap:=h' }) (ch:=[]) os ⟨λb o q n nb _=>g.stays b o<|k b o q n nb,λb o q n i _=>?_,λb o q n _=>F.un.free b o q n<|by simp,λb o q _=>?_,F.un.tups,F.un.pM,F.un.qt⟩ (F.ok.fly j g.stays) bare λb z=>absurd z<|by simp
 ·obtain⟨l,c⟩:=F.un.slot b o q n i .m;obtain⟨_,o',a,d⟩:=I.stack.mem i;rw[q] at a;cases a;obtain⟨f,m⟩:=h.slots b _ c d;exact⟨f,m⟩
 ·obtain⟨o2,c⟩:=F.un.there b o q .m;exact h.there b o2 c
theorem Inv.track{ob:Obj}{vs:.aE}{φ:Heap->Prop}(I:.D)(f:s.heap.get? e=some ob)(g:ob.data=.ci)(j:H e=none)(hp:∀p∈X.pn++pins,p.1≠e)(k:∀o,X.wL.heap.get? e=.i->X.TF e=none->e∉X.ex->False)
  (new:dM X.prog X.w (upd H e<|.ext φ) s.heap e (.ext φ)):Inv X pins σ (upd H e<|.ext φ) s:=by
 have at_:∀b u,H b=.ai->b≠e:=λb u z q=>by rw[q,j] at z;cases z
 refine⟨I.ok,I.os,I.bare,⟨I.base.keep,I.base.slot,λb o q n h=>?_,I.base.there,λb xs q=>?_,λb o u q=>?_,λb ps q=>?_⟩,I.loc,I.cell,?_,λx c q=>?_,λp i=>?_,λb u z=>?_,I.len⟩
 ·by_cases c:b=e
  ·subst c;exact(k o q n h).elim
  ·rw[aq c];exact I.base.free b o q n h
 ·have:=I.base.tups b xs q;rw[aq<|at_ b _ this];exact this
 ·have:=I.base.pM b o u q;rw[aq<|at_ b _ this];exact this
 ·obtain⟨m,z⟩:=I.base.qt b ps q;exact⟨m,by rw[aq<|at_ b _ z];exact z⟩
 ·rw[aq]
  ·exact I.free
  ·intro q;obtain⟨m,⟨o,es,r,d,a,_⟩,_⟩:=I.loc;rw[q,f] at d;cases d;rw[g] at a;cases a
 ·rw[aq]
  ·exact I.lq x c q
  ·intro z;obtain⟨v,o,d,a⟩:=I.cell x c q;rw[z,f] at d;cases d;rw[g] at a;cases a
 ·obtain⟨a1,a2,l⟩:=I.pin p i;exact⟨a1,by rw[aq<|hp p i];exact a2,l⟩
 ·by_cases c:b=e
  ·subst c;rw[ai] at z;cases z;exact new
  ·rw[aq c] at z;exact(I.hok b u z).stay (λ_ _ _ q=>q) (λc q=>by rw[aq<|at_ c _ q];exact q) λc xs q=>by rw[aq<|at_ c _ q];exact q
theorem Inv.blank{h:.aa}{tk:Nat}(I:.D)(k:h'.Ns X.env.locals h)(d:kK X.env.locals s.heap h'):Inv X pins (bq X.N.length none) H .c_:=by
 obtain⟨m,⟨G,l,r,t,A⟩,_⟩:=I.loc;have f:∀b o,.dN->b≠X.env.locals:=λb o q=>cy<|eQ (aZ q) I.ok.above;refine⟨I.ok,I.os,I.bare,⟨λb o q n g e=>?_,λb o q n g e=>?_,I.base.free,λb o q e=>?_,I.base.tups,I.base.pM,I.base.qt⟩,⟨h,k,λi x v a b=>?_⟩,λx c q=>?_,I.free,I.lq,λp B=>?_,λb u z=>?_,.m⟩
 ·exact(d.2 b<|f b o q).trans<|I.base.keep b o q n g e
 ·obtain⟨C,z⟩:=I.base.slot b o q n g e;exact⟨C,(d.2 b<|f b o q).trans z⟩
 ·obtain⟨o',z⟩:=I.base.there b o q e;exact⟨o',(d.2 b<|f b o q).trans z⟩
 ·rw[uk] at b;split at b<;>cases b
 ·obtain⟨v,z⟩:=I.cell x c q;exact⟨v,z.sameBut d<|I.Wm x c q⟩
 ·obtain⟨a1,a2,j,D,E⟩:=I.pin p B;exact⟨(d.2 p.1 j).trans a1,a2,j,D,E⟩
 ·refine(I.hok b u z).stay (λc v F q=>(d.2 c ?_).trans q) (λ_ q=>q) λ_ _ q=>q;intro w;rcases F with y|y
  ·rw[<-y,w,I.free] at z;cases z
  ·rw[w,I.free] at y;cases y
end
abbrev Cx.pS(X:Cx)(e:Addr):Cx:={ X with A:=X.A.mark<|some<|.ref e,calm:=false,xe:=λ_ _=>False }
section
variable{X:Cx}{pins:.U}{σ:St}{H:Hp}{s:Shared}{e:Addr}
theorem Inv.pS(I:.D):Inv (X.pS e) pins σ H s:=
 ⟨⟨I.ok.mod,I.ok.kind,I.ok.glob,I.ok.blt,I.ok.above,I.ok.inj,I.ok.has,I.ok.cab,(λz=>nomatch z),I.ok.frames,I.ok.stk,I.ok.XD,I.ok.bs,I.ok.Kw,I.ok.o7,I.ok.Hj,I.ok.qu,I.ok.Pj⟩,I.os,I.bare,I.base,I.loc,I.cell,I.free,I.lq,I.pin,I.hok,I.len⟩
theorem Inv.Qs(ok:X.Ok)(I:Inv (X.pS e) pins σ H s):.D:=⟨ok,I.os,I.bare,I.base,I.loc,I.cell,I.free,I.lq,I.pin,I.hok,I.len⟩
end
abbrev TH:=Addr->Addr->Addr->VK->.Z
def PH(X:Cx)(hs:List ExceptHandler)(th:TH):Prop:=∀(pins:.U) (σ:St) (H1:Hp) (s1 s':Shared) (e C dx:Addr) (H':Hp) (D:Ends) (B:Heap),Inv X pins σ H1 s1->X.ex=[]->s'.os=s1.os->AllBare s'.gens->
 sY X.prog X.w X.stack H1 s1.heap e C dx H' s'.heap->XL.o5 B X.stack e C dx s'.heap->(∀b u o,H' b=.ai->s'.heap.get? b=.i->.bZ)->.fF->
 th e C dx D.rt H'->wpAny .af X.A (handleBy .a_ X.env hs) (SP X pins D) X.xe s'
def acQ(a:Addr)(K:ah)(i n:Nat)(t:TS)(rest:TH):TH:=λe C dx Q H=>∃cd,Ep K C cd/\if cd.mro.contains .E=true then t { nx:=λ_ _=>False,rt:=Q } ((bq n none).set i<|some<|.ref e) (upd H e<|HZ e C dx) else rest e C dx Q H
section
variable{X:Cx}{n x:Str}{i:Nat}{D:Addr}{cD:ClassData}{b0:Stmt}{suite:List Stmt}{np pos:Pos}{hs:List ExceptHandler}{th:TH}{t:TS}
theorem Qt(hN:X.N.Nodup)(hi:X.N[i]?=some n)(w:X.env.scope.names.lookup n=some .local)(hg:Gl X x)(hm:X.mg x=some .bw)(y:Ep X.K D cD)(A:∀e,Dt (X.pS e) (b0::suite) t)(hr:PH X hs th)
  (hst:X.stack=X.env::X.outer) (hfr:X.env.frame=some X.env.locals) (f:(X.env.scope.kind == .class||(X.env.scope.kind == .module&&X.env.locals != X.env.globals))=false:=by rfl) (E:.bc:=by decide):
  PH X (.ExceptHandler (some<|.Name x np) (some n) (b0::suite) pos::hs) (acQ D X.K i X.N.length t th):=by
 intro pins σ H1 s1 s' e C dx H' T B I g os bare F r G k h;obtain⟨cd,U,h⟩:=h;have V:.df:=F.here I r G k (XL.Kept.refl _) os bare;obtain⟨vs,sl,ge,_⟩:=r.obj;refine wpAny_handleBy_cons (codeAny_handlers_test ?_) (by intro q;cases q);refine nh (X:=X.pS e) V.pS hg hm ?_ E;refine XL.Xx (b:=cd.mro.contains<|.ref D) V.ug ge rfl U.cls U.base.2.2 rfl y.cls y.base.1 y.typ ?_;cases W:cd.mro.contains .bw with
 |false=>
  rw[W,.be] at h;exact hr pins σ H1 s1 s' e C dx H' T B I g os bare F r G k h
 |true=>
  rw[W,.ah] at h;refine codeAny_handlers_suite_as<|XL.aab r λh2 a H=>?_;have Y:Inv X pins σ H' { s' with heap:=h2 }:=F.here I a G k H os bare;obtain⟨vs2,sl2,d,_⟩:=a.obj;have l:∀b o,.bZ->b≠e:=λb o q z=>by rw[z,a.new] at q;cases q
  have J:∀p∈X.pn++pins,p.1≠e:=λp hp=>by
   obtain⟨a1,a2,a3,a4,_⟩:=I.pin p hp;refine l p.1 p.2<|k p.1 p.2 a1 a2 λz=>?_;rcases aH.mp (I.wM _ z) with z|z
   ·exact a3 z
   ·exact a4 z
  have L:∀b:Addr,b∉X.ex:=λb=>by rw[g];simp
  have M:Inv X pins σ (upd H' e<|HZ e C dx) { s' with heap:=h2 }:=by
   refine Y.track d rfl F.ne J (λo q n _=>?_)<|HZ.ok d;by_cases s:e∈X.fs
   ·obtain⟨_,o',m,O⟩:=I.ok.qu.mem s;obtain⟨sl1,P⟩:=Y.base.slot e o q n s<|L e;rw[q] at m;cases m;have z:=congrArg B4<|aI<|d.symm.trans P;exact O _ z.symm
   ·have P:=I.base.keep e o q n s<|L e;refine l e o (k e o P (I.base.free e o q n<|L e) λz=>?_) rfl;rcases aH.mp (I.wM _ z) with z|z
    ·exact cy (eQ (aZ q) I.ok.above) z
    ·exact s z
  have lenσ:i<X.N.length:=.ch;refine vz (X:=X) M hN hi (.inl w) (v:=.a_) rfl (λZ I4=>?_)<|.inr w;have I5:Inv X pins ((bq X.N.length none).set i<|some<|.ref e) (upd H' e<|HZ e C dx) Z:=by
   refine I4.weak (by rw[fz,EB,fz,M.len]) λj v q=>?_;by_cases c:i=j
   ·subst c;rw[gI<|by simpa using lenσ] at q;rw[gI (by rw[M.len];exact lenσ)];exact q
   ·rw[fQ c,uk] at q;split at q<;>cases q
  refine wpAny_mono (A e pins Z _ _ { nx:=λ_ _=>False,rt:=T.rt } I5.pS h) (λfl s5 q=>?_) λ_ _ z=>z.elim;cases fl with
  |next=>obtain⟨_,_,_,q⟩:=q;exact q.elim
  |brk=>obtain⟨_,_,_,q⟩:=q;exact q.elim
  |cont=>obtain⟨_,_,_,q⟩:=q;exact q.elim
  |ret u=>
   obtain⟨v,σ5,H5,I6,rv,q⟩:=q;have I7:=Inv.Qs I.ok I6;obtain⟨m5,Q,_⟩:=id I7.loc;refine wpAny_nameGoes w Q f λh6 m6 R S=>?_;exact⟨v,_,H5,I7.blank (tk:=s5.toks+1) R S,rv,q⟩
theorem Yi:PH X [] (λ_ _ _ _ _=>False):=λ_ _ _ _ _ _ _ _ _ _ _ _ _ _ _ _ _ _ _ h=>h.elim
theorem sY.turn{P:Program}{w:World}{l:.a0}{H0 H':Hp}{f h h' B:Heap}{e C dx:Addr}(F:sY P w l H0 f e C dx H' h)(r:XL.o5 B l e C dx h)(c:XL.o5 B l e C dx h')(j:∀b u o,H' b=.ai->.bK->.bZ)
  (k:∀b o,f.get? b=.i->H0 b=none->b∉frs l->.bZ) (m:XL.Kept h h'):sY P w l H0 f e C dx H' h':=by
 refine⟨⟨λb o q n nb _=>c.stays b o<|k b o q n nb,λb o q n p _=>?_,F.un.free,λb o q _=>?_,F.un.tups,F.un.pM,F.un.qt⟩,F.ok.fly j c.stays,F.ne,B,c,w8 F.ok j c.stays,k⟩
 ·obtain⟨s,d⟩:=F.un.slot b o q n p .m;obtain⟨_,o',a,g⟩:=r.frames.mem p;rw[d] at a;cases a;obtain⟨i,t⟩:=m.slots b _ d g;exact⟨i,t⟩
 ·obtain⟨o2,d⟩:=F.un.there b o q .m;exact m.there b o2 d
def aaL(th:TH)(Q:VK):XK:=λc od H'=>∃C dx,c=.I/\od=some dx/\∀e,H' e=none->th e C dx Q H'
def acS(tb:XK->TS)(th:TH):TS:=λD σ H=>tb (aaL th D.rt) D σ H
theorem Yj{b:List Stmt}{k:ExceptHandler}{hs:List ExceptHandler}{tb:XK->TS}(l:X.ex=[])(d:X.stack=X.env::X.outer)(m:X.env.frame=some X.env.locals)
  (L:∀(pn:.U) (W:.ac) (x:XK),fM (pG X.prog X.w) { X with pn:=pn,xe:=W } x->Dt { X with pn:=pn,xe:=W } b (tb x)) (M:PH X (k::hs) th):PS X (.Try b (k::hs) [] [] pos) (acS tb th):=by
 intro pins s σ H D I h;refine wpAny_Try_except ?_;have i:∀(W:.ac) (c:.U) (σ':St) (H1:Hp) (s1:Shared),Inv X pins σ' H1 s1->(∀p∈c,False)->Inv { X with pn:=X.pn++pins,xe:=W } c σ' H1 s1:=λW c σ' H1 s1 J hp=>
  ⟨ .fP,J.os,J.bare,J.base,J.loc,J.cell,J.free,J.lq,
   λp n=>(bZ.mp n).elim (λz=>J.pin p z) λz=>(hp p z).elim,J.hok,J.len⟩
 have j:∀(W:.ac) (c:.U) (σ':St) (H1:Hp) (s1:Shared),Inv { X with pn:=X.pn++pins,xe:=W } c σ' H1 s1->Inv X pins σ' H1 s1:=λW c σ' H1 s1 J=>
  ⟨ .fP,J.os,J.bare,J.base,J.loc,J.cell,J.free,J.lq,
   λp n=>J.pin p (dF _ n),J.hok,J.len⟩
 have o:=L (X.pn++pins) (λe s1=>wpAny .af X.A (noteFrame e X.env) (λ_ N=>wpAny .af X.A (setFlight e none) (λ_ O=>wpAny .af X.A (handleBy e X.env (k::hs)) (SP X pins D) X.xe O) X.xe N) X.xe s1) (aaL th D.rt) (by
   intro c σ' H1 s1 e s' J P;have y:=j _ c σ' H1 s1 J;obtain⟨a,C,dx,H',rfl,os,bare,F,V,Y,Q,R,q⟩:=P;cases Q;cases R;obtain⟨B,E,G,K⟩:=F.fl;have t:XL.o5 B (X.env::X.outer) a C dx s'.heap:=by rw[<-d];exact E
   refine XL.Wj (by rw[<-d];exact y.ok.frames) m t λh' S T=>?_;have g:XL.o5 B X.stack a C dx h':=by rw[d];exact S
   have U:=F.turn E g G K T;exact M pins σ' H1 s1 { s' with heap:=h' } a C dx H' D B y l os bare U g (w8 F.ok G g.stays) K (q a F.ne)) [] s σ H D (i _ [] σ H s I λp z=>absurd z .m) h
 refine wpAny_mono o (λf s1 q=>?_) λ_ _ z=>z;cases f with
 |next=>
  obtain⟨σ',H1,J,q⟩:=q;exact wpAny_execs_nil ⟨σ',H1,j _ _ _ _ _ J,q⟩
 |brk=>obtain⟨σ',H1,J,q⟩:=q;exact⟨σ',H1,j _ _ _ _ _ J,q⟩
 |cont=>obtain⟨σ',H1,J,q⟩:=q;exact⟨σ',H1,j _ _ _ _ _ J,q⟩
 |ret u=>obtain⟨v,σ',H1,J,r,q⟩:=q;exact⟨v,σ',H1,j _ _ _ _ _ J,r,q⟩
end
end L2
namespace XZ
open PySem
open Sem (wp)
def dv(t:Bool)(h:Heap)(j l:Addr)(k:Nat):Prop:=match t with
 |false=>h.IsListIter j l k
 |true=>h.IsTupleIter j l k
def iK(t:Bool)(h:Heap)(l:Addr)(xs:.aE):Prop:=match t with
 |false=>h.IsList l xs
 |true=>h.IsTuple l xs
def DQ:Bool->String
 |false=>"list_iterator"
 |true=>"tuple_iterator"
theorem dv.obj{t:Bool}{h:Heap}{j l:Addr}{k:Nat}(p:dv t h j l k):∃o,h.get? j=.i/\o.cls=.type (DQ t)/\o.data=.fields #[.aH,.int k 0]:=by
 cases t
 ·exact p
 ·exact p
theorem dv.mk{t:Bool}{h:Heap}{j l:Addr}{k:Nat}(p:∃o,h.get? j=.i/\o.cls=.type (DQ t)/\o.data=.fields #[.aH,.int k 0]):dv t h j l k:=by
 cases t
 ·exact p
 ·exact p
theorem dv.goes{t:Bool}{h g:Heap}{j l:Addr}{k:Nat}(p:dv t h j l k)(e:∀o,h.get? j=.i->g.get? j=.i):dv t g j l k:=by
 obtain⟨o,a,r⟩:=p.obj;exact dv.mk ⟨o,e o a,r⟩
theorem iK.goes{t:Bool}{h g:Heap}{l:Addr}{xs:.aE}(p:iK t h l xs)(e:∀o,h.get? l=.i->g.get? l=.i):iK t g l xs:=by
 cases t
 ·obtain⟨o,a,r⟩:=p;exact⟨o,e o a,r⟩
 ·obtain⟨o,a,r⟩:=p;exact⟨o,e o a,r⟩
section
variable{prog:Program}{w:World}{A:Around}{E:.ac}{s:Shared}
theorem aaM{j a:Addr}{k:Nat}{xs:.aE}{x:Value}{Q:.ac}(d:s.heap.IsTupleIter j a k)(pt:s.heap.IsTuple a xs)(at_:xs[k]?=.v)
  (e:∀g,g.IsTupleIter j a (k+1)->kK j s.heap g->Q x .dQ):wpAny .ad A (iY<|.ref j) Q E s:=by
 obtain⟨l,c,f,b⟩:=id d;obtain⟨m,h,_,n,i⟩:=pt;unfold iY;refine wpAny_bind<|wpAny_callSpecial?_slot (name:=gB "__next__") d.typeIs uL<|wpAny_call_entry uL d.typeIs FH ?_<|FG _;show wpAny _ _ (field (.ref j) 0 >>= _) _ _ s;refine wpAny_bind<|wpAny_field c b (x:=.E) rfl ?_;show wpAny _ _ (if(br a == dC)=true then _ else _) _ _ s;rw[if_neg<|show ¬((br a == dC)=true) from cX]
 show wpAny _ _ (field (.ref j) 1 >>= _) _ _ s;refine wpAny_bind<|wpAny_field c b (x:=.int k 0) rfl ?_;show wpAny _ _ (seqItems? .E >>= _) _ _ s;refine wpAny_bind<|wpAny_seqItems h i ?_;simp only[iU,at_];refine wpAny_bind (wpAny_setField c b .m<|wpAny_pure ⟨x,rfl,wpAny_pure<|e _ ⟨_,l6 _ c<|uT<|mB b _,(Obj.cls_mapFields ..).trans f,?_⟩<|Gv ..⟩);rw[mB b];simp[rawInt]
theorem Nn{j b:Addr}{k:Nat}{xs:.aE}{Q:.ac}(calm:.c5)(c:s.heap.IsTupleIter j b k)(pt:s.heap.IsTuple b xs)(at_:xs[k]?=none)
  (d:∀g e,BZ j s.heap g->.fq):wpAny .ad A (iY<|.ref j) Q E s:=by
 obtain⟨n,f,p,h⟩:=id c;obtain⟨q,i,_,r,l⟩:=pt;unfold iY;refine wpAny_bind<|wpAny_callSpecial?_slot (name:=gB "__next__") c.typeIs uL<|wpAny_call_entry uL c.typeIs FH ?_<|FG _;show wpAny _ _ (field (.ref j) 0 >>= _) _ _ s;refine wpAny_bind<|wpAny_field f h (x:=.aM) rfl ?_;show wpAny _ _ (if(br b == dC)=true then _ else _) _ _ s;rw[if_neg<|show ¬((br b == dC)=true) from cX]
 show wpAny _ _ (field (.ref j) 1 >>= _) _ _ s;refine wpAny_bind<|wpAny_field f h (x:=.int k 0) rfl ?_;show wpAny _ _ (seqItems? .aM >>= _) _ _ s;refine wpAny_bind<|wpAny_seqItems i l ?_;simp only[iU,at_];refine wpAny_bind (wpAny_rule<|wpAny_bind<|wpAny_setField f h .m ?_);show wpAny _ _ (newExc (.type "StopIteration") [] >>= _) _ _ _;refine wpAny_bind ?_;simp only[newExc,newTuple];refine wpAny_bind (wpAny_newObj_type ?_<|by size_fits);refine wpAny_bind (m:=firstArgMember _ _) (wpAny_of_eq (a:=dC) (by first|rfl|(simp only[firstArgMember];rfl)) ?_);refine wpAny_newObj_type ?_<|by size_fits
 simp only[raiseNew];refine wpAny_bind<|wpAny_handled ?_;first|rw[show A.in1.handled=none from calm]|rw[calm]
 refine wpAny_bind<|wpAny_pure<|wpAny_throw<|d _ _ (((Gv ..).extBut.push _).push _) ⟨_,cY _ rfl,rfl⟩
theorem pull{t:Bool}{j l:Addr}{k:Nat}{xs:.aE}{x:Value}{Q:.ac}(b:dv t s.heap j l k)(pt:iK t s.heap l xs)(at_:xs[k]?=.v)
  (a:∀g,dv t g j l (k+1)->kK j s.heap g->Q x .dQ):wpAny .ad A (iY<|.ref j) Q E s:=by
 cases t
 ·exact wpAny_nextOf_list_item b pt at_ a
 ·exact aaM b pt at_ a
theorem Ic{t:Bool}{j l:Addr}{k:Nat}{xs:.aE}{Q:.ac}(calm:.c5)(b:dv t s.heap j l k)(pt:iK t s.heap l xs)(at_:xs[k]?=none)
  (a:∀g e,BZ j s.heap g->.fq):wpAny .ad A (iY<|.ref j) Q E s:=by
 cases t
 ·exact wpAny_nextOf_list_end calm b pt at_ a
 ·exact Nn calm b pt at_ a
theorem aaN{t1 t2:Bool}{z TI TO j k r l2:Addr}{L M:Nat}{xs ys:.aE}{x y a b:Value}{Q:.ac}(D:ZipApart z TI TO j k r l2)
  (t:IsZip s.heap z TI TO .none) (pI:IsPair s.heap TI (.ref j) (.ref k)) (pO:IsPair s.heap TO a b)
  (p1:dv t1 s.heap j r L) (p2:dv t2 s.heap k l2 M) (r1:iK t1 s.heap r xs) (r2:iK t2 s.heap l2 ys) (ax:xs[L]?=.v) (ay:ys[M]?=.ao)
  (O:∀g,IsZip g z TI TO (rawInt s.heap.objs.size)->IsPair g TO x y->dv t1 g j r (L+1)->dv t2 g k l2 (M+1)->IsPair g s.heap.objs.size x y->g.objs.size=.aW->
   (∀c o,c≠z->c≠TO->c≠j->c≠k->.eS)->Q .ba .dQ):
  wpAny .ad A (Builtin.«zip.__next__» ⟨[.ref z],[]⟩) (λv s'=>∃u,v=.done (.ret u)/\Q u s') E s:=by
 show wpAny _ _ (field (.ref z) 2 >>= _) _ _ _;refine wpAny_bind<|wpAny_field t rfl (x:=.bool false) rfl ?_;show wpAny _ _ (field (.ref z) 3 >>= _) _ _ _;refine wpAny_bind<|wpAny_field t rfl (x:=.ref TI) rfl ?_;refine wpAny_bind<|wpAny_seqItems pI rfl ?_;show wpAny _ _ (uP (.ref z) >>= _) _ _ _;refine wpAny_bind ?_;unfold uP;refine wpAny_bind<|wpAny_field t rfl (x:=.none) rfl<|wpAny_pure ?_;simp only[if_true];refine wpAny_bind<|wpAny_rule ?_;refine wpAny_bind<|wpAny_field t rfl (x:=.ref TO) rfl ?_;refine wpAny_bind (wpAny_setField_rec t .m λg1 P s1=>?_);replace P:IsZip g1 z TI TO .ellipsis:=P;refine wpAny_bind ?_;simp only[qE,EU,yR,uA];refine wpAny_bind<|wpAny_bind<|wpAny_onRaise ?_;show wpAny _ _ (iY (.ref j) >>= _) _ _ _;refine wpAny_bind<|pull (p1.goes λo e=>s1.extBut _ _ D.i1z e) (r1.goes λo e=>s1.extBut _ _ D.l1z e) ax λg2 q1 p=>wpAny_pure ?_;have B:IsPair g2 TO a b:=p.extBut _ _ D.TOi1<|s1.extBut _ _ D.TOz pO;refine wpAny_bind<|wpAny_seqItems B rfl ?_;refine wpAny_bind<|wpAny_updateSeq_pair B λg3 l q=>?_;replace l:IsPair g3 TO x b:=l;refine wpAny_bind<|wpAny_letGo<|wpAny_pure ?_;refine wpAny_bind<|wpAny_bind<|wpAny_onRaise ?_;show wpAny _ _ (iY (.ref k) >>= _) _ _ _;refine wpAny_bind<|pull (p2.goes λo e=>q.extBut _ _ D.TOi2.symm<|p.extBut _ _ D.i12.symm<|s1.extBut _ _ D.i2z e) (r2.goes λo e=>q.extBut _ _ D.l2TO<|p.extBut _ _ D.l2i1<|s1.extBut _ _ D.l2z e) ay λg4 q2 C=>wpAny_pure ?_;have F:IsPair g4 TO x b:=C.extBut _ _ D.TOi2 l;refine wpAny_bind<|wpAny_seqItems F rfl ?_;refine wpAny_bind<|wpAny_updateSeq_pair F λd f G=>?_;replace f:IsPair d TO x y:=f;refine wpAny_bind<|wpAny_letGo<|wpAny_pure<|wpAny_pure ?_;refine wpAny_bind<|wpAny_seqItems f rfl ?_;refine wpAny_bind<|wpAny_newTuple ?_;have Z:d.objs.size=s.heap.objs.size:=by rw[G.1,C.1,q.1,p.1,s1.1]
 have H:IsZip d z TI TO .ellipsis:=G.extBut _ _ D.TOz.symm<|C.extBut _ _ D.i2z.symm<|q.extBut _ _ D.TOz.symm<|p.extBut _ _ D.i1z.symm P;have R:∀c o,c≠z->c≠TO->c≠j->c≠k->s.heap.get? c=.i->d.get? c=.i:=λc o m N S T e=>G.extBut _ _ N<|C.extBut _ _ T<|q.extBut _ _ N<|p.extBut _ _ S<|s1.extBut _ _ m e;have U:dv t1 d j r (L+1):=q1.goes λo e=>G.extBut _ _ D.TOi1.symm<|C.extBut _ _ D.i12<|q.extBut _ _ D.TOi1.symm e;have V:dv t2 d k l2 (M+1):=q2.goes λo e=>G.extBut _ _ D.TOi2.symm e;have I:z<d.objs.size:=aZ H;show wpAny _ _ (F1 (.ref z) (.ref d.objs.size) >>= _) _ _ _;refine wpAny_bind ?_;unfold F1;have W:IsZip (d.push { cls:=.bz,data:=.seq #[x,y] }) z TI TO .ellipsis:=aY _ H;refine wpAny_bind (wpAny_setField_rec W .m λg7 n X=>?_);replace n:IsZip g7 z TI TO (rawInt d.objs.size):=n;refine wpAny_setField_rec n .m λJ h Y=>?_;replace h:IsZip J z TI TO (rawInt d.objs.size):=h;have i:∀c o,c≠z->d.get? c=.i->J.get? c=.i:=λc o m e=>Y.extBut _ _ m<|X.extBut _ _ m<|aY _ e;have K:IsPair J d.objs.size x y:=Y.extBut _ _ (gR I)<|X.extBut _ _ (gR I)<|cY _ rfl;have Wz:J.objs.size=d.objs.size+1:=by rw[Y.1,X.1,dB]
 rw[Z] at h K Wz;refine wpAny_pure ⟨_,rfl,?_⟩;show Q (.ref d.objs.size) _;rw[Z];exact O J h (i _ _ D.TOz f) (U.goes λo e=>i _ o D.i1z e) (V.goes λo e=>i _ o D.i2z e) K Wz λc o m N S T e=>i c o m<|R c o m N S T e
theorem Np{t1 t2:Bool}{z TI TO i j v l2:Addr}{y B:Nat}{xs ys:.aE}{a b:Value}{Q:Fin->.aT}(calm:.c5)(D:ZipApart z TI TO i j v l2)
  (k:IsZip s.heap z TI TO .none) (N:IsPair s.heap TI (.ref i) (.ref j)) (O:IsPair s.heap TO a b)
  (p1:dv t1 s.heap i v y) (p2:dv t2 s.heap j l2 B) (J:iK t1 s.heap v xs) (P:iK t2 s.heap l2 ys) (stop:xs[y]?=none\/ys[B]?=none)
  (l:∀g e,(∀c o,c≠z->c≠TO->c≠i->c≠j->.eS)->.fq):
  wpAny .ad A (Builtin.«zip.__next__» ⟨[.ref z],[]⟩) Q E s:=by
 show wpAny _ _ (field (.ref z) 2 >>= _) _ _ _;refine wpAny_bind<|wpAny_field k rfl (x:=.bool false) rfl ?_;show wpAny _ _ (field (.ref z) 3 >>= _) _ _ _;refine wpAny_bind<|wpAny_field k rfl (x:=.ref TI) rfl ?_;refine wpAny_bind<|wpAny_seqItems N rfl ?_;show wpAny _ _ (uP (.ref z) >>= _) _ _ _;refine wpAny_bind ?_;unfold uP;refine wpAny_bind<|wpAny_field k rfl (x:=.none) rfl<|wpAny_pure ?_;simp only[if_true];refine wpAny_bind<|wpAny_rule ?_;refine wpAny_bind<|wpAny_field k rfl (x:=.ref TO) rfl ?_;refine wpAny_bind (wpAny_setField_rec k .m λR u s1=>?_);replace u:IsZip R z TI TO .ellipsis:=u;refine wpAny_bind ?_;simp only[qE,EU,yR,uA];refine wpAny_bind<|wpAny_bind<|wpAny_onRaise ?_;show wpAny _ _ (iY (.ref i) >>= _) _ _ _;cases ex:xs[y]? with
 |none=>
  refine wpAny_bind<|Ic calm (p1.goes λo e=>s1.extBut _ _ D.i1z e) (J.goes λo e=>s1.extBut _ _ D.l1z e) ex λC e d F=>?_;obtain⟨G,f,m⟩:=F;have n:IsZip C z TI TO .ellipsis:=d _ _ D.i1z.symm u;have H:e≠z:=λq=>by subst q;rw[n] at f;cases f;simp at m
  refine wpAny_setField_rec n .m λK _ h=>l K e (λc o p _ I _ q=>h.extBut _ _ p<|d _ _ I<|s1.extBut _ _ p q) ⟨G,h.extBut _ _ H f,m⟩
 |some x=>
  have S:ys[B]?=none:=by
   rcases stop with q|q
   ·rw[ex] at q;cases q
   ·exact q
  refine wpAny_bind<|pull (p1.goes λo e=>s1.extBut _ _ D.i1z e) (J.goes λo e=>s1.extBut _ _ D.l1z e) ex λC Y d=>wpAny_pure ?_;have r:IsPair C TO a b:=d.extBut _ _ D.TOi1<|s1.extBut _ _ D.TOz O;refine wpAny_bind<|wpAny_seqItems r rfl ?_;refine wpAny_bind<|wpAny_updateSeq_pair r λK T h=>?_;refine wpAny_bind<|wpAny_letGo<|wpAny_pure ?_;refine wpAny_bind<|wpAny_bind<|wpAny_onRaise ?_;show wpAny _ _ (iY (.ref j) >>= _) _ _ _;refine wpAny_bind<|Ic calm (p2.goes λo e=>h.extBut _ _ D.TOi2.symm<|d.extBut _ _ D.i12.symm<|s1.extBut _ _ D.i2z e) (P.goes λo e=>h.extBut _ _ D.l2TO<|d.extBut _ _ D.l2i1<|s1.extBut _ _ D.l2z e) S λU e L F=>?_;obtain⟨G,f,m⟩:=F;have t:IsZip U z TI TO .ellipsis:=L _ _ D.i2z.symm<|h.extBut _ _ D.TOz.symm<|d.extBut _ _ D.i1z.symm u;have H:e≠z:=λq=>by subst q;rw[t] at f;cases f;simp at m
  refine wpAny_setField_rec t .m λV _ M=>l V e (λc o p W I X q=>M.extBut _ _ p<|L _ _ X<|h.extBut _ _ W<|d.extBut _ _ I<|s1.extBut _ _ p q) ⟨G,M.extBut _ _ H f,m⟩
theorem aaP{t1 t2:Bool}{z TI TO d e f l2:Addr}{h i:Nat}{xs ys:.aE}{x y a b:Value}{Q:.br->.aT}(D:ZipApart z TI TO d e f l2)
  (k:IsZip s.heap z TI TO .none) (l:IsPair s.heap TI (.ref d) .a_) (m:IsPair s.heap TO a b)
  (p1:dv t1 s.heap d f h) (p2:dv t2 s.heap e l2 i) (n:iK t1 s.heap f xs) (p:iK t2 s.heap l2 ys) (q:xs[h]?=.v) (r:ys[i]?=.ao)
  (j:∀g,IsZip g z TI TO (rawInt s.heap.objs.size)->IsPair g TO x y->dv t1 g d f (h+1)->dv t2 g e l2 (i+1)->IsPair g s.heap.objs.size x y->g.objs.size=.aW->
   (∀c o,c≠z->c≠TO->c≠d->c≠e->.eS)->Q (some .ba) .dQ):
  wpAny .ad A (pyNext<|.ref z) Q E s:=by
 have ty:s.TypeIs (.ref z) "zip":=⟨_,k,rfl⟩;unfold pyNext;exact wpAny_bind (wpAny_attempt (wpAny_callSpecial?_slot (name:=gB "__next__") ty uN (wpAny_call_entry uN ty FQ
   (aaN D k l m p1 p2 n p q r λg a1 a2 t u v B C=>wpAny_pure (j g a1 a2 t u v B C)) (FP _))))
theorem Nq{t1 t2:Bool}{z TI TO d f h l2:Addr}{j k:Nat}{xs ys:.aE}{a b:Value}{Q:.br->.aT}(calm:.c5)(D:ZipApart z TI TO d f h l2)
  (l:IsZip s.heap z TI TO .none) (m:IsPair s.heap TI (.ref d) .aG) (n:IsPair s.heap TO a b)
  (p1:dv t1 s.heap d h j) (p2:dv t2 s.heap f l2 k) (p:iK t1 s.heap h xs) (q:iK t2 s.heap l2 ys) (stop:xs[j]?=none\/ys[k]?=none)
  (i:∀g,(∀c o,c≠z->c≠TO->c≠d->c≠f->.eS)->Q none .dQ):wpAny .ad A (pyNext<|.ref z) Q E s:=by
 have ty:s.TypeIs (.ref z) "zip":=⟨_,l,rfl⟩;unfold pyNext;refine wpAny_bind<|wpAny_attempt<|wpAny_callSpecial?_slot (name:=gB "__next__") ty uN<|wpAny_call_entry uN ty FQ (Np calm D l m n p1 p2 p q stop λg e r t=>?_)<|FP _;obtain⟨o,u,v⟩:=t;exact wpAny_bind<|wpAny_isInstance (T:="StopIteration") (b:=true) ⟨o,u,v⟩ isSubtype_stop<|wpAny_pure<|i _ r
abbrev zA(t:Bool)(h:Heap)(l1:Addr):Heap:=h.push { cls:=.type<|DQ t,data:=.fields #[.ref l1,.int 0 0] }
abbrev zB(t1 t2:Bool)(h:Heap)(l1 l2:Addr):Heap:=zA t2 (zA t1 h l1) l2
abbrev zC(t1 t2:Bool)(h:Heap)(l1 l2:Addr):Heap:=(zB t1 t2 h l1 l2).push { cls:=.bz,data:=.seq #[.ref h.objs.size,.ref (zA t1 h l1).objs.size] }
abbrev zD(t1 t2:Bool)(h:Heap)(l1 l2:Addr):Heap:=(zC t1 t2 h l1 l2).push { cls:=.bz,data:=.seq #[.none,.none] }
abbrev zE(t1 t2:Bool)(h:Heap)(l1 l2:Addr):Heap:=(zD t1 t2 h l1 l2).push { cls:=.type "zip",data:=.fields #[.none,.bool false,.bool false,.ref (zB t1 t2 h l1 l2).objs.size,.ref (zC t1 t2 h l1 l2).objs.size] }
theorem K2{prog:Program}{w:World}{A:Around}{E:.ac}{s:Shared}{t:Bool}{l:Addr}{xs:.aE}{Q:.ac}(r:iK t s.heap l xs)(q:Q .ba { s with heap:=zA t s.heap l }):wpAny .ad A (pyIter<|.ref l) Q E s:=by
 cases t
 ·exact wpAny_pyIter_list r q
 ·exact wpAny_pyIter_tuple r q
theorem acU(t1 t2:Bool)(a l2:Addr)(xs ys:.aE):
  Meets (Builtin.«zip.__new__» ⟨[.type "zip",.E,.ref l2],[]⟩) (λ_ R s=>iK t1 s.heap a xs/\iK t2 s.heap l2 ys/\
   R (.ok (.ret (.ref (zD t1 t2 s.heap a l2).objs.size))) { s with heap:=zE t1 t2 s.heap a l2 }):=
 .of_wp λprog w A R s h=>by
  obtain⟨hp,g,d,tk,os⟩:=s;obtain⟨b,c,h⟩:=h;have sub:=sub_zip;have f:iK t1 (Cg ⟨hp,g,d,tk,os⟩) a xs:=b;have R2:iK t2 (Cg ⟨hp.push { cls:=.type<|DQ t1,data:=.fields #[.E,.int 0 0] },g,d,tk,os⟩) l2 ys:=iK.goes c λo e=>aY _ e;wp_walk using K2 f,K2 R2;exact⟨_,rfl,h⟩
theorem aaQ{t1 t2:Bool}{a l2:Addr}{xs ys:.aE}{Q:.ac}(m:iK t1 s.heap a xs)(n:iK t2 s.heap l2 ys)
  (b:∀g,IsZip g (s.heap.objs.size+4) (s.heap.objs.size+2) (s.heap.objs.size+3) .none->IsPair g (s.heap.objs.size+2) .ba (.ref .aW)->
   IsPair g (s.heap.objs.size+3) .none .none->dv t1 g s.heap.objs.size a 0->dv t2 g .aW l2 0->
   (∀c o,.eS)->Q (.ref (s.heap.objs.size+4)) .dQ):
  wpAny .ad A (call (.type "zip") [.E,.ref l2]) Q E s:=by
 refine callType_new F.called_zip .O (F.typeCall_zip_2 _ _) (F.newCall_zip_2 _ _) (λobj=>F.args_object_init_3 obj _ _) F.entry_zip_new (acU t1 t2 a l2 xs ys) ⟨m,n,?_⟩;have d:(zA t1 s.heap a).objs.size=.aW:=dB ..;have e:(zB t1 t2 s.heap a l2).objs.size=s.heap.objs.size+2:=by rw[dB,d]
 have f:(zC t1 t2 s.heap a l2).objs.size=s.heap.objs.size+3:=by rw[dB,e]
 have i:(zD t1 t2 s.heap a l2).objs.size=s.heap.objs.size+4:=by rw[dB,f]
 have h:(zE t1 t2 s.heap a l2).get? (zD t1 t2 s.heap a l2).objs.size=some _:=cY _ rfl;have j:(zE t1 t2 s.heap a l2).get? (zC t1 t2 s.heap a l2).objs.size=some _:=aY _<|cY _ rfl;have k:(zE t1 t2 s.heap a l2).get? (zB t1 t2 s.heap a l2).objs.size=some _:=aY _<|aY _<|cY _ rfl;have l:(zE t1 t2 s.heap a l2).get? (zA t1 s.heap a).objs.size=some _:=aY _<|aY _<|aY _<|cY _ rfl;have p:(zE t1 t2 s.heap a l2).get? s.heap.objs.size=some _:=aY _<|aY _<|aY _<|aY _<|cY _ rfl;show _/\_;rw[e,f,i] at h;rw[d,e] at k;rw[f] at j;rw[d] at l;rw[i];exact⟨⟨_,h,rfl⟩,b _ h k j (dv.mk ⟨_,p,rfl,rfl⟩) (dv.mk ⟨_,l,rfl,rfl⟩) λc o q=>aY _<|aY _<|aY _<|aY _<|aY _ q⟩
end
end XZ
namespace L2
open PySem PySem.Spec PyProof.Rows XZ
def Sq(t:Bool)(K:ah)(H:Hp)(a:Addr)(xs:.r):Prop:=match t with
 |false=>.b2
 |true=>.cH
theorem Inv.row{X:Cx}{pins:.U}{σ:St}{H:Hp}{s:Shared}{a:Addr}{xs:.r}{t:Bool}(I:.D)(h:Sq t X.K H a xs):∃its:.u,Vals xs its/\iK t s.heap a its.toArray/\a<s.heap.objs.size:=by
 cases t
 ·obtain⟨its,r,p,_⟩:=I.list h;exact⟨its,r,p.isList,p.lt⟩
 ·obtain⟨its,r,p,_⟩:=I.tuple h;obtain⟨o,e,b⟩:=id p;exact⟨its,r,p,aZ e⟩
theorem Inv.K3{X:Cx}{pins:.U}{σ:St}{H:Hp}{s:Shared}{a:Addr}{xs ys:.r}{t:Bool}(I:.D)(h:Sq t X.K H a xs)(h':Sq t X.K H a ys):xs=ys:=by
 cases t
 ·exact I.Al h h'
 ·exact I.Cr h h'
def ItZ(t1 t2:Bool)(K:ah)(a b:Addr):It:=
 ⟨λi H=>∃(xs ys:.r) (x y:V),Sq t1 K H a xs/\Sq t2 K H b ys/\.ck/\ys[i]?=.ao,
  λi H v H'=>∃T x y,v=.ref T/\H T=none/\H'=upd H T (.tup [x,y])/\(∀xs,Sq t1 K H a xs->.ck)/\∀ys,Sq t2 K H b ys->ys[i]?=.ao,
  λi H=>∃xs ys:.r,Sq t1 K H a xs/\Sq t2 K H b ys/\(xs.length<=i\/ys.length<=i)⟩
theorem aaR{P:Program}{w:World}{K:ah}{B:.aU}{kk:Nat}{tpos:Pos}{t1 t2:Bool}{a b z TI TO e f:Addr}(D:ZipApart z TI TO e f a b):
  Turn P w K (.Tuple B kk tpos) (ItZ t1 t2 K a b) [z,TI,TO,e,f] z (λi h=>IsZip h z TI TO .none/\IsPair h TI .a_ .aG/\(∃x y,IsPair h TO x y)/\dv t1 h e a i/\dv t2 h f b i) where
 mem:=.m
 obj:=λi h st c F=>by
  obtain⟨m,j,⟨x,y,n⟩,p1,p2⟩:=st;obtain⟨o1,O,_,d1⟩:=p1.obj;obtain⟨o2,R,_,d2⟩:=p2.obj;have k:c=z\/c=TI\/c=TO\/c=e\/c=f:=by simpa using F
  rcases k with q|q|q|q|q
  ·rw[q];exact⟨_,m,λv q=>nomatch q⟩
  ·rw[q];exact⟨_,j,λv q=>nomatch q⟩
  ·rw[q];exact⟨_,n,λv q=>nomatch q⟩
  ·rw[q];exact⟨o1,O,λv q=>by rw[d1] at q;cases q⟩
  ·rw[q];exact⟨o2,R,λv q=>by rw[d2] at q;cases q⟩
 keep:=λi h h' st k=>by
  obtain⟨m,j,⟨x,y,n⟩,p1,p2⟩:=st;exact⟨k z .m _ m,k TI .m _ j,⟨x,y,k TO .m _ n⟩,p1.goes λo q=>k e .m o q,p2.goes λo q=>k f .m o q⟩
 item:=by
  intro X S T U F i pins s σ H E I G st V;subst S T U;obtain⟨m,j,⟨x0,y0,n⟩,p1,p2⟩:=st;obtain⟨xs,ys,x,y,J,L,ax,ay⟩:=V;obtain⟨its,W,Y,_⟩:=I.row J;obtain⟨p,r,Z,_⟩:=I.row L;obtain⟨u,hu,ru⟩:=W.get ax;obtain⟨M,hu2,ru2⟩:=r.get ay;have zl:z<s.heap.objs.size:=aZ m;refine aaP D m j n p1 p2 Y Z (x:=u) (y:=M) (by simpa using hu) (by simpa using hu2) λg z' O' p1' p2' nT hsz N=>?_;refine⟨_,rfl,wpAny_letOwnedTupleGo_zip (s:=.dQ) z' λg2 z2 t=>?_⟩;have nT2:g2.get? s.heap.objs.size=some { cls:=.bz,data:=.seq #[u,M] }:=(t.2 _<|gR zl).trans nT;have new:dM X.prog X.w (upd H s.heap.objs.size<|.tup [x,y]) g2 s.heap.objs.size (.tup [x,y]):=⟨ .b8,[u,M],.cons ru<|.cons ru2 .nil,⟨_,nT2,rfl,_,rfl⟩⟩;have I1:Inv X pins σ (upd H s.heap.objs.size<|.tup [x,y]) { s with heap:=g2 }:=
   I.CI (t':=s.toks) (ch:=[z,TI,TO,e,f]) (λc o d q=>(t.2 c λk=>d<|by simp[k]).trans<|N c o (λk=>d<|by simp[k]) (λk=>d<|by simp[k]) (λk=>d<|by simp[k]) (λk=>d<|by simp[k]) q) G (aG _) new
  refine⟨ .ba,_,I1,rfl,⟨_,x,y,rfl,I.hok.fresh<|aG _,rfl,λl hl=>by rw[I.K3 hl J];exact ax,λl hl=>by rw[I.K3 hl L];exact ay⟩,⟨z2,?_,⟨u,M,?_⟩,?_,?_⟩,λc C=>?_⟩
  ·exact(t.2 _ D.TIz).trans<|N _ _ D.TIz D.TITO D.TIi1 D.TIi2 j
  ·exact(t.2 _ D.TOz).trans O'
  ·exact p1'.goes λo q=>(t.2 _ D.i1z).trans q
  ·exact p2'.goes λo q=>(t.2 _ D.i2z).trans q
  ·have lt:c<s.heap.objs.size:=by
    have k:c=z\/c=TI\/c=TO\/c=e\/c=f:=by simpa using C
    rcases k with q|q|q|q|q
    ·rw[q];exact zl
    ·rw[q];exact aZ j
    ·rw[q];exact aZ n
    ·rw[q];obtain⟨_,O,_⟩:=p1.obj;exact aZ O
    ·rw[q];obtain⟨_,R,_⟩:=p2.obj;exact aZ R
   rw[aq<|cy lt];exact(G c C).1
 done:=by
  intro X S T U F i pins s σ H E I G st V;subst S T U;obtain⟨m,j,⟨x0,y0,n⟩,p1,p2⟩:=st;obtain⟨xs,ys,J,L,stop⟩:=V;obtain⟨its,W,Y,_⟩:=I.row J;obtain⟨p,r,Z,_⟩:=I.row L;have l1:=W.length;have l2:=r.length;have he:its.toArray[i]?=none\/p.toArray[i]?=none:=by
   rcases stop with q|q
   ·exact .inl .bq
   ·exact .inr .bq
  exact Nq (I.ok.hd F) D m j n p1 p2 Y Z he λg N=>⟨rfl,I.Ur (t':=s.toks) (ch:=[z,TI,TO,e,f]) (λc o d q=>
   N c o (λk=>d (by simp[k])) (λk=>d (by simp[k])) (λk=>d (by simp[k])) (λk=>d (by simp[k])) q) G⟩
 self:=λA i s Q E st h=>wpAny_pyIter_zip st.1 h
def iZ(t1 t2:Bool)(K:ah)(ta:TA):TI:=λσ H R=>ta σ H λvs H1=>∃a b xs ys,vs=[.E,.aM]/\Sq t1 K H1 a xs/\Sq t2 K H1 b ys/\R (ItZ t1 t2 K a b) H1
theorem Yk(t1 t2:Bool){X:Cx}{e f:Expr}{ta:TA}{p pos tpos:Pos}{i:.aU}{w:Nat}(x:Gl X "zip")(y:X.mg "zip"=none)(A:PA X [e,f] ta)
  (hs:starEach [e,f] X.env=(false,.bA)::starEach [f] X.env:=by rfl) (n:(backTo pos<|starEach [f] X.env).any (·.1)=false:=by rfl):PI X (.Tuple i w tpos) (.Call (.Name "zip" p) [e,f] [] pos) (iZ t1 t2 X.K ta):=by
 intro pins s σ H R I h;refine Call_<|Ak I x y M9<|uU (eF (A pos pins s σ H _ I h) λus s1 ⟨vs,H1,j,l,B⟩=>?_) hs n;obtain⟨a,b,xs,ys,ex,C,D,q⟩:=B;subst ex;obtain⟨T,d,rfl,E,l⟩:∃u d,us=u::d/\RelV .E u/\Vals [.aM] d:=by
  cases l with
  |cons r l=>exact⟨_,_,rfl,r,l⟩
 obtain⟨U,rfl,F⟩:=vals1 l;cases E;cases F;obtain⟨its,V,G,J⟩:=j.row C;obtain⟨t,L,M,N⟩:=j.row D;refine aaQ G M λg v O P p1 p2 Q=>wpAny_pyIter_zip v ?_;have S:Inv X pins σ H1 { s1 with heap:=g }:=j.kept (t':=s1.toks) Q;refine⟨s1.heap.objs.size+4,[s1.heap.objs.size+4,s1.heap.objs.size+2,s1.heap.objs.size+3,s1.heap.objs.size,s1.heap.objs.size+1],_,_,H1,rfl,S,aaR<|PySem.W.ktu_apart s1.heap.objs.size a b J N,⟨v,O,⟨_,_,P⟩,p1,p2⟩,λc o=>?_,q⟩;have m:s1.heap.objs.size<=c:=by
  have k:c=s1.heap.objs.size+4\/c=s1.heap.objs.size+2\/c=s1.heap.objs.size+3\/c=s1.heap.objs.size\/c=s1.heap.objs.size+1:=by simpa using o
  rcases k with z|z|z|z|z<;>rw[z]<;>first|exact aG _|exact Fi _ _
 exact j.Jr m<|j.hok.fresh m
theorem Same.tup{K:ah}{H H':Hp}{a:Addr}{xs:.r}(e:.Q)(h:.cH):gm K H' a xs:=by
 rcases h with(h|⟨o,h⟩)|h
 ·exact .inl<|.inl<|e _ _ h
 ·exact .inl<|.inr ⟨o,e _ _ h⟩
 ·exact .inr h
theorem Same.new{H:Hp}{a:Addr}{o:HO}(h:H a=none):Same H (upd H a o):=λb u q=>by rw[aq<|aC q h];exact q
theorem Same.put{H H':Hp}{a:Addr}{o:HO}(s:.Q)(h:H a=none):Same H (upd H' a o):=λb u q=>by rw[aq<|aC q h];exact s b u q
theorem Qu{K:ah}{a:Addr}{xs:.r}{g:TG}{tb:TS}{D:Ends}{σ:St}{H:Hp}(b:Nat->.a6)(f:b 0 σ H)(h:∀i σ H,i<=xs.length->b i σ H->.b2)
  (hs:∀i x σ H T,.ck->b i σ H->H T=none->g (.ref T) σ (upd H T<|.tup [.bC,x]) .fC) (j:∀σ H,b xs.length σ H->D.nx σ H):
  ∃W:Nat->Nat->.a6,(∃m,W 0 m σ H)/\∀i m σ H,W i m σ H->
   ((ZZ K a).stop i H/\D.nx σ H)\/((ZZ K a).go i H/\∃N:.a6,(∀σ' H',N σ' H'->∃d,d<m/\W (i+1) d σ' H')/\∀x H',(ZZ K a).BB i H x H'->.eI):=by
 refine⟨λi m σ H=>m=xs.length-i/\i<=xs.length/\b i σ H,⟨xs.length,.m,bj _,f⟩,?_⟩;rintro i m σ H ⟨rfl,hi,p⟩;have q:=h i σ H hi p;by_cases c:i<xs.length
 ·refine .inr ⟨⟨xs,xs[i],q,by simp[c]⟩,b<|i+1,λσ' H' k=>⟨xs.length-(i+1),.h,rfl,c,k⟩,λx H' y=>?_⟩;obtain⟨T,z,e,l,n,o⟩:=y;subst e n;exact hs i z σ H T (o xs q) p l
 ·have e:i=xs.length:=.h
  subst e;exact .inl ⟨⟨xs,q,aG _⟩,j σ H p⟩
theorem AU{t u:TS}{D:Ends}{σ:St}{H:Hp}(a:.a6)(h:∀R:.a6,(∀σ H,a σ H->R σ H)->t { D with nx:=R } σ H)(b:∀σ H,a σ H->u D σ H):XF t u D σ H:=h (u D) b
theorem AV{v:V}{i:Nat}{u:TS}{D:Ends}{σ:St}{H:Hp}(h:u D (σ.set i<|some v) H):XF (Pu (tC v)<|Am i) u D σ H:=h
theorem fscope{N P:.L}{h:Scope}(a:h.kind=.function:=by rfl)(b:h.isCoroutine=false:=by rfl)(c:h.isGenerator=false:=by rfl)(d:N.Nodup:=by decide +kernel)(e:N.take P.length=P:=by rfl)(f:∀x∈P,h.names.lookup x=some .local\/h.names.lookup x=.b7:=by decide +kernel)(g:∀y∈h.names,y.2≠.free:=by decide +kernel):az N P h:=⟨a,b,c,d,e,f,g⟩
theorem d8.ok1{P:Program}{w:World}{K:ah}{mg:.aa}{base:Heap}{x i:Str}{st:Stmt}{f:Addr}{fd:FuncData}{N ps:.L}{k:Nat}{sp:Sp}(F:d8 K x i st f fd)(S:az N ps .a1)
  (j:∀(cdv:Value) (A:Around) (outer:.a0) (s:Shared) (H:Hp) (vs:.r) (Q:VK) (E:XK),fK k (A.deeper (envOfC i .a1 s.heap.objs.size f cdv))->N.Nodup->sp vs H Q E->
   ∃t,Dt (Ax bV P w K mg base N i .a1 f cdv A outer s H E).TJ (dZ st) t/\.eL) (len:.ej:=by intro _ _ _ _ h;(repeat obtain⟨_,h⟩:=h);subst_vars;rfl):aX P w K mg base bV (k+1) f fd ps sp:=F.ok S len λa b c d e f g h r=>j a b c d e f g h r S.nd
theorem d8.lK{P:Program}{w:World}{K:ah}{mg:.aa}{base:Heap}{x i:Str}{st:Stmt}{f:Addr}{fd:FuncData}{N ps:.L}{k:Nat}{sp:Sp}(F:d8 K x i st f fd)(S:az N ps .a1)
  (j:∀(cdv:Value) (A:Around) (outer:.a0) (s:Shared) (H:Hp) (vs:.r) (Q:VK) (E:XK),fK k (A.deeper (envOfC i .a1 s.heap.objs.size f cdv))->N.Nodup->sp vs H Q E->
   ∃t,Dt (Ax .aK P w K mg base N i .a1 f cdv A outer s H E) (dZ st) t/\.eL) (len:.ej:=by intro _ _ _ _ h;(repeat obtain⟨_,h⟩:=h);subst_vars;rfl):aX P w K mg base .aK (k+1) f fd ps sp:=F.okX S len λa b c d e f g h r=>j a b c d e f g h r S.nd
theorem bu{X:Cx}{x:Str}{e:Expr}{te:TE}{pos pos':Pos}(i:Nat)(a:PE X e te)(b:X.N.Nodup:=by assumption)(hi:X.N[i]?=.v:=by rfl)(c:Loc X.env.scope x:=by first|exact kX rfl|exact qZ rfl)(hs:swapsWith e (some<|.Name x pos') pos.line X.env=pure false:=by rfl)(d:.dX:=by first|exact .ar|exact .inr rfl|assumption):
  PS X (.Assign [.Name x pos'] e pos) (Pu te<|Am i):=XH b hi c a hs d
theorem bX{X:Cx}{x:Str}{pos:Pos}(i:Nat)(a:X.N.Nodup:=by assumption)(hi:X.N[i]?=.v:=by rfl)(b:Loc X.env.scope x:=by first|exact kX rfl|exact qZ rfl)(c:.dX:=by first|exact .ar|exact .inr rfl|assumption):PG X (.Name x pos) (Am i):=TK a hi b c
theorem dz{X:Cx}{e:Expr}{t:TE}{p pos:Pos}(c:X.mg "len"=none)(d:PE X e t)(f:Gl X "len":=by rfl)(b:starEach [e] X.env=(false,.bA)::starEach [] X.env:=by rfl)(a:(backTo pos<|starEach [] X.env).any (·.1)=false:=by rfl):PE X (.Call (.Name "len" p) [e] [] pos) (tCB (λxs H Q=>∃p ys,xs=[.aO]/\(bh X.K H p ys\/gm X.K H p ys)/\Q (.int ys.length) H)<|Wq t Hq):=df pP f c mz (ae d ak b) .O .O b a
theorem bG{X:Cx}{a b:Expr}{ta tb:TE}{pos:Pos}(c:PE X a ta)(d:PE X b tb)(hs:DH b:=by exact .aX):PE X (.Subscript a b pos) (ZX (AC X.K) ta tb):=nz kE c d hs
theorem hG{X:Cx}{a b:Expr}{ta tb:TE}{pos:Pos}(c:PE X a ta)(d:PE X b tb)(hs:DH b:=by exact .aX):PE X (.Subscript a b pos) (ZX (Uc X.K) ta tb):=nz Jy c d hs
end L2
namespace Pr
open PySem PySem.Spec PyProof.Rows L2
def top(i:Nat):Stmt:=N6.main.body.getD i<|.Pass ⟨0,0,0,0⟩
structure nG(mg:.aa):Prop where
 len:mg "len"=none
 range:mg "range"=none
 enumerate:mg "enumerate"=none
 zip:mg "zip"=none
 all:mg "all"=none
 sum:mg "sum"=none
 abs:mg "abs"=none
 int:mg "int"=none
 ord:mg "ord"=none
 list:mg "list"=none
 tuple:mg "tuple"=none
 dict:mg "dict"=none
open Pw
def AW(K:ah)(H:Hp)(a:Addr)(ps:.bM):Prop:=∃b:.B,bh K H a (b.map V.ref)/\b.length=ps.length/\∀(i:Nat) ta f u,b[i]?=some ta->ps[i]?=some (f,u)->gm K H ta [.int f,.int u]
theorem AW.same{K:ah}{H H':Hp}{a:Addr}{ps:.bM}(p:AW K H a ps)(s:.Q):AW K H' a ps:=by
 obtain⟨c,h1,h2,d⟩:=p;exact⟨c,s.seq h1,h2,λi ta f u a b=>Same.tup s<|d i ta f u a b⟩
def Nr:Option Nat->V
 |none=>.non
 |some p=>.int (p:Nat)
structure vM(H0:Hp)(cA fA:Addr)(ps:.bM)(rm:.aJ)(found:.ak)(by_:.db)(H:Hp):Prop where
 same:Same H0 H
 c0:H0 cA=none
 f0:H0 fA=none
 ne:fA≠cA
 d:∃kvs:.an,H cA=.bg/\(∀a:Int,cG kvs (aU a)=(by_ a).map Nr)/\kvs.length=found.length
 l:H fA=some (.lst<|found.map V.int)
 K4:ML ps rm found by_
theorem vM.start{H0:Hp}{cA b:Addr}{ps:.bM}{rm:.aJ}(d:H0 cA=none)(e:H0 b=none)(ne:b≠cA):
  vM H0 cA b ps rm [0] (λa=>if a=0 then .am else none) (upd (upd (upd H0 cA<|.dK []) cA<|.dK<|gE [] [(aU 0,V.non)]) b<|.lst [V.int 0]):=by
 refine⟨(((Same.refl H0).put d).put d).put e,d,e,ne,⟨_,by rw[aq<|aF ne,ai],λa=>?_,rfl⟩,ai,ML.start⟩;show cG [((aU 0:Key),V.non)] (aU a)=_;by_cases c:a=0
 ·subst c;rfl
 ·rw[fZ λz=>c (qX z).symm,.ag];rfl
theorem vM.also{H0 H H':Hp}{cA a:Addr}{ps:.bM}{rm:.aJ}{found:.ak}{by_:.db}(S:vM H0 cA a ps rm found by_ H)(s:.Q):vM H0 cA a ps rm found by_ H':=by
 obtain⟨kvs,h1,h2,b⟩:=S.d;exact⟨S.same.trans s,S.c0,S.f0,S.ne,⟨kvs,s _ _ h1,h2,b⟩,s _ _ S.l,S.K4⟩
theorem vM.more{H0 H:Hp}{cA b:Addr}{ps:.bM}{rm:.aJ}{found:.ak}{by_:.db}{i p:Nat}{f u:Int}{kvs:.an}(S:vM H0 cA b ps rm found by_ H)(hk:H cA=.bg)
  (h:found[i]?=some f) (hp:ps[p]?=some (f,u)) (j:0<rm p) (ht:u∉found):
  vM H0 cA b ps rm (found++[u]) (λa=>if a=u then some (some p) else by_ a) (upd (upd H cA<|.dK<|putK kvs (aU u)<|.int (p:Nat)) b<|.lst<|found.map V.int++[.int u]):=by
 obtain⟨g,h1,h2,k⟩:=S.d;rw[hk] at h1;cases h1;have l:cG kvs (aU u)=none:=by
  rw[h2];cases e:by_ u with
  |none=>rfl
  |some x=>exact absurd ((S.K4.keys u).mp (by rw[e];rfl)) ht
 refine⟨(S.same.put S.c0).put S.f0,S.c0,S.f0,S.ne,⟨_,by rw[aq<|aF S.ne,ai],λa=>?_,?_⟩,?_,S.K4.more h hp j ht⟩
 ·rw[pd,h2];by_cases c:a=u
  ·subst c;rw[.ah,.ah];rfl
  ·rw[if_neg λz=>c<|qX z,.ag]
 ·rw[P6 _ l,bS,bS,k];rfl
 ·rw[ai,fB];rfl
theorem Qv{ps:.bM}{t a:Int}{w:.e}(h:Part ps t w a)(e:w=[]):a=t:=by
 cases h with
 |nil=>rfl
 |snoc _ _=>simp at e
def Qw(K:ah):Sp:=λvs H Q _=>∃(b rA:Addr) (t:Int) (ps:.bM) (rm:.ak),vs=[.aM,.ref rA,.int t]/\AW K H b ps/\bh K H rA (rm.map V.int)/\rm.length=ps.length/\ps.length<=1000/\t≠0/\
 ∀(H':Hp) (w:Addr) (a:.e),H' w=some (.lst<|a.map λp=>V.int (p:Nat))->H w=none->.Q->Af ps .bH t a->Q (.ref w) H'
abbrev K5:Stmt:=top 22
theorem Qx:az ["passages","room","target","came_by","found","done","passage","pair","way"] ["passages","room","target"] (ao K5):=fscope
section
variable{P:Program}{w:World}{K:ah}{mg:.aa}{base:Heap}
theorem UB{f:Addr}{fd:FuncData}(F:d8 K "find_way" "find_way" K5 f fd)(B:nG mg){Yl:Tok}(hW:mg "WATERED"=some (.int 0 Yl)):aX P w K mg base bV 1 f fd ["passages","room","target"] (Qw K):=by
 refine F.ok1 Qx ?_;rintro cdv A outer s H _ Q E hr nd ⟨J,rA,t,ps,rm,rfl,hP,hR,hlen,hps,ht,k⟩;have hu:=rM hr;refine⟨_,af (bu 3 (Uq (P8 .eV rq Uo) rfl rfl .m .O))
  (af (bu 4 (eW (ae .eV ak)))
  (af (bu 5 aD)
  (af (mJ dc (Jq (a9 ny (pv 5) (df pP .s B.len mz (ae .ay ak)) .aN) (Ky (iA (kz hu .M .aj)))).pt
   (af (iO dc rfl (sE .s B.enumerate (ae .j ak)) (Pt rfl (eG (bX 6) (eG (bX 7) lG)))
    (ap (cx (Jq (a9 fo (hG (pv 7) aD) (bG .ay (pv 5)) .aN) (Jq (a9 Hn (bG .o (pv 6)) aD .aN) (Ky (iA (kz hu (hG (pv 7) aD) .aj))))).pt
     (af (yo hu .aj (hG (pv 7) aD) (pv 6) rfl)
      (ap (aL (mL fV gz gW fP .ay (ae (hG (pv 7) aD) ak))))) bE)))
    (ap (Dy (i:=5) Qx.nd rfl (kX rfl) aD An))))
  (af (bu 8 (eW ak))
  (af (cx (iA (JC hu .M .aj))
   (af (bu 6 (nE hu .aj .M .aX))
    (ap (mJ dc (iA (yn (pv 6)))
     (af (aL (mL fV gz gW fP (pv 8) (ae (pv 6) ak)))
      (ap (bu 6 (nE hu .aj (hG (bG .j (pv 6)) aD) .aX))))))) bE)
  (ap (aJ (pv 8)))))))),?_⟩
 intro cA hcA;refine⟨ai,[(aU 0,.non)],rfl,.O,?_⟩;refine⟨ .cL,λC O=>?_⟩;have Z:C≠cA:=λz=>by rw[z,ai] at O;cases O
 have acV:H C=none:=by rw[aq Z,aq Z] at O;exact O
 obtain⟨qw,hq,htl,L⟩:=hP;refine AV (AV (AU (λσ H1=>∃(found:.ak) (by_:.db) (done:Nat) (G D:.aw),.fi/\
   vM H cA C ps .bH found by_ H1/\.e6/\(found.length<=done\/t∈found)) (λR fin=>?_) ?_))
 ·refine⟨λm σ H'=>∃(found:.ak) (by_:.db) (done:Nat) (G D:.aw),m=ps.length+1-done/\.fi/\
    vM H cA C ps .bH found by_ H'/\.e6,
   ⟨_,[0],_,0,none,none,rfl,rfl,vM.start hcA acV Z,λj hj=>absurd hj (ig _)⟩,?_⟩
  rintro m σ H1 ⟨found,by_,done,G,D,rfl,rfl,S,n⟩;obtain⟨kvs,hk,hv,hkl⟩:=S.d;refine⟨_,rfl,_,rfl,C,_,rfl,.inl<|bh.of S.l,_,_,rfl,rfl,_,rfl,?_⟩;rw[au];refine c7 (λN=>?_) λN=>?_
  ·have N:done<found.length:=by have:=of_decide_eq_true N;omega
   refine⟨_,rfl,_,rfl,cA,_,rfl,ky.k (k:=aU t) hk,_,rfl,?_⟩;rw[hv];refine c7 (λc2=>?_) λc2=>?_
   ·refine⟨λσ H'=>∃(found:.ak) (by_:.db) (G D:.aw),σ=[some (.ref J),some (.ref rA),some (.int t),some (.ref cA),some .I,some (.int ((done+1:Nat):Int)),G,D,none]/\
      vM H cA C ps .bH found by_ H'/\∀j,j<done+1->Shut ps .bH found j ps.length,λσ' H' ⟨gL,acW,v6',v7',e,S',h'⟩=>⟨_,?_,gL,acW,done+1,v6',v7',rfl,e,S',h'⟩,?_⟩
    ·have:=S.K4.len;omega
    refine⟨_,rfl,J,_,rfl,S.same.seq hq,Qu (K:=K) (a:=J) (xs:=qw.map V.ref) (λi σ H'=>∃(found:.ak) (by_:.db) (G D:.aw),.fi/\
      vM H cA C ps .bH found by_ H'/\done<found.length/\.e6/\Shut ps .bH found done i)
     ⟨found,by_,G,D,rfl,S,N,n,λa t p h=>absurd h (ig _)⟩ (λi σ H' _ ⟨_,_,_,_,_,S',_⟩=>S'.same.seq hq) ?_ ?_⟩
    ·rintro i x σ H2 T hx ⟨found,by_,G,D,rfl,S,N,n,M⟩ hT;obtain⟨ta,U,rfl⟩:∃ta,qw[i]?=some ta/\x=V.ref ta:=by
      rw[b8] at hx;cases e:qw[i]? with
      |none=>rw[e] at hx;cases hx
      |some z=>rw[e] at hx;exact⟨z,rfl,(aI hx).symm⟩
     obtain⟨⟨f,u⟩,I⟩:∃q,ps[i]?=some q:=⟨_,bo (by have:=(aB.mp U).1;omega)⟩;obtain⟨a,ha⟩:∃a,found[done]?=some a:=⟨_,bo N⟩;have b:=S.also<|Same.new (o:=.tup [.bC,.ref ta]) hT;obtain⟨kvs,hk,hv,hkl⟩:=b.d;obtain⟨ri,Qy⟩:∃r,rm[i]?=some r:=⟨_,bo (by have:=(aB.mp U).1;omega)⟩;have hrg:rm.getD i 0=ri:=by simp[cM,Qy]
     have stay:(f=a->0<ri->u∈found)->∃(found:.ak) (by_:.db) (G D:.aw),([some<|.ref J,some<|.ref rA,some<|.int t,some<|.ref cA,some<|.ref C,some<|.int (done:Nat),some<|.int (i:Nat),some<|.ref ta,none]:L2.St)=[some<|.ref J,some<|.ref rA,some<|.int t,some<|.ref cA,some<|.ref C,some<|.int (done:Nat),G,D,none]/\
       vM H cA C ps .bH found by_ (upd H2 T<|.tup [.bC,.ref ta])/\done<found.length/\.e6/\Shut ps .bH found done (i+1):=λhz=>
      ⟨found,by_,_,_,rfl,b,N,n,λa' t' p hp h1 h2 W=>by
       by_cases c:p<i
       ·exact M a' t' p c h1 h2 W
       ·have:p=i:=.h
        subst this;rw[ha] at h1;cases h1;rw[I] at h2;cases h2;refine hz rfl ?_;have W:0<rm.getD p 0:=W;rw[hrg] at W;exact W⟩
     refine⟨T,_,rfl,gm.of ai,rfl,_,_,rfl,_,_,rfl,rfl,?_⟩;refine⟨_,rfl,ta,_,0,.int f,rfl,rfl,Same.tup b.same<|L i ta f u U I,c6 (j:=0) rfl,_,rfl,_,rfl,C,_,_,.int a,rfl,rfl,bh.of b.l,c6 (j:=done) (by rw[b8,ha];rfl),rfl,_,rfl,?_⟩;refine c7 (λd1=>?_) λd1=>?_
     ·have d1:f=a:=by have:=of_decide_eq_true d1;cases this;rfl
      refine⟨_,rfl,_,rfl,rA,_,_,.int ri,rfl,rfl,b.same.seq hR,c6 (j:=i) (by rw[b8,Qy];rfl),_,_,rfl,rfl,_,rfl,?_⟩;refine c7 (λd2=>?_) λd2=>?_
      ·have d2:0<ri:=of_decide_eq_true d2;refine⟨_,rfl,ta,_,1,.int u,rfl,rfl,Same.tup b.same<|L i ta f u U I,c6 (j:=1) rfl,_,rfl,cA,_,rfl,ky.k (k:=aU u) hk,_,rfl,?_⟩;rw[hv];refine c7 (λd3=>?_) λd3=>?_
       ·have d3:u∉found:=λz=>by
         have:=(b.K4.keys u).mpr z;rw[qT,this] at d3;exact absurd d3<|by decide
        subst d1;refine⟨_,rfl,_,rfl,_,rfl,ta,_,1,.int u,rfl,rfl,Same.tup b.same<|L i ta f u U I,c6 (j:=1) rfl,cA,_,rfl,BJ.k (k:=aU u) hk ?_,?_⟩
        ·rw[hkl];have:=b.K4.len;exact uF this .da
        have S3:=b.more hk ha I (by show 0<rm.getD i 0;rw[hrg];exact d2) d3;have sc:Same (upd H2 T<|.tup [.bC,.ref ta]) .fv->True:=λ_=>trivial;have hfl:(.fv) C=some (.lst<|found.map V.int):=by rw[aq b.ne];exact b.l
        have hst:gm K .fv ta [.int f,.int u]:=Same.tup (b.same.put b.c0)<|L i ta f u U I;refine⟨_,rfl,.inl ⟨rfl,_,bh.of hfl⟩,_,rfl,ta,_,1,.int u,rfl,rfl,hst,c6 (j:=1) rfl,C,_,_,rfl,rfl,hfl,?_,?_⟩
        ·rw[au];have:=b.K4.len;exact uF this .da
        refine⟨_,_,_,_,rfl,S3,by rw[bS];omega,λj hj=>(n j hj).more<|by omega,λa' t' p hp h1 h2 W=>?_⟩;by_cases c:p<i
        ·exact M.more N a' t' p c h1 h2 W
        ·have:p=i:=.h
         subst this;rw[I] at h2;cases h2;exact eP _ bf
       ·refine stay λ_ _=>?_;refine eJ λz=>d3 ?_;cases e:by_ u with
        |none=>rfl
        |some y=>exact absurd ((b.K4.keys u).mp (by rw[e];rfl)) z
      ·exact stay λ_ z=>absurd (decide_eq_true z) d2
     ·exact stay λz _=>absurd (decide_eq_true<|congrArg V.int z) d1
    ·rintro σ H2 ⟨found,by_,G,D,rfl,S,N,n,M⟩;rw[au,htl] at M;refine⟨_,rfl,_,_,rfl,rfl,found,by_,G,D,rfl,S,λj hj=>?_⟩;by_cases c:j<done
     ·exact n j c
     ·have:j=done:=.h
      subst this;exact M
   ·refine fin _ _ ⟨found,by_,done,G,D,rfl,S,n,.inr ?_⟩;refine(S.K4.keys t).mp ?_;cases e:by_ t with
    |none=>rw[e] at c2;exact absurd rfl c2
    |some y=>rfl
  ·refine fin _ _ ⟨found,by_,done,G,D,rfl,S,n,.inl ?_⟩;refine kN λz=>N<|decide_eq_true ?_;omega
 ·rintro σ H1 ⟨found,by_,done,G,D,rfl,S,n,hend⟩;refine⟨bj _,λwA Jf=>?_⟩;have b:=S.also<|Same.new (o:=.lst []) Jf;obtain⟨kvs,hk,hv,hkl⟩:=b.d;have Ym:H wA=none:=S.same.free Jf;have nwc:cA≠wA:=λz=>by
   obtain⟨_,h1,_⟩:=S.d;rw[z,Jf] at h1;cases h1
  have nwf:C≠wA:=λz=>by
   have h1:=S.l;rw[z,Jf] at h1;cases h1
  have X:t∈found↔((by_ t).map Nr).isSome=true:=by rw[qT];exact(b.K4.keys t).symm
  refine⟨_,rfl,_,rfl,cA,_,rfl,ky.k (k:=aU t) hk,_,rfl,?_⟩;rw[hv];refine c7 (λc=>?_) λc=>?_
  ·obtain⟨j0,hj0⟩:=fh<|X.mpr c;obtain⟨r0,hr0⟩:∃r,by_ t=some r:=uR.mp<|(b.K4.keys t).mpr<|X.mpr c;have aaS:∀{H':Hp} {a:Int} {r:Option Nat},H' cA=.bg->by_ a=some r->ky H' cA (.int a) (some<|Nr r):=λ{H' a r} h1 h2=>by
    have e:cG kvs (aU a)=some (Nr r):=by rw[hv,h2];rfl
    rw[<-e];exact ky.k (k:=aU a) h1
   refine⟨_,rfl,_,rfl,cA,_,rfl,aaS hk hr0,?_⟩;refine⟨λm σ H'=>∃(g:.e) (a:Int) (r:Option Nat),.f1/\by_ a=some r/\
     Ae ps .bH found t g a m/\H' wA=some (.lst (g.map λp=>V.int (p:Nat)))/\.Q/\H' cA=.bg,⟨j0,[],t,r0,rfl,hr0,⟨.nil,hj0,.m,λp h=>absurd h .m,λp h=>absurd h .m⟩,ai,b.same,hk⟩,?_⟩
   rintro m σ H2 ⟨g,a,r,rfl,hr,Y,hw,hs,hc⟩;refine⟨_,rfl,_,rfl,?_⟩;refine c7 (λc2=>?_) λc2=>?_
   ·cases r with
    |none=>exact absurd c2<|by decide
    |some p=>
     obtain⟨f,i,hpf,him,hb',r',hr'⟩:=b.K4.back Y hr;have plt:p<ps.length:=(aB.mp hpf).1;obtain⟨ta,U⟩:∃ta,qw[p]?=some ta:=⟨_,bo<|by omega⟩;have acX:g.length<=ps.length:=by
      have:=lE g (a8 ps.length) Y.nd λq hq=>by
       obtain⟨f',b',_,g1,_⟩:=Y.ahead q hq;exact dU.mpr (aB.mp g1).1
      simpa using this
     refine⟨λσ H'=>∃(g:.e) (a:Int) (r:Option Nat),.f1/\by_ a=some r/\
      Ae ps .bH found t g a i/\H' wA=some (.lst (g.map λp=>V.int (p:Nat)))/\.Q/\H' cA=.bg,λσ' H' h=>⟨i,him,h⟩,?_⟩
     have hs3:Same H (upd H2 wA<|.lst<|(g.map λp=>V.int (p:Nat))++[.int (p:Nat)]):=hs.put Ym;have hc3:(upd H2 wA<|.lst<|(g.map λp=>V.int (p:Nat))++[.int (p:Nat)]) cA=.bg:=by rw[aq nwc];exact hc
     refine⟨_,rfl,.inl ⟨rfl,_,bh.of hw⟩,_,rfl,wA,_,_,rfl,rfl,hw,?_,?_⟩
     ·rw[au];exact uF acX .da
     refine⟨_,rfl,_,rfl,_,rfl,J,_,_,.ref ta,rfl,rfl,hs3.seq hq,c6 (j:=p) (by rw[b8,U];rfl),ta,_,0,.int f,rfl,rfl,Same.tup hs3<|L p ta f a U hpf,c6 (j:=0) rfl,cA,_,rfl,aaS hc3 hr',?_⟩;refine⟨g++[p],f,r',rfl,hr',hb',?_,hs3,hc3⟩;rw[ai,fB];rfl
   ·cases r with
    |some p=>exact absurd rfl c2
    |none=>
     have ea:=b.K4.end_ Y hr;subst ea;refine⟨_,rfl,k H2 wA g hw Ym hs<|.inr ⟨λe=>?_,Y.part,Y.nd,Y.rooms⟩⟩;exact ht (Qv Y.part e).symm
  ·refine⟨_,rfl,k _ wA [] ai Ym b.same<|.inl ⟨rfl,λx=>x∈found,bc b.K4.head,λz=>c<|X.mp z,λp f' u' h1 h2 W=>?_⟩⟩;have hl:found.length<=done:=by
    rcases hend with z|z
    ·exact z
    ·exact absurd (X.mp z) c
   obtain⟨i,hi⟩:=fh W;have il:=.ch;exact n i .h f' u' p (aB.mp h1).1 hi h1 h2
end
end Pr
namespace L2
open PySem PySem.Spec PyProof.Rows
def aaT(K:ah):V->V->.aD:=λo i H Q=>∃p xs v,∃j:Nat,o=.aO/\i=.int .aL/\bh K H p xs/\xs[j]?=.av/\Q v H
theorem Ie{X:Cx}:aap X (aaT X.K):=by
 intro pins s σ H o i g k Q I b c h;obtain⟨p,xs,v,j,rfl,rfl,d,a,q⟩:=h;cases b;obtain⟨t,rfl⟩:=c;obtain⟨its,r,pl,l⟩:=I.list d;obtain⟨u,e,f⟩:=r.get a;have m:=(aB.mp a).1;have n:=tH;exact wpAny_getItem_list pl.isList .h .h .dS ⟨v,H,I,f,q⟩
theorem sG{n j:Nat}(h:j<n):N3 n (j:Int)=some j:=by
 unfold N3;rw[.bX,.bX];simp
end L2
namespace Pr
open PySem PySem.Spec PyProof.Rows L2 Pw
def kb(H:Hp)(a:Addr)(ps:.bM):Prop:=∃b:.B,H a=some (.lst<|b.map V.ref)/\b.length=ps.length/\∀(i:Nat) ta f u,b[i]?=some ta->ps[i]?=some (f,u)->H ta=some (.tup [.int f,.int u])
theorem kb.at_{K:ah}{H:Hp}{a:Addr}{ps:.bM}(p:kb H a ps):AW K H a ps:=by
 obtain⟨b,h1,h2,c⟩:=p;exact⟨b,bh.of h1,h2,λi ta f u x y=>gm.of<|c i ta f u x y⟩
theorem kb.same{H H':Hp}{a:Addr}{ps:.bM}(p:kb H a ps)(s:.Q):kb H' a ps:=by
 obtain⟨b,h1,h2,c⟩:=p;exact⟨b,s _ _ h1,h2,λi ta f u x y=>s _ _<|c i ta f u x y⟩
theorem kb.snoc{H:Hp}{a T:Addr}{ps:.bM}{b:.B}{f u:Int}(h1:H a=some (.lst<|b.map V.ref))(h2:b.length=ps.length)(h:∀(i:Nat) ta f u,b[i]?=some ta->ps[i]?=some (f,u)->H ta=some (.tup [.int f,.int u]))
  (d:H T=none):kb (upd (upd H T<|.tup [.int f,.int u]) a<|.lst<|b.map V.ref++[.ref T]) a (ps++[(f,u)]):=by
 have na:T≠a:=λz=>by rw[z,h1] at d;cases d
 refine⟨b++[T],by rw[ai,fB];rfl,by simp[h2],λi ta e g x y=>?_⟩;by_cases c:i<b.length
 ·rw[bN c] at x;rw[bN<|by omega] at y;have z:=h i ta e g x y;rw[aq (jc z h1 (by intro q;cases q)),aq<|aC z d];exact z
 ·have:i=b.length:=by
   have:=(aB.mp x).1;simp at this;omega
  subst this;have j:T=ta:=by simpa using x
  have k:(f,u)=(e,g):=by
   rw[h2] at y;simpa using y
  subst j;cases k;rw[aq na,ai]
def vN(K:ah)(H:Hp)(a:Addr)(sd:.c6)(vs:.e):Prop:=∃kvs:.an,H a=.bg/\∀v,v∈vs->∃b,cG kvs (aU (v:Int))=some .aM/\bh K H b [.int (sd v).1,.int (sd v).2]
theorem vN.same{K:ah}{H H':Hp}{a:Addr}{sd:.c6}{vs:.e}(p:vN K H a sd vs)(s:.Q):vN K H' a sd vs:=by
 obtain⟨kvs,h1,h2⟩:=p;exact⟨kvs,s _ _ h1,λv hv=>let ⟨la,e,q⟩:=h2 v hv;⟨la,e,s.seq q⟩⟩
abbrev aW(l:.e):.r:=l.map λp=>V.int (p:Nat)
theorem xO:∀ns:.ak,uV (ns.map .int)=true
 |[]=>by simp[uV]
 |n::r=>by simp[uV,xO r,zG]
theorem depthAll_ints:∀ns:.ak,uW (ns.map .int)<=1
 |[]=>by simp[uW]
 |n::r=>by
  have:=depthAll_ints r;simp[uW,zI];omega
theorem shaped_ints(ns:.ak):kW (.list<|ns.map .int)=true:=by
 have h1:=xO ns;have h2:=depthAll_ints ns;unfold kW;simp[zG,zI,h1];omega
theorem AX(K:ah)(H:Hp):∀ns:.e,AG K H (aW ns) ((ns.map λ(n:Nat)=>(n:Int)).map .int)
 |[]=>.nil
 |n::r=>.cons (.int _)<|AX K H r
theorem UD(ns:.e):gX (.list<|(ns.map λ(n:Nat)=>(n:Int)).map .int) (.list [])=decide (ns=[]):=by
 cases ns with
 |nil=>simp[gX,zH]
 |cons a r=>simp[gX,zH]
theorem kb.put{H:Hp}{a r:Addr}{ps:.bM}{xs ys:.r}(p:kb H a ps)(h:H r=.aZ)(n:a≠r):kb (upd H r<|.lst ys) a ps:=by
 obtain⟨b,h1,h2,c⟩:=p;refine⟨b,by rw[aq n];exact h1,h2,λi ta f u x y=>?_⟩;have z:=c i ta f u x y;rw[aq<|jc z h (by intro q;cases q)];exact z
theorem d9{l:.e}{i:Nat}{x:V}(h:(aW l)[i]?=.v):∃v,l[i]?=.av/\x=.int (v:Nat):=by
 rw[b8] at h;cases e:l[i]? with
 |none=>rw[e] at h;cases h
 |some z=>rw[e] at h;exact⟨z,rfl,(aI h).symm⟩
theorem take_snoc{α:Type}{l:.aP}{i:Nat}{x:α}(h:l[i]?=.v):l.take (i+1)=l.take i++[x]:=by
 obtain⟨h1,h2⟩:=aB.mp h;rw[Es h1,h2]
theorem Qz(n:Nat):(bq n [V.int 1]).flatten=(bq n (1:Int)).map V.int:=by
 induction n with
 |zero=>rfl
 |succ n ih=>rw[jD,n8,ih,jD];rfl
def K6(K:ah):Sp:=λvs H Q _=>∃(a sA:Addr) (t:Int) (kept all:.e) (sd:.c6),vs=[.E,.al,.int t]/\bh K H a (aW kept)/\vN K H sA sd all/\(∀v,v∈kept->v∈all)/\kept.Nodup/\kept.length<=12/\t≠0/\
 ∀H':Hp,.Q->Q (.int (gG sd 0 t kept:Nat)) H'
abbrev DR:Stmt:=top 21
theorem K7:az ["valves","sides","target","passages","valve","room","ways","way","passage"] .d4 (ao DR):=fscope
theorem K8(p:Nat):zS (p:Int) 1=((twin p:Nat):Int):=by
 rw[Ya.Na .h<|by omega];have e:=Ya.qj p 1;have a:p&&& 1=p % 2:=Nat.and_one_is_mod p;rw[a] at e;unfold twin;show((p ^^^ 1:Nat):Int)=_;split<;>omega
section
variable{P:Program}{w:World}{K:ah}{mg:.aa}{base:Heap}
theorem QA{f fF:Addr}{fd C:FuncData}(F:d8 K "count_ways" "count_ways" DR f fd)(B:nG mg)(hF:mg "find_way"=some (.ref fF))(FF:d8 K "find_way" "find_way" K5 fF C)(bF:Binds K C ["passages","room","target"] [])
  (GF:aX P w K mg base bV 1 fF C ["passages","room","target"] (Qw K)):aX P w K mg base bV 2 f fd .d4 (K6 K):=by
 refine F.ok1 K7 ?_;rintro cdv A outer s H _ Q E hr nd ⟨O,sA,t,kept,all,sd,rfl,hV,hS,hin,S,hl,ht,k⟩;have hu:=rM hr;refine⟨_,af (bu 3 (eW ak))
  (af (iO dc rfl (cB .j) (bX 4)
   (af .f2
   (ap .f2)))
  (af (bu 5 (dm AF (eW (ae aD ak)) (df pP .s B.len mz (ae .aj ak))))
  (af (bu 6 aD)
  (af (bu 7 (vD GF hr .s hF FF.kp bF .nil aP (ae .aj (ae (pv 5) .cG))))
  (af (mJ dc (a9 (X3 hr.units) (pv 7) (eW ak) .aN)
   (af (iO dc rfl (cB (pv 7)) (bX 8)
    (af (Kz (pv 5) (pv 8) Ie aD XI set_list)
    (ap (Kz (pv 5) (dm XS (pv 8) aD) Ie aD An set_list))))
   (af (Dy (i:=6) K7.nd rfl (kX rfl) aD An)
   (ap (bu 7 (vD GF hr .s hF FF.kp bF .nil aP (ae .aj (ae (pv 5) .cG))))))))
  (ap (aJ (pv 6)))))))),?_⟩
 refine⟨bj _,λd U=>?_⟩;have s0:Same H (upd H d (.lst [])):=Same.new U;refine⟨_,rfl,O,rfl,⟨_,s0.seq hV⟩,iB (K:=K) (a:=O) (xs:=aW kept) (λi σ H'=>∃R:.aw,σ=[some (.ref O),some .al,some (.int t),some (.ref d),R,none,none,none,none]/\.Q/\kb H' d (fJ sd (kept.take i)))
  ⟨none,rfl,s0,[],ai,rfl,λi ta f u h=>absurd h .m⟩ (λi σ H' _ ⟨_,_,W,_⟩=>W.seq hV) ?_ ?_⟩
 ·rintro i x σ H1 hx ⟨R,rfl,s1,r,t1,t2,t3⟩;obtain⟨v,hv,rfl⟩:=d9 hx;have hvk:v∈kept:=bc hv;have tl:r.length<=24:=by
   rw[t2,gK,ie];omega
  have g:∀{H':Hp},.Q->∃D,ky H' sA (.int (v:Nat)) (some<|.ref D)/\bh K H' D [.int (sd v).1,.int (sd v).2]:=λ{H'} s=>by
   obtain⟨kvs,k1,k2⟩:=hS.same s;obtain⟨D,k3,k4⟩:=k2 v<|hin v hvk;refine⟨D,?_,k4⟩;rw[<-k3];exact ky.k (k:=aU (v:Int)) k1
  obtain⟨D,g1,g2⟩:=g s1;refine⟨_,rfl,.inl ⟨rfl,_,bh.of t1⟩,_,rfl,_,rfl,sA,_,rfl,g1,D,_,0,.int (sd v).1,rfl,rfl,g2,c6 (j:=0) rfl,_,rfl,_,rfl,sA,_,rfl,g1,D,_,1,.int (sd v).2,rfl,rfl,g2,c6 (j:=1) rfl,.b8,λT hT=>?_⟩;have nT:d≠T:=aC t1 hT;have n:(upd H1 T<|.tup [.int (sd v).1,.int (sd v).2]) d=some (.lst<|r.map V.ref):=by rw[aq nT];exact t1
  refine⟨d,_,_,rfl,rfl,n,.et,?_⟩;obtain⟨acY,r1,r2,r3⟩:=kb.snoc (f:=(sd v).1) (u:=(sd v).2) t1 t2 t3 hT;have X:H d=none:=U;have Y:Same H (upd (upd H1 T<|.tup [.int (sd v).1,.int (sd v).2]) d<|.lst<|r.map V.ref++[.ref T]):=(s1.trans<|Same.new hT).put X;have tl2:acY.length<=25:=by
   rw[r2,bS,<-t2];simp;omega
  obtain⟨lb,g3,g4⟩:=g Y;refine⟨_,rfl,.inl ⟨rfl,_,bh.of r1⟩,_,rfl,_,rfl,sA,_,rfl,g3,lb,_,1,.int (sd v).2,rfl,rfl,g4,c6 (j:=1) rfl,_,rfl,_,rfl,sA,_,rfl,g3,lb,_,0,.int (sd v).1,rfl,rfl,g4,c6 (j:=0) rfl,.b8,λT2 G=>?_⟩;have nT2:d≠T2:=aC r1 G;refine⟨d,_,_,rfl,rfl,(by rw[aq nT2];exact r1),.et,?_⟩;have fin:=kb.snoc (f:=(sd v).2) (u:=(sd v).1) r1 r2 r3 G;refine⟨_,rfl,(Y.trans<|Same.new G).put X,?_⟩;rw[take_snoc hv,Hd];exact fin
 ·rintro σ H1 ⟨R,rfl,s1,hp⟩;rw[au,gr] at hp;obtain⟨r,t1,t2,t3⟩:=hp;rw[gK] at t2;refine⟨ .cL,λZ Ig=>?_⟩;have no:d≠Z:=aC t1 Ig;have n:(upd H1 Z<|.lst [.int 1]) d=some (.lst<|r.map V.ref):=by rw[aq no];exact t1
  refine⟨_,rfl,d,_,rfl,.inl<|bh.of n,Z,_,_,rfl,rfl,ai,?_,?_,?_,λrA N4=>?_⟩
  ·rw[au];omega
  ·rw[au];omega
  ·rw[au,sizeLine_eq];show 1*((r.length:Int)).toNat<=_;omega
  have hz:((r.map V.ref).length:Int).toNat=.bO:=by rw[au,t2];omega
  rw[hz,Qz];have nrp:d≠rA:=aC n N4;have Y:Same H (upd H1 Z<|.lst [.int 1]):=s1.trans<|Same.new Ig;have hr0:H rA=none:=Y.free N4;have PT:kb (upd (upd H1 Z<|.lst [.int 1]) rA<|.lst<|(bq .bO (1:Int)).map V.int) d .cF:=
   (kb.same ⟨r,t1,by rw[t2,gK],t3⟩<|Same.new Ig).same (Same.new N4)
  have F0:gi sd 0 t kept (λp=>(bq .bO (1:Int)).getD p 0) 0:=gi.start.congr λp hp=>by simp[cM,hp]
  refine⟨_,rfl,_,rfl,_,rfl,d,rA,t,.cF,bq .bO 1,rfl,PT.at_,bh.of ai,by rw[gK];simp,by rw[gK];omega,ht,λH2 wA b hw hwn sw wok=>?_⟩;refine⟨λm σ H'=>∃(ways:Nat) (rm:.ak) (b:.e) (wA:Addr) (I:.aw),m=kept.length-ways/\.f9/\.Q/\kb H' d .cF/\
    H' rA=some (.lst<|rm.map V.int)/\rm.length=.bO/\gi sd 0 t kept .bH ways/\Af .cF .bH t b/\H' wA=some (.lst<|aW b)/\rA≠wA,
   ⟨_,0,_,b,wA,none,rfl,rfl,(Y.trans (Same.new N4)).trans sw,PT.same sw,sw _ _ ai,.m,F0,wok,hw,λz=>by rw[<-z,ai] at hwn;cases hwn⟩,?_⟩
  rintro m σ H3 ⟨ways,rm,b,wA,I,rfl,rfl,s3,P3,hrm,hrl,F3,W3,J,nrw⟩;refine⟨_,rfl,bj _,λeA heA=>?_⟩;have L:Same H3 (upd H3 eA<|.lst []):=Same.new heA;refine⟨_,_,.lst (L.seq<|bh.of J)<|AX K _ b,.lst (bh.of ai) .nil,shaped_ints _,shaped_ints [],_,rfl,?_⟩;rw[UD];refine c7 (λc=>?_) λc=>?_
  ·have c:b≠[]:=λz=>by rw[z] at c;exact absurd c<|by decide
   obtain⟨F4,M⟩:=W3.more F3 c;obtain⟨fl,fg⟩:=Ah (k:=kept.length) b rm hrl M;have bnd:=F4.bound S (aF ht);refine⟨λσ H'=>∃(rm:.ak) (b:.e) (wA:Addr) (I:.aw),σ=[some (.ref O),some .al,some (.int t),some (.ref d),R,some (.ref rA),some (.int ((ways+1:Nat):Int)),.cV,I]/\.Q/\kb H' d .cF/\
    H' rA=some (.lst<|rm.map V.int)/\rm.length=.bO/\gi sd 0 t kept .bH (ways+1)/\Af .cF .bH t b/\H' wA=some (.lst<|aW b)/\rA≠wA,
    λσ' H' ⟨rm',Yn,N,o,h⟩=>⟨_,.h,ways+1,rm',Yn,N,o,rfl,h⟩,?_⟩
   refine⟨_,rfl,wA,rfl,⟨_,bh.of (L _ _ J)⟩,iB (K:=K) (a:=wA) (xs:=aW b) (λi σ H'=>∃I:.aw,.f9/\.Q/\kb H' d .cF/\
     H' rA=some (.lst ((.eB).map V.int))/\H' wA=some (.lst (aW b)))
    ⟨I,rfl,s3.trans L,P3.same L,L _ _ hrm,L _ _ J⟩ (λi σ H' _ ⟨_,_,_,_,_,h⟩=>bh.of h) ?_ ?_⟩
   ·rintro i x σ H5 hx ⟨o,rfl,W,P5,y,Yo⟩;obtain⟨p,hp,rfl⟩:=d9 hx;have plt:p<.bO:=M p<|bc hp;have l5:(.eB).length=.bO:=(Ah (b.take i) rm hrl λq hq=>M q<|List.mem_of_mem_take hq).1;have aaV:∀(l:.ak) (q:Nat),q<l.length->(l.map V.int)[q]?=some (.int<|l.getD q 0):=λl q hq=>by simp[cM,hq]
    refine⟨_,rfl,_,rfl,rA,_,_,p,rfl,rfl,bh.of y,aaV _ p<|by omega,_,_,rfl,rfl,rA,_,_,p,rfl,rfl,y,sG (by rw[au];omega),?_⟩;have tw:=Kq plt;have e1:((.eB).map V.int).set p (.int<|(.eB).getD p 0-1)=((.eB).set p<|(.eB).getD p 0-1).map V.int:=by rw[uC]
    rw[e1];refine⟨_,rfl,_,rfl,_,_,rfl,rfl,rA,_,_,twin p,rfl,congrArg V.int<|K8 p,bh.of ai,aaV _ (twin p) (by rw[fz];omega),_,_,rfl,rfl,rA,_,_,twin p,rfl,congrArg V.int<|K8 p,ai,sG (by rw[au,fz];omega),?_⟩;refine⟨_,rfl,(W.put hr0).put hr0,((P5.put y nrp).put ai nrp),?_,by rw[aq<|aF nrw,aq<|aF nrw];exact Yo⟩;rw[ai,take_snoc hp,yO,<-uC];rfl
   ·rintro σ H5 ⟨o,rfl,W,P5,y,Yo⟩;rw[au,gr] at y;refine⟨_,rfl,_,_,rfl,rfl,?_⟩;refine⟨_,rfl,_,rfl,_,rfl,d,rA,t,.cF,b.foldl thr rm,rfl,P5.at_,bh.of y,by rw[gK,fl],by rw[gK];omega,ht,λH6 N Yn hw6 aaW s6 acZ=>?_⟩;exact⟨b.foldl thr rm,Yn,N,o,rfl,W.trans s6,P5.same s6,s6 _ _ y,fl,F4.congr λq hq=>(fg q hq).symm,acZ,hw6,λz=>by rw[<-z,y] at aaW;cases aaW⟩
  ·have c:b=[]:=by
    refine eJ λz=>c ?_;rw[decide_eq_false z];rfl
   subst c;have e:=OY<|W3.done F3 S;refine⟨_,rfl,?_⟩;rw[<-e];exact k _<|s3.trans L
end
end Pr
namespace L2
open PySem PySem.Spec PyProof.Rows
structure Gives(J:It)(H1:Hp)(n:Nat)(item:Nat->V->.Z):Prop where
 go:∀i H,i<n->Same H1 H->J.go i H
 BB:∀i H x H',i<n->Same H1 H->J.BB i H x H'->.Q/\item i x H'
 stop:∀i H,n<=i->Same H1 H->J.stop i H
theorem cQ{K:ah}{a:Addr}{xs:.r}{H1:Hp}(h:bh K H1 a xs):Gives (TR K a) H1 xs.length (λi x _=>.ck) where
 go:=λi H hi s=>⟨xs,xs[i],s.seq h,by simp[hi]⟩
 BB:=λi H x H' hi s y=>by
  obtain⟨e,y⟩:=y;subst e;exact⟨ .ax,y xs<|s.seq h⟩
 stop:=λi H hi s=>⟨xs,s.seq h,hi⟩
theorem w9{K:ah}{a:Addr}{xs:.r}{H1:Hp}(h:gm K H1 a xs):Gives (ZW K a) H1 xs.length (λi x _=>.ck) where
 go:=λi H hi s=>⟨xs,xs[i],Same.tup s h,by simp[hi]⟩
 BB:=λi H x H' hi s y=>by
  obtain⟨e,y⟩:=y;subst e;exact⟨ .ax,y xs<|Same.tup s h⟩
 stop:=λi H hi s=>⟨xs,Same.tup s h,hi⟩
theorem Ih{lo:Int}{n:Nat}{H1:Hp}:Gives (XN lo n) H1 n (λi x _=>x=.int (lo+i)) where
 go:=λi H hi s=>hi
 BB:=λi H x H' hi s y=>by
  obtain⟨e,y⟩:=y;subst e;exact⟨ .ax,y⟩
 stop:=λi H hi s=>hi
theorem mM{K:ah}{a:Addr}{xs:.r}{H1:Hp}(h:bh K H1 a xs):Gives (ZZ K a) H1 xs.length (λi x H'=>∃T z,x=.ref T/\H' T=some (.tup [.bC,z])/\xs[i]?=some z) where
 go:=λi H hi s=>⟨xs,xs[i],s.seq h,by simp[hi]⟩
 BB:=λi H x H' hi s y=>by
  obtain⟨T,z,e,b,c,d⟩:=y;subst e c;exact⟨Same.new b,T,z,rfl,ai,d xs<|s.seq h⟩
 stop:=λi H hi s=>⟨xs,s.seq h,hi⟩
theorem Nt{x:Str}{H1:Hp}:Gives (Its x) H1 x.cps.size (λi v _=>∃c,x.cps.toList[i]?=some c/\v=.str ⟨#[c]⟩) where
 go:=λi H hi s=>hi
 BB:=λi H v H' hi s y=>by
  obtain⟨e,c,h1,h2⟩:=y;subst e;exact⟨ .ax,c,.cS,h2⟩
 stop:=λi H hi s=>hi
theorem Same.sq{t:Bool}{K:ah}{H H':Hp}{a:Addr}{xs:.r}(e:.Q)(h:Sq t K H a xs):Sq t K H' a xs:=by
 cases t
 ·exact e.seq h
 ·exact Same.tup e h
theorem xb{t1 t2:Bool}{K:ah}{a b:Addr}{xs ys:.r}{H1:Hp}(h1:Sq t1 K H1 a xs)(h2:Sq t2 K H1 b ys):Gives (ItZ t1 t2 K a b) H1 (min xs.length ys.length) (λi v H'=>∃T x y,v=.ref T/\H' T=some (.tup [x,y])/\.ck/\ys[i]?=.ao) where
 go:=λi H hi s=>⟨xs,ys,xs[i]' .h,ys[i]' .h,s.sq h1,s.sq h2,.m,.m⟩
 BB:=λi H v H' hi s y=>by
  obtain⟨T,x,z,e,c,d,f,g⟩:=y;subst e d;exact⟨Same.new c,T,x,z,rfl,ai,f xs<|s.sq h1,g ys<|s.sq h2⟩
 stop:=λi H hi s=>⟨xs,ys,s.sq h1,s.sq h2,.h⟩
theorem pT{α:Type}(n:Nat)(f:Nat->Option α):(a8<|n+1).filterMap f=(a8 n).filterMap f++(match f n with|some y=>[y]|none=>[]):=by
 rw[oh,List.filterMap_append];congr 1;simp only[lT,List.filterMap_nil];cases f n<;>rfl
theorem eN{J:It}{n:Nat}{item:Nat->V->.Z}{g:TG}{k:TT}{te:TE}{vs:.e}{σ:St}{H1:Hp}{D:Addr}{l:.Z}(out:Nat->.aw)(G:Gives J H1 n item)(o:H1 D=none)(A:n<=sizeLine)
  (hs:∀i x H (p:V->.Z) (q:.Z),i<n->item i x H->Same H1 H->(∀y d,Same H d->out i=.ao->p y d)->(∀a,Same H a->out i=none->q a)->
   g x .bm H λσ2 H2=>.dE/\k σ2 H2 λb a=>if b=true then te σ2 a p else q a)
  (v:∀H,Same H1 H->H D=some (.lst<|(a8 n).filterMap out)->l H):
  ∃W:Nat->Nat->.Z,.eR/\∀i m H,W i m H->
   (J.stop i H/\l H)\/(J.go i H/\∃h:.Z,(∀H',h H'->∃r,r<m/\W (i+1) r H')/\∀x H',J.BB i H x H'->g x .bm H' λσ2 H2=>.dE/\k σ2 H2 λb a=>
    if b=true then te σ2 a λy d=>∃acc,d D=some (.lst acc)/\acc.length<sizeLine/\h (upd d D (.lst (acc++[y]))) else h a):=by
 refine⟨λi m H=>m=n-i/\i<=n/\Same H1 H/\H D=some (.lst<|(a8 i).filterMap out),⟨n,.m,bj _,Same.new o,ai⟩,?_⟩;rintro i m H ⟨rfl,hi,s,j⟩;by_cases c:i<n
 ·refine .inr ⟨G.go i H c s,λH'=>Same H1 H'/\H' D=some (.lst<|(a8<|i+1).filterMap out),λH' w=>⟨n-(i+1),.h,rfl,c,w⟩,λx H' y=>?_⟩;obtain⟨f,z⟩:=G.BB i H x H' c s y;refine hs i x H' _ _ c z (s.trans f) (λy d t e=>?_) λa u e=>?_
  ·refine⟨_,t _ _<|f _ _ j,?_,((s.trans f).trans t).put o,?_⟩
   ·have:=List.length_filterMap_le out<|a8 i;rw[kH] at this;omega
   ·rw[ai,pT,e]
  ·refine⟨(s.trans f).trans u,?_⟩;rw[u _ _<|f _ _ j,pT,e];simp
 ·have e:i=n:=.h
  subst e;exact .inl ⟨G.stop i H (aG _) s,v H s j⟩
theorem QB{J:It}{n:Nat}{item:Nat->V->.Z}{g:TG}{te:TE}{vs:.e}{σ:St}{H1:Hp}{D:Addr}{u:.Z}(R:Nat->V->.Z)(mono:∀i y H H' xs,H D=.aZ->(∀b o,b≠D->.dU)->R i y H->R i y H')(G:Gives J H1 n item)(v:H1 D=none)(M:n<=sizeLine)
  (hs:∀i x H (w:V->.Z),i<n->item i x H->Same H1 H->(∀y a,Same H a->R i y a->w y a)->g x .bm H λσ2 H2=>.dE/\te σ2 H2 w)
  (E:∀H ys,Same H1 H->H D=some (.lst ys)->ys.length=n->(∀(i:Nat) y,ys[i]?=.ao->R i y H)->u H):
  ∃W:Nat->Nat->.Z,.eR/\∀i m H,W i m H->
   (J.stop i H/\u H)\/(J.go i H/\∃h:.Z,(∀H',h H'->∃A,A<m/\W (i+1) A H')/\∀x H',J.BB i H x H'->g x .bm H' λσ2 H2=>.dE/\P4 σ2 H2 λb B=>
    if b=true then te σ2 B λy a=>∃acc,a D=some (.lst acc)/\acc.length<sizeLine/\h (upd a D (.lst (acc++[y]))) else h B):=by
 refine⟨λi m H=>m=n-i/\i<=n/\Same H1 H/\∃ys,H D=some (.lst ys)/\ys.length=i/\∀(j:Nat) y,ys[j]?=.ao->R j y H,⟨n,.m,bj _,Same.new v,[],ai,rfl,.m⟩,?_⟩;rintro i m H ⟨rfl,hi,s,ys,k,l,C⟩;by_cases d:i<n
 ·refine .inr ⟨G.go i H d s,λH'=>Same H1 H'/\∃ys,H' D=some (.lst ys)/\ys.length=i+1/\∀(j:Nat) y,ys[j]?=.ao->R j y H',λH' F=>⟨n-(i+1),.h,rfl,d,F⟩,λx H' I=>?_⟩;obtain⟨f,K⟩:=G.BB i H x H' d s I;refine hs i x H' _ d K (s.trans f) λy a p r=>?_;have t:=p _ _<|f _ _ k;have un:∀b o,b≠D->a b=.i->upd a D (.lst<|ys++[y]) b=.i:=λb o nb e=>by rw[aq nb];exact e
  refine⟨ys,t,.h,((s.trans f).trans p).put v,ys++[y],ai,by simp[l],λj z e=>?_⟩;by_cases c:j<ys.length
  ·rw[bN c] at e;refine mono j z a _ ys t un<|mono j z H a ys k (λb o _ q=>p _ _<|f _ _ q)<|C j z e
  ·have:j=i:=by
    have:=(aB.mp e).1;simp at this;omega
   subst this;have L:y=z:=by
    rw[<-l,ui<|aG _] at e;simpa using e
   subst L;exact mono j y a _ ys t un r
 ·have e:i=n:=.h
  subst e;exact .inl ⟨G.stop i H (aG _) s,E H ys s k l C⟩
theorem QC{J:It}{n:Nat}{item:Nat->V->.Z}{g:TG}{te:TE}{vs:.e}{σ:St}{H1:Hp}{D:Addr}{p:.Z}(A:.r->.Z)(m1:∀ys H H',A ys H->.Q->A ys H')(m2:∀ys zs H,(∀o,H D=.i->∃xs,o=.lst xs)->A ys H->A ys (upd H D<|.lst zs))(v:A [] H1)(G:Gives J H1 n item)(h:H1 D=none)(E:n<=sizeLine)
  (hs:∀i x H ys (q:V->.Z),i<n->item i x H->Same H1 H->(H D=some (.lst ys)/\ys.length=i)->A ys H->(∀y c,Same H c->A (ys++[y]) c->q y c)->g x .bm H λσ2 H2=>.dE/\te σ2 H2 q)
  (w:∀H ys,Same H1 H->H D=some (.lst ys)->ys.length=n->A ys H->p H):
  ∃W:Nat->Nat->.Z,.eR/\∀i m H,W i m H->
   (J.stop i H/\p H)\/(J.go i H/\∃j:.Z,(∀H',j H'->∃t,t<m/\W (i+1) t H')/\∀x H',J.BB i H x H'->g x .bm H' λσ2 H2=>.dE/\P4 σ2 H2 λb u=>
    if b=true then te σ2 u λy c=>∃acc,c D=some (.lst acc)/\acc.length<sizeLine/\j (upd c D (.lst (acc++[y]))) else j u):=by
 refine⟨λi m H=>m=n-i/\i<=n/\Same H1 H/\∃ys,H D=some (.lst ys)/\ys.length=i/\A ys H,⟨n,.m,bj _,Same.new h,[],ai,rfl,m2 _ _ _ (λo e=>by rw[h] at e;cases e) v⟩,?_⟩;rintro i m H ⟨rfl,hi,s,ys,f,k,hA⟩;by_cases a:i<n
 ·refine .inr ⟨G.go i H a s,λH'=>Same H1 H'/\∃ys,H' D=some (.lst ys)/\ys.length=i+1/\A ys H',λH' z=>⟨n-(i+1),.h,rfl,a,z⟩,λx H' B=>?_⟩;obtain⟨d,C⟩:=G.BB i H x H' a s B;exact hs i x H' ys _ a C (s.trans d) ⟨d _ _ f,k⟩ (m1 _ _ _ hA d) λy c l r=>⟨ys,l _ _<|d _ _ f,.h,((s.trans d).trans l).put h,ys++[y],ai,by simp[k],m2 _ _ _ (λo e=>⟨ys,by rw[l _ _<|d _ _ f] at e;cases e;rfl⟩) r⟩
 ·have e:i=n:=.h
  subst e;exact .inl ⟨G.stop i H (aG _) s,w H ys s f k hA⟩
theorem gm.off{K:ah}{H H':Hp}{D a:Addr}{xs ys:.r}(h:H D=.aZ)(u:∀b o,b≠D->.dU)(q:gm K H a ys):gm K H' a ys:=by
 rcases q with(q|⟨o,q⟩)|q
 ·exact .inl<|.inl<|u _ _ (λz=>by rw[z,h] at q;cases q) q
 ·exact .inl<|.inr ⟨o,u _ _ (λz=>by rw[z,h] at q;cases q) q⟩
 ·exact .inr q
theorem range_all{α:Type}(xs:.aP):(a8 xs.length).filterMap (λi=>xs[i]?)=xs:=by
 induction xs with
 |nil=>rfl
 |cons a l ih=>
  rw[bB,yF,lT];simp only[List.getElem?_cons_zero,EN];congr 1
theorem jr{α β:Type}(xs:.aP)(f:α->Option β):(a8 xs.length).filterMap (λi=>xs[i]?.bind f)=xs.filterMap f:=by
 conv=>rhs;rw[<-range_all xs]
 rw[List.filterMap_filterMap]
end L2
namespace Pr
open PySem PySem.Spec PyProof.Rows L2 Pw
def La(K:ah):Sp:=λvs H Q _=>∃(b sA:Addr) (t:Int) (a:.e) (sd:.c6),vs=[.aM,.al,.int t]/\H b=some (.lst<|aW a)/\vN K H sA sd a/\a.Nodup/\a.length<=12/\t≠0/\
 ∀(H':Hp) (r:Addr),H' r=some (.lst<|aW<|greedy (gG sd 0 t) a a<|gG sd 0 t a)->H r=none->.Q->Q (.ref r) H'
abbrev JI:Stmt:=top 20
abbrev nFirst:.L:=["valves","sides","target","row","kept","ways","valve","others","fewer","other"]
theorem Lb:az nFirst .d4 (ao JI):=fscope
theorem JJ(l:.e)(v:Nat):(a8 (aW l).length).filterMap (λi=>l[i]?.bind λu=>if u=v then none else some<|V.int (u:Nat))=aW (l.filter λx=>decide (x≠v)):=by
 rw[au,jr];induction l with
 |nil=>rfl
 |cons a r ih=>
  by_cases c:a=v
  ·subst c;simp[ih]
  ·simp[c,ih]
theorem bh.other{K:ah}{H:Hp}{a:Addr}{xs:.r}{b:Addr}{o:HO}(h:.b2)(s:Same H (upd H b o)):bh K (upd H b o) a xs:=s.seq h
section
variable{P:Program}{w:World}{K:ah}{mg:.aa}{base:Heap}
theorem QD{f S:Addr}{fd g:FuncData}(F:d8 K "first_row" "first_row" JI f fd)(hC:mg "count_ways"=some (.ref S))(FC:d8 K "count_ways" "count_ways" DR S g)(bC:Binds K g .d4 [])
  (GC:aX P w K mg base bV 2 S g .d4 (K6 K)):aX P w K mg base bV 3 f fd .d4 (La K):=by
 refine F.ok1 Lb ?_;rintro cdv A outer s H _ Q E hr nd ⟨o,sA,t,b,sd,rfl,p,hS,q,hl,ht,k⟩;refine⟨_,af (bu 3 (eW ak))
  (af (bu 4 .j)
  (af (bu 5 (vD GC hr .s hC FC.kp bC .nil aP (ae .ay (ae .o .cG))))
  (af (iO dc rfl (cB .j) (bX 6)
   (af (rH (i:=7) rfl Lb.nd rfl rfl .s (cB .ay) ((bO (by(show iP nFirst (ao JI) _ _=true);decide +kernel))) (own:=[("other",9)]) (λs H C cl fp=>bX 9) (λs H C cl fp=>lJ (a9 Ap (pv 9) (pv 6) .aN)) (λs H C cl fp=>pv 9))
   (af (bu 8 (vD GC hr .s hC FC.kp bC .nil aP (ae (pv 7) (ae .o .cG))))
   (ap (cx (a9 ny (pv 8) (pv 5) .aN)
    (af (aL (mL fV gz gW fP .aj (ae (pv 6) ak)))
    (af (bu 4 (pv 7))
    (ap (bu 5 (pv 8))))) bE)))))
  (ap (aJ .aj))))),?_⟩
 refine⟨bj _,λrA O=>?_⟩;have r:Same H (upd H rA (.lst [])):=Same.new O;refine⟨_,rfl,?_⟩;refine⟨_,rfl,_,rfl,_,rfl,o,sA,t,b,b,sd,rfl,bh.of (r _ _ p),hS.same r,λv hv=>hv,q,hl,ht,λH1 s1=>?_⟩;refine⟨_,rfl,o,rfl,⟨_,bh.of ((r.trans s1) _ _ p)⟩,iB (K:=K) (a:=o) (xs:=aW b) (λi σ H'=>∃(row kept:.e) (h:Addr) (T U W:.aw),σ=[some (.ref o),some .al,some (.int t),some (.ref rA),some (.ref h),some (.int (gG sd 0 t kept:Nat)),T,U,W,none]/\
   .Q/\H' rA=some (.lst (aW row))/\H' h=some (.lst (aW kept))/\h≠rA/\kept.Nodup/\(∀v,v∈kept->v∈b)/\kept.length<=12/\row.length<=i/\greedy (gG sd 0 t) b b (gG sd 0 t b)=row++greedy (gG sd 0 t) (b.drop i) kept (gG sd 0 t kept))
  ⟨[],b,o,none,none,none,rfl,r.trans s1,s1 _ _ ai,(r.trans s1) _ _ p,aC p O,q,λv hv=>hv,hl,bj _,rfl⟩ (λi σ H' _ ⟨_,_,_,_,_,_,_,s5,_⟩=>bh.of (s5 _ _ p)) ?_ ?_⟩
 ·rintro i x σ H2 hx ⟨row,kept,h,T,U,W,rfl,X,d,e,B,AY,l,l2,Y,m⟩;obtain⟨v,hv,rfl⟩:=d9 hx;have hi:i<b.length:=(aB.mp hv).1;have dr:b.drop i=v::b.drop (i+1):=by
   rw[uj hi,(aB.mp hv).2]
  refine⟨_,rfl,h,rfl,⟨_,bh.of e⟩,λD Z=>eN (λi=>kept[i]?.bind λu=>if u=v then none else some<|V.int (u:Nat)) (cQ<|bh.of e) Z ?_ ?_ ?_⟩
  ·rw[au,sizeLine_eq];omega
  ·rintro j y H3 Py Pn hj hy G py pn;obtain⟨u,R,rfl⟩:=d9 hy;refine⟨rfl,?_⟩;refine⟨_,rfl,_,rfl,rfl,_,rfl,?_⟩;refine c7 (λc=>?_) λc=>?_
   ·have c:u≠v:=λz=>by subst z;simp at c
    exact⟨_,rfl,py _ _ .ax (by rw[R];simp[c])⟩
   ·have c:u=v:=by
     refine eJ λz=>c ?_;simp;omega
    exact pn _ .ax (by rw[R];simp[c])
  ·intro H3 G Yp;rw[JJ] at Yp;have JK:=X.trans G;have I:∀u,u∈kept.filter (λx=>decide (x≠v))->u∈b:=λu R=>l u (bJ.mp R).1;have J:(.bp).Nodup:=AY.filter _;have L:(.bp).length<=12:=bK (ft _ _) l2;refine⟨_,rfl,_,rfl,_,rfl,D,sA,t,.bp,b,sd,rfl,bh.of Yp,hS.same JK,I,J,L,ht,λH4 n=>?_⟩;have gd:greedy (gG sd 0 t) (b.drop i) kept (gG sd 0 t kept)=if gG sd 0 t .bp<gG sd 0 t kept then v::greedy (gG sd 0 t) (b.drop<|i+1) .bp (gG sd 0 t<|kept.filter λx=>decide (x≠v)) else greedy (gG sd 0 t) (b.drop<|i+1) kept (gG sd 0 t kept):=by
    rw[dr];rfl
   rw[gd] at m;have M:D≠rA:=λz=>by rw[z,d] at Z;cases Z
   refine⟨_,rfl,_,rfl,_,_,rfl,rfl,_,rfl,?_⟩;refine c7 (λc=>?_) λc=>?_
   ·have c:gG sd 0 t .bp<gG sd 0 t kept:=.en
    rw[.au] at m;have N:=n _ _<|G _ _ d;refine⟨_,rfl,.inl ⟨rfl,_,bh.of N⟩,_,rfl,rA,_,_,rfl,rfl,N,?_,?_⟩
    ·rw[au,sizeLine_eq];omega
    refine⟨_,rfl,_,rfl,row++[v],_,D,_,_,_,rfl,(JK.trans n).put O,?_,?_,M,J,I,L,?_,?_⟩
    ·rw[ai];simp[aW]
    ·rw[aq M];exact n _ _ Yp
    ·rw[bS,nX];omega
    ·rw[m,iR];rfl
   ·have c:¬gG sd 0 t .bp<gG sd 0 t kept:=λz=>c .cM;rw[.ag] at m;exact⟨row,kept,h,_,_,_,rfl,JK.trans n,n _ _<|G _ _ d,n _ _<|G _ _ e,B,AY,l,l2,.h,m⟩
 ·rintro σ H2 ⟨row,kept,h,T,U,W,rfl,X,d,e,B,AY,l,l2,Y,m⟩;refine⟨_,rfl,k H2 rA ?_ O X⟩;rw[d,m,au,uy];show _=some (HO.lst<|aW<|row++[]);rw[dR]
end
end Pr
namespace L2
open PySem PySem.Spec PyProof.Rows
structure pB(P:Program)(w:World)(K:ah)(a:Addr)(kvs:.an):Prop where
 ne:.dd
 at_:∃(o:Obj) (vs:.dz),K.lookup a=.i/\KV kvs vs/\∀h:Heap,.a5=.i->h.DictOf (dk P w) a vs
section
variable{X:Cx}{pins:.U}{σ:St}{H:Hp}{s:Shared}{a:Addr}{kvs:.an}{k:Key}{v:V}{u:Value}{A:Around}{E:.ac}
theorem pB.get(T:.eC){Q:.ac}(I:.D)(l:.bu=.av)(c:RelV (kV k) u)(h:∀r s',Inv X pins σ H s'->RelV v r->Q r s'):s.TypeIs .E "dict"/\wpAny .af A (getItem .E u) Q E s:=by
 obtain⟨o,vs,hk,b,e⟩:=T.at_;have d:=e _<|I.ug a o hk;obtain⟨r,f,g⟩:=lF.some_of (v:=v) (o:=valueAt vs k) (by rw[<-l];exact b.val k);exact⟨d.typeIs,wpAny_getItem_of (qi c) d.mapOf f<|h r _ (I.tok _) g⟩
theorem pB.has(T:.eC){Q:.ac}(I:.D)(c:RelV (kV k) u)(h:∀s',Inv X pins σ H s'->Q (.bool (.bu).isSome) s'):wpAny .af A (compareOp .In u<|.ref a) Q E s:=by
 obtain⟨o,vs,hk,b,e⟩:=T.at_;have d:=e _<|I.ug a o hk;refine wpAny_in_of (qi c) T.ne d.mapOf ?_;rw[<-(b.val k).ku];exact h _<|I.tok _
theorem pB.Yq(T:.eC){Q:.ac}(I:.D)(c:RelV (kV k) u)(h:∀s',Inv X pins σ H s'->Q (.bool<|!(.bu).isSome) s'):wpAny .af A (compareOp .NotIn u<|.ref a) Q E s:=by
 obtain⟨o,vs,hk,b,e⟩:=T.at_;have d:=e _<|I.ug a o hk;refine wpAny_notIn_of (qi c) T.ne d.mapOf ?_;rw[<-(b.val k).ku];exact h _<|I.tok _
end
section
variable{X:Cx}{a:Addr}{kvs:.an}{x:Str}{i:Expr}{p pos:Pos}{ty:TE}
def ac0(kvs:.an)(ty:TE):TE:=λσ H Q=>ty σ H λy H1=>∃k v,y=kV k/\.bu=.av/\Q v H1
theorem AZ(T:.eC)(b:Gl X x)(c:X.mg x=some .E)(hi:PE X i ty)(hs:X8 i)(d:.bc:=by decide):PE X (.Subscript (.Name x p) i pos) (ac0 kvs ty):=by
 intro pins s σ H Q I h;refine KP FI.lookup hs<|eF (aR (v:=.E) b c rfl d pins s σ H (λx H1=>x=.E/\ty σ H1 λy H1=>∃k v,y=kV k/\.bu=.av/\Q v H1) I ⟨rfl,h⟩) λu s1 ⟨x,H1,e,f,ex,g⟩=>eF (hi pins s1 σ H1 _ e g) λz A ⟨y,H2,j,m,k,v,n,l,o⟩=>?_;subst ex n;cases f;exact T.get j l m λr B q t=>⟨v,H2,q,t,o⟩
def Yr(kvs:.an)(ty:TE):TE:=λσ H Q=>ty σ H λy H1=>∃k,y=kV k/\Q (.bl (.bu).isSome) H1
def UE(kvs:.an)(ty:TE):TE:=λσ H Q=>ty σ H λy H1=>∃k,y=kV k/\Q (.bl<|!(.bu).isSome) H1
theorem Ys(T:.eC)(b:Gl X x)(c:X.mg x=some .E)(hi:PE X i ty)(d:.bc:=by decide):PC X .In i (.Name x p) (Yr kvs ty):=by
 intro pins s σ H Q I h;refine eF .eF λq s1 ⟨y,H1,e,f,k,g,j⟩=>eF (aR (v:=.E) b c rfl d pins s1 σ H1 (λx H2=>x=.E/\Q (.bl (.bu).isSome) H2) e ⟨rfl,j⟩) λu r ⟨x,H2,l,m,ex,n⟩=>?_;subst ex g;cases m;exact T.has l f λt o=>⟨.bl (.bu).isSome,H2,o,rfl,n⟩
theorem Nu(T:.eC)(b:Gl X x)(c:X.mg x=some .E)(hi:PE X i ty)(d:.bc:=by decide):PC X .NotIn i (.Name x p) (UE kvs ty):=by
 intro pins s σ H Q I h;refine eF .eF λq s1 ⟨y,H1,e,f,k,g,j⟩=>eF (aR (v:=.E) b c rfl d pins s1 σ H1 (λx H2=>x=.E/\Q (.bl<|!(.bu).isSome) H2) e ⟨rfl,j⟩) λu r ⟨x,H2,l,m,ex,n⟩=>?_;subst ex g;cases m;exact T.Yq l f λt o=>⟨.bl<|!(.bu).isSome,H2,o,rfl,n⟩
end
inductive tK(w:World):List DictEntry->.an->Prop
 |nil:tK w [] []
 |cons {e:DictEntry} {k:Key} {v:V} {es:List DictEntry} {kvs:.an}:RelV (kV k) e.key->e.hash=aad w k->RelV v e.val->tK w es kvs->tK w (e::es) ((k,v)::kvs)
theorem tK.out{P:Program}{w:World}{es:List DictEntry}{kvs:.an}(T:tK w es kvs):∃vs:.dz,KV kvs vs/\Pairs (dk P w) es vs/\vs.map (·.1)=kvs.map (·.1)/\∀e∈es,∃k,(dk P w).is k e.key=true/\e.hash=(dk P w).hash k:=by
 induction T with
 |nil=>exact⟨[],.nil,.nil,rfl,λe f=>absurd f<|by simp⟩
 |@cons e k v es kvs h1 h2 h3 _ ih=>
  obtain⟨vs,a,b,c,d⟩:=ih;refine⟨(k,e.val)::vs,.cons ⟨rfl,h3⟩ a,.cons (qi h1) rfl b,by rw[bP,bP,c],λg f=>?_⟩;rcases aH.mp f with z|z
  ·subst z;exact⟨k,qi h1,h2⟩
  ·exact d g z
theorem pB.of{P:Program}{w:World}{K:ah}{a:Addr}{kvs:.an}{es:Array DictEntry}{b:Nat}(ne:.dd)(hk:K.lookup a=some { cls:=.type "dict",data:=.dict es b })(T:tK w es.toList kvs)
  (c:(kvs.map (·.1)).Nodup):pB P w K a kvs:=by
 obtain⟨vs,h1,h2,d,f⟩:=T.out (P:=P);exact⟨ne,_,vs,hk,h1,λh e=>⟨_,es,b,e,⟨rfl,rfl,rfl⟩,rfl,λx g=>f x<|by simpa using g,h2,by rw[d];exact c⟩⟩
end L2
namespace Pr
open PySem PySem.Spec PyProof.Rows L2 Pw
theorem yw:bootBuiltins "list"=some .bB:=.aq
theorem A0:bootBuiltins "tuple"=some .bz:=.aq
theorem Lc:bootBuiltins "dict"=some (.type "dict"):=.aq
theorem rO:bootBuiltins "int"=some (.type "int"):=.aq
theorem QE:bootBuiltins "sum"=some (.builtin "sum"):=.aq
theorem DS:bootBuiltins "abs"=some (.builtin "abs"):=.aq
theorem xf:bootBuiltins "all"=some (.builtin "all"):=.aq
theorem Yt:bootBuiltins "ord"=some (.builtin "ord"):=.aq
structure pH(K:ah)(cS cJ cP:Addr):Prop where
 S:x6 K cS
 J:x6 K cJ
 P:x6 K cP
 b5:bM K cS "joints"
 gZ:bM K cS "pipes"
 A3:bM K cJ "place"
 JM:bM K cJ "named"
 xg:bM K cJ "valve"
 vO:bM K cJ "ending"
 pU:bM K cJ "pipes"
 A4:bM K cJ "leaving"
 tL:bM K cP "begin"
 pV:bM K cP "finish"
 kC:bM K cP "direction"
 vP:bM K cP "millimetres"
 vQ:bM K cP "radius"
 jp:cJ≠cP
structure JL where
 a:Addr
 pL:Addr
 lL:Addr
structure Lay where
 jL:Addr
 qL:Addr
 js:List JL
 ps:.B
def Lay.lists(L:Lay):.B:=L.jL::L.qL::L.js.flatMap .cT
def eO(K:ah)(H:Hp)(a:Addr)(l:bz):Prop:=gm K H a [.int l.p,.int l.q]
def gn(K:ah)(H:Hp)(a:Addr)(p:eM):Prop:=∃x y z,gm K H a [.aB,.ref y,.ref z]/\eO K H x p.x/\eO K H y p.y/\eO K H z p.z
def iL(K:ah)(H:Hp)(a:Addr)(d:Nat):Prop:=gm K H a [.int (bD d).1,.int (bD d).2.1,.int (bD d).2.2]
def rP(K:ah)(H:Hp)(a:Addr)(ds:.e):Prop:=∃b:.B,H a=some (.lst<|b.map V.ref)/\b.length=ds.length/\∀(i:Nat) da d,b[i]?=some da->ds[i]?=.aS->iL K H da d
def iH(k:Nat):Str:=if k=2 then "open" else if k=3 then "cap" else if k=4 then "drain" else if k=5 then "source" else ""
def iI(a:Addr)(x:bv)(j:JL):.az:=[("place",.E),("named",.bl<|x.name.isSome&&x.kind != 1),("valve",.bl<|x.kind == 1),("ending",.str<|iH x.kind),("pipes",.ref j.pL),("leaving",.ref j.lL)]
def mN(dA:Addr)(r:bH):.az:=[("begin",.int (r.from_:Nat)),("finish",.int (r.to_:Nat)),("direction",.ref dA),("millimetres",.int (r.n:Nat)),("radius",.int (r.radius:Nat))]
def Ld(K:ah)(cJ:Addr)(H:Hp)(s:aM)(i:Nat)(x:bv)(j:JL):Prop:=(∃dx b,H j.a=some (.ins cJ dx<|iI b x j)/\gn K H b x.at_)/\H j.pL=some (.lst<|aW<|endsAt s i)/\rP K H j.lL ((s.leaves i).map (·.1))
def jX(K:ah)(cP:Addr)(H:Hp)(r:bH)(p:Addr):Prop:=∃dx dA,H p=some (.ins cP dx<|mN dA r)/\iL K H dA r.dir
structure eZ(K:ah)(cS cJ cP:Addr)(H:Hp)(sA:Addr)(s:aM)(L:Lay):Prop where
 ob:∃dx,H sA=some (.ins cS dx [("joints",.ref L.jL),("pipes",.ref L.qL)])
 jl:H L.jL=some (.lst<|L.js.map λj=>V.ref j.a)
 ql:H L.qL=some (.lst<|L.ps.map V.ref)
 jn:L.js.length=s.joints.length
 pn:L.ps.length=s.runs.length
 js:∀(i:Nat) j x,.cq->.dB->Ld K cJ H s i x j
 ps:∀(k:Nat) p r,L.ps[k]?=some p->.cp->.c7
 A5:L.lists.Nodup
 AY:(L.js.map (·.a)).Nodup
 DT:L.ps.Nodup
section
variable{K:ah}{cS cJ cP:Addr}{H H':Hp}
theorem eO.same{a:Addr}{l:bz}(h:eO K H a l)(e:.Q):eO K H' a l:=Same.tup e h
theorem gn.same{a:Addr}{p:eM}(h:gn K H a p)(e:.Q):gn K H' a p:=by
 obtain⟨x,y,z,b,h1,h2,c⟩:=h;exact⟨x,y,z,Same.tup e b,h1.same e,h2.same e,c.same e⟩
theorem iL.same{a:Addr}{d:Nat}(h:iL K H a d)(e:.Q):iL K H' a d:=Same.tup e h
theorem rP.same{a:Addr}{ds:.e}(h:rP K H a ds)(e:.Q):rP K H' a ds:=by
 obtain⟨b,h1,h2,c⟩:=h;exact⟨b,e _ _ h1,h2,λi f d x y=>(c i f d x y).same e⟩
theorem eZ.same{sA:Addr}{s:aM}{L:Lay}(h:.bF)(e:.Q):eZ K cS cJ cP H' sA s L where
 ob:=let ⟨dx,x⟩:=h.ob;⟨dx,e _ _ x⟩
 jl:=e _ _ h.jl
 ql:=e _ _ h.ql
 jn:=h.jn
 pn:=h.pn
 js:=λi j x a b=>by
  obtain⟨⟨dx,c,h1,h2⟩,d,f⟩:=h.js i j x a b;exact⟨⟨dx,c,e _ _ h1,h2.same e⟩,e _ _ d,f.same e⟩
 ps:=λk p r a b=>by
  obtain⟨dx,dA,h1,h2⟩:=h.ps k p r a b;exact⟨dx,dA,e _ _ h1,h2.same e⟩
 A5:=h.A5
 AY:=h.AY
 DT:=h.DT
theorem eZ.joint{sA:Addr}{s:aM}{L:Lay}(h:.bF){i:Nat}(hi:.dW):∃j x,.cq/\.dB/\Ld K cJ H s i x j:=by
 obtain⟨j,a⟩:∃j,.cq:=⟨_,bo (by rw[h.jn];exact hi)⟩;obtain⟨x,b⟩:∃x,.dB:=⟨_,bo hi⟩;exact⟨j,x,a,b,h.js i j x a b⟩
theorem eZ.pipe{sA:Addr}{s:aM}{L:Lay}(h:.bF){k:Nat}{r:bH}(a:.cp):∃p,L.ps[k]?=some p/\.c7:=by
 have hk:=(aB.mp a).1;obtain⟨p,hp⟩:∃p,L.ps[k]?=some p:=⟨_,bo (by rw[h.pn];exact hk)⟩;exact⟨p,hp,h.ps k p r hp a⟩
theorem cv{α:Type}{l:.aP}{f:α->V}{i:Nat}{x:α}(h:l[i]?=.v):AA (l.map f) (i:Int)=some (f x):=c6 (j:=i) (by rw[b8,h];rfl)
structure iM(s:aM):Prop where
 inr:fN s
 one:∀j,2<=.aF->∃k,.bT=[k]
 two:∀j,.aF=1->∃a b,.bT=[a,b]
 nj:s.joints.length<=1024
 nr:s.runs.length<=1024
 kd:∀j,.aF<=5
 ht:∀j,Small<|s.height j
 ro:∀r,r∈s.runs->Kv s r
end
def markV:.ab->V
 |none=>.non
 |some i=>.int i
abbrev bW(m:.as):.r:=m.map markV
theorem A6(l:.e)(c:Nat->Prop)[DecidablePred c]:(a8 (aW l).length).filterMap (λi=>l[i]?.bind λu=>if c u then some (V.int (u:Nat)) else none)=aW (l.filter λu=>decide (c u)):=by
 rw[au,jr];induction l with
 |nil=>rfl
 |cons a r ih=>
  by_cases h:c a
  ·simp[h,ih]
  ·simp[h,ih]
theorem mO(s:aM)(j:Nat):(.bT).length<=2*s.runs.length:=by
 have:=Dk (a8 s.runs.length) .bT (λx a=>by
  obtain⟨r,h,_⟩:=dq.mp a;exact dU.mpr (aB.mp h).1) (vm s j)
 simpa using this
def Ii(kvs:.an)(shut:.e):Prop:=∀j:Nat,(cG kvs<|aU (j:Int)).isSome=true↔j∈shut
def DU(K:ah)(cS cJ cP:Addr):Sp:=λvs H Q _=>∃(sA b c mA:Addr) (mk:Int) (s:aM) (L:Lay) (first shut:.e) (kvs:.an) (a:.as) (H0:Hp),vs=[.al,.aM,.ref c,.int mk,.ref mA]/\Same H0 H/\H0 mA=none/\
 eZ K cS cJ cP H0 sA s L/\bh K H0 b (aW first)/\H0 c=.bg/\Ii kvs shut/\H mA=some (.lst<|bW a)/\a.length=s.runs.length/\(∀k:Nat,k∈first->a[k]?=.am)/\fN s/\first.length<=2000/\s.runs.length<=2000/\
 ∀(H':Hp) (m:.as),Same H0 H'->H' mA=some (.lst<|bW m)->vp s shut first mk a m->Q .non H'
abbrev JN:Stmt:=top 12
abbrev QF:.L:=["system","first","barred","mark","marks","pipe","found","done","joint","other","fresh"]
theorem DV:az QF .e9 (ao JN):=fscope
section
variable{P:Program}{w:World}{K:ah}{mg:.aa}{base:Heap}{cS cJ cP:Addr}
theorem QG{f:Addr}{fd:FuncData}(F:d8 K "flood" "flood" JN f fd)(B:nG mg)(O:.aA):aX P w K mg base bV 1 f fd .e9 (DU K cS cJ cP):=by
 refine F.ok1 DV ?_;rintro cdv A outer st H _ Q E hr nd ⟨sA,T,bA,mA,mk,s,L,first,shut,kvs,m0,H0,rfl,s0,hm0,hS,hF,hB,JO,hM,hml,hfn,hin,hfl,hrl,k⟩
 have hu:=rM hr;refine⟨_,(af (iO dc rfl (cB .o) (bX 5) (ap (Dx .aj (Dv .ay (pv 5) set_list)))) (af (bu 6 (dD lI .s B.list yw .cw)) (af (bu 7 aD) (ap (mJ dc (a9 ny (pv 7) (dz B.len (pv 6)) .aN)
   (af (bu 5 (bG .V (bG (pv 6) (pv 7)))) (af (Dy (i:=7) DV.nd rfl (kX rfl) aD An) (ap (iO dc rfl (Dz (kq (ae (aw (pv 5) rfl) (ae (aw (pv 5) rfl) ak)))) (bX 8)
    (ap (cx (iA (kz hu (pv 8) .M))
     (af (rH (i:=10) rfl DV.nd rfl rfl .s (cB (aw (bG .V (pv 8)) rfl)) ((bO (by(show iP QF (ao JN) _ _=true);decide +kernel))) (own:=[("other",9)]) (λs H C cl fp=>bX 9)
      (λs H C cl fp=>lJ (iA (mI (nz (r:=AC K) kE .ay (pv 9) .aX)))) (λs H C cl fp=>pv 9)) (af (iO dc rfl (cB (pv 10)) (bX 9) (ap (Dx .aj (Dv .ay (pv 9) set_list)))) (ap (aL (mL fV zm FJ CD (pv 6) (ae (pv 10) ak)))))) bE))))))))))),?_⟩
 have lenV:∀m:.as,(bW m).length=m.length:=λm=>au _;have aaZ:∀(m:.as) (q:Nat),(bW m).set q (.int mk)=bW (m.set q<|some mk):=λm q=>by show(m.map markV).set q (markV<|some mk)=(m.set q<|some mk).map markV;rw[uC]
 refine AU (λσ H1=>∃t,σ=[some<|.ref sA,some<|.ref T,some<|.ref bA,some<|.int mk,some<|.ref mA,t,none,none,none,none,none]/\Same H0 H1/\H1 mA=some (.lst<|bW<|eS mk first m0)) (λR fin=>?_) ?_
 ·refine⟨_,rfl,T,rfl,⟨_,s0.seq hF⟩,iB (K:=K) (a:=T) (xs:=aW first) (λi σ H1=>∃t,σ=[some .al,some (.ref T),.dm,some (.int mk),some (.ref mA),t,none,none,none,none,none]/\Same H0 H1/\H1 mA=some (.lst (bW (eS mk (first.take i) m0))))
   ⟨none,rfl,s0,hM⟩ (λi σ H1 _ ⟨_,_,s1,_⟩=>s1.seq hF) ?_ ?_⟩
  ·rintro i x σ H1 hx ⟨t,rfl,s1,Yu⟩;obtain⟨q,hq,rfl⟩:=d9 hx;have hlt:q<m0.length:=(aB.mp<|hfn q<|bc hq).1;refine⟨_,rfl,_,rfl,_,rfl,mA,_,_,q,rfl,rfl,Yu,sG (by rw[lenV,ju];exact hlt),?_⟩;refine⟨_,rfl,s1.put hm0,?_⟩;rw[ai,aaZ,take_snoc hq,vo]
  ·rintro σ H1 ⟨t,rfl,s1,Yu⟩;rw[au,gr] at Yu;exact fin _ _ ⟨t,rfl,s1,Yu⟩
 ·rintro σ H1 ⟨t,rfl,s1,Yu⟩;refine⟨_,rfl,T,_,rfl,.inl (s1.seq hF),λl DW=>?_⟩;have nmg:mA≠l:=aC Yu DW;have hg0:H0 l=none:=s1.free DW;refine AV ?_;refine⟨λc σ H2=>∃(m:.as) (found:.e) (done:Nat) (t G v b:.aw),c=2*g6 m+found.length-done/\σ=[some .al,some (.ref T),.dm,some (.int mk),some (.ref mA),t,some .aH,some (.int (done:Nat)),G,v,b]/\
    Same H0 H2/\H2 mA=some (.lst<|bW m)/\H2 l=some (.lst<|aW found)/\Fl s shut first mk m0 m found done,
   ⟨_,_,first,0,t,none,none,none,rfl,rfl,s1.trans (Same.new DW),by rw[aq nmg];exact Yu,ai,Fl.start hml hfn⟩,?_⟩
  rintro c σ H2 ⟨m,found,done,t,G,v,b,rfl,rfl,s2,Ij,U,F2⟩;refine⟨_,rfl,_,rfl,l,_,rfl,.inl<|bh.of U,_,_,rfl,rfl,_,rfl,?_⟩;rw[au];refine c7 (λcc=>?_) λcc=>?_
  ·have cc:done<found.length:=by have:=of_decide_eq_true cc;omega
   obtain⟨p,hp⟩:∃p,found[done]?=some p:=⟨_,bo cc⟩;have pin:=bc hp;obtain⟨r,W⟩:∃r,s.runs[p]?=some r:=⟨_,bo (by have:=(aB.mp (F2.fnd p pin).1).1;omega)⟩;have hS2:=hS.same s2;obtain⟨dS,oS⟩:=hS2.ob;obtain⟨pa,hpa,dP,dA,oP,_⟩:=hS2.pipe W;refine⟨λσ H2=>∃(g:.as) (n:.e) (t G v b:.aw),2*g6 g+n.length<=2*g6 m+found.length/\σ=[some .al,some (.ref T),.dm,some (.int mk),some (.ref mA),t,some .aH,some (.int ((done+1:Nat):Int)),G,v,b]/\
    Same H0 H2/\H2 mA=some (.lst (bW g))/\H2 l=some (.lst (aW n))/\Fl s shut first mk m0 g n (done+1),λσ' H' ⟨g,n,t,G,v,b,X,e,h'⟩=>⟨_,?_,g,n,done+1,t,G,v,b,rfl,e,h'⟩,?_⟩
   ·have:=h'.2.2.2.dl;omega
   refine⟨_,rfl,sA,cS,dS,_,_,rfl,oS,O.S,O.gZ,rfl,_,rfl,_,rfl,l,_,_,_,rfl,rfl,bh.of U,cv hp,L.qL,_,_,_,rfl,rfl,bh.of hS2.ql,cv hpa,?_⟩;refine⟨_,rfl,_,_,rfl,rfl,?_⟩;refine⟨_,rfl,pa,cP,dP,_,_,rfl,oP,O.P,O.tL,rfl,_,rfl,pa,cP,dP,_,_,rfl,oP,O.P,O.pV,rfl,.b8,λtA htA=>?_⟩;have s3:=s2.trans (Same.new (o:=HO.tup .fe) htA);have nmt:mA≠tA:=aC Ij htA;have ngt:l≠tA:=aC U htA;refine⟨tA,rfl,⟨_,gm.of ai⟩,TV (K:=K) (a:=tA) (xs:=.fe) (λi σ H3=>∃(g:.as) (n:.e) (G v b:.aw),2*g6 g+n.length<=2*g6 m+found.length/\σ=[some .al,some (.ref T),.dm,some (.int mk),some (.ref mA),some (.ref pa),some .aH,some (.int ((done:Int)+1)),G,v,b]/\
    Same H0 H3/\H3 tA=some (.tup .fe)/\H3 mA=some (.lst<|bW g)/\H3 l=some (.lst<|aW n)/\Fl s shut first mk m0 g n done/\n[done]?=some p/\p∈n/\
    (0<i->r.from_∉shut->∀q:Nat,Ha s r.from_ q->g[q]?≠ .am)/\(1<i->r.to_∉shut->∀q:Nat,Ha s r.to_ q->g[q]?≠ .am))
    ⟨m,found,G,v,b,aG _,rfl,s3,ai,by rw[aq nmt];exact Ij,by rw[aq ngt];exact U,F2,hp,pin,λz=>absurd z (gQ _),λz=>absurd z (ig _)⟩ (λi σ H3 _ ⟨_,_,_,_,_,_,_,_,h3,_⟩=>gm.of h3) ?_ ?_⟩
   ·rintro i x σ H3 hx ⟨g,n,G,v,b,X,rfl,s4,Y,UF,I,F4,M,UG,c0,c1⟩;obtain⟨j,hj,rfl,hi⟩:∃j:Nat,.ec/\x=V.int .aL/\((i=0/\j=r.from_)\/(i=1/\j=r.to_)):=by
     match i,hx with
     |0,hx=>exact⟨r.from_,.ar,(aI hx).symm,.inl .cg⟩
     |1,hx=>exact⟨r.to_,.inr rfl,(aI hx).symm,.inr .cg⟩
    have hat:Ha s j p:=⟨r,W,hj⟩;have jlt:.a7:=by
     have:=hin r<|bc W;rcases hj with z|z<;>rw[z]
     ·exact this.1
     ·exact this.2
    have hS4:=hS.same s4;refine⟨_,rfl,_,rfl,bA,_,rfl,ky.k (k:=aU (j:Int))<|s4 _ _ hB,_,rfl,?_⟩;refine c7 (λd=>?_) λd=>?_
    ·have d:j∉shut:=λz=>by rw[(JO j).mpr z] at d;cases d
     obtain⟨dS,oS⟩:=hS4.ob;obtain⟨jl,jx,hjl,hjx,⟨dJ,pA,oJ,_⟩,hpl,_⟩:=hS4.joint jlt;refine⟨_,rfl,sA,cS,dS,_,_,rfl,oS,O.S,O.b5,rfl,_,rfl,L.jL,_,_,_,rfl,rfl,bh.of hS4.jl,cv hjl,jl.a,cJ,dJ,_,_,rfl,oJ,O.J,O.pU,rfl,jl.pL,rfl,⟨_,bh.of hpl⟩,λD hD=>eN (λi=>.bT[i]?.bind λu=>if g[u]?=.am then some (V.int (u:Nat)) else none) (cQ<|bh.of hpl) hD ?_ ?_ ?_⟩
     ·have:=mO s j;rw[au,sizeLine_eq];omega
     ·rintro i2 y H5 Py Pn hi2 hy s5 py pn;obtain⟨u,hu',rfl⟩:=d9 hy;obtain⟨ru,hru,_⟩:=dq.mp<|bc hu';obtain⟨xm,hxm⟩:∃x,g[u]?=.v:=⟨_,bo (by rw[F4.len,F4.len0];exact(aB.mp hru).1)⟩;refine⟨rfl,_,rfl,_,rfl,mA,_,_,_,rfl,rfl,bh.of<|s5 _ _ UF,cv hxm,_,rfl,?_⟩;refine c7 (λe=>?_) λe=>?_
      ·have e:xm=none:=by
        cases xm with
        |none=>rfl
        |some a=>exact absurd (of_decide_eq_true e) .bG
       exact⟨_,rfl,py _ _ .ax (by rw[hu'];simp[hxm,e])⟩
      ·have e:xm≠none:=λz=>e (by rw[z];rfl);exact pn _ .ax (by rw[hu'];simp[hxm,e])
     ·intro H5 s5 hX;rw[A6 .bT λu=>g[u]?=.am] at hX;have sD:Same H0 H5:=s4.trans s5;have nDm:D≠mA:=λz=>by rw[z,UF] at hD;cases hD
      have nDg:D≠l:=λz=>by rw[z,I] at hD;cases hD
      have nDt:D≠tA:=λz=>by rw[z,Y] at hD;cases hD
      have nmG:mA≠l:=nmg;have ntm:tA≠mA:=λz=>nmt z.symm;have ntg:tA≠l:=λz=>ngt z.symm;have hD0:H0 D=none:=s4.free hD;obtain⟨F6,clj⟩:=F4.joint UG hat d;generalize hfr:(.bT).filter (λu=>decide (g[u]?=.am))=fresh at hX F6 clj;have frl:=Ck mk (s:=s) (j:=j) (m:=g);rw[hfr] at frl;refine⟨_,rfl,D,rfl,⟨_,bh.of hX⟩,iB (K:=K) (a:=D) (xs:=aW fresh) (λi5 σ H6=>∃v:.aw,σ=[some .al,some (.ref T),.dm,some (.int mk),some (.ref mA),some (.ref pa),some .aH,some (.int ((done:Int)+1)),some (.int .aL),v,some .bw]/\
       Same H0 H6/\H6 tA=some (.tup .fe)/\H6 mA=some (.lst (bW (eS mk (fresh.take i5) g)))/\H6 l=some (.lst (aW n))/\H6 D=some (.lst (aW fresh)))
       ⟨v,rfl,sD,s5 _ _ Y,s5 _ _ UF,s5 _ _ I,hX⟩ (λi σ H6 _ ⟨_,_,_,_,_,_,h⟩=>bh.of h) ?_ ?_⟩
      ·rintro i6 x σ H6 hx6 ⟨v9',rfl,s6,hT6,Tg,Z,JP⟩;obtain⟨q,hq,rfl⟩:=d9 hx6;have hqf:q∈fresh:=bc hq;have hlt:q<g.length:=by
        rw[<-hfr] at hqf;have:=(bJ.mp hqf).2;exact(aB.mp<|of_decide_eq_true this).1
       refine⟨_,rfl,_,rfl,_,rfl,mA,_,_,q,rfl,rfl,Tg,sG (by rw[lenV,ju];exact hlt),?_⟩;refine⟨_,rfl,s6.put hm0,by rw[aq ntm];exact hT6,?_,by rw[aq<|aF nmG];exact Z,by rw[aq nDm];exact JP⟩;rw[ai,aaZ,take_snoc hq,vo]
      ·rintro σ H6 ⟨v9',rfl,s6,hT6,Tg,Z,JP⟩;rw[au,gr] at Tg;have fb:=F6.cnt;have n0:=O7 m0;rw[bS] at fb;refine⟨_,rfl,.inl ⟨rfl,_,bh.of Z⟩,_,rfl,l,D,_,_,rfl,rfl,Z,JP,?_,?_⟩
       ·rw[au,au,sizeLine_eq];omega
       refine⟨_,n++fresh,_,_,_,?_,rfl,s6.put hg0,by rw[aq ntg];exact hT6,by rw[aq nmG];exact Tg,by rw[ai];simp[aW],F6,?_,dF _ UG,λz e=>?_,λz e=>?_⟩
       ·rw[bS];omega
       ·rw[bN (aB.mp M).1];exact M
       ·rcases hi with⟨z1,N⟩|⟨z1,N⟩
        ·rw[<-N];exact clj
        ·exact λq hq=>pK<|c0 .h e q hq
       ·rcases hi with⟨z1,N⟩|⟨z1,N⟩
        ·omega
        ·rw[<-N];exact clj
    ·have d:j∈shut:=(JO j).mp (by
      cases e:(cG kvs<|aU (j:Int)).isSome with
      |true=>rfl
      |false=>rw[e] at d;exact absurd rfl d)
     refine⟨g,n,_,_,_,X,rfl,s4,Y,UF,I,F4,M,UG,λz e=>?_,λz e=>?_⟩
     ·rcases hi with⟨z1,N⟩|⟨z1,N⟩
      ·exact absurd (N▸d) e
      ·exact c0 .h e
     ·rcases hi with⟨z1,N⟩|⟨z1,N⟩
      ·omega
      ·exact absurd (N▸d) e
   ·rintro σ H3 ⟨g,n,G,v,b,X,rfl,s4,Y,UF,I,F4,M,UG,c0,c1⟩;refine⟨g,n,_,_,_,_,X,rfl,s4,UF,I,F4.turn M W λj hj e=>?_⟩;rcases hj with z|z<;>subst z
    ·exact c0 (by show 0<2;decide) e
    ·exact c1 (by show 1<2;decide) e
  ·have cc:found.length<=done:=kN λz=>cc .cM;exact k H2 m s2 Ij<|F2.over cc
end
end Pr
namespace L2
open PySem PySem.Spec PyProof.Rows
structure dQ(P:Program)(w:World)(K:ah)(mg:.aa)(base:Heap)(CX:BD)(k:Nat)(x:Str)(ps:.L)(sp:Sp)(f:Addr)(fd:FuncData):Prop where
 yc:mg x=some .aG
 kp:jI K .aG=true
 bd:Binds K fd ps []
 ok:.eo
structure iQ(P:Program)(w:World)(K:ah)(mg:.aa)(base:Heap)(CX:BD)(k:Nat)(C:Addr)(m:Str)(ps:.L)(sp:Sp)(f:Addr)(fd:FuncData):Prop where
 cl:x6 K C
 me:Meth K C m f
 bd:Binds K fd ps []
 ok:.eo
section
variable{X:Cx}{CX:BD}{k n:Nat}{f C:Addr}{fd:FuncData}{ps:.L}{sp:Sp}{E:XK}{x m:Str}{p pos apos:Pos}{e o:Expr}{es:.aU}{ta:TE}{t:TA}
theorem dG(G:dQ X.prog X.w X.K X.mg X.base CX k x ps sp f fd)(c:fK n X.A)(d:fM CX X E)(g:.cD)(hk:k<=n:=by decide)(h:Gl X x:=by rfl)(a:.bc:=by decide)(i:.cm:=by rfl)
  (b:(.cK).any (·.1)=false:=by rfl):PE X .dF (KI sp [] E t):=vD G.ok (c.mono hk) h G.yc G.kp G.bd .nil d g a i b
theorem bR{pl:Sem Bool}(G:iQ X.prog X.w X.K X.mg X.base CX k C m ps sp f fd)(c:fK n X.A)(d:PE X o ta)(h:fM CX X E)(i:.cD)(hk:k<=n:=by decide)
  (a:.cm:=by rfl) (b:(.cK).any (·.1)=false:=by rfl)
  (ht:eval .ei X.env=(do
   let ov <-eval o X.env
   .ed
   let (g,first) <-holding [ov] (getMethod ov m pl)
   callWith pos g first (backTo pos .ey) .d1):=by rfl):PE X .ei (Cw C m sp [] E ta t):=
 T9 d G.cl G.me G.ok (c.mono hk) G.bd .nil h i a b ht
theorem eI{pl:Sem Bool}(G:iQ X.prog X.w X.K X.mg X.base CX k C m ps sp f fd)(a:fK n X.A)(b:PE X o ta)(c:fM CX X E)(hk:k<=n:=by decide)
  (ht:eval .em X.env=(do
   let ov <-eval o X.env
   .ed
   let (g,first) <-holding [ov] (getMethod ov m pl)
   callWith pos g first (backTo pos (starEach [] X.env)) .d1):=by rfl):PE X .em (Cw C m sp [] E ta Hq):=
 PJ b G.cl G.me G.ok (a.mono hk) G.bd .nil c ht
theorem jj{K:ah}(a:X.K=K)(b:PE X e ta)(c:attributeBase e m X.env .bA=.bA):PE X (.Attribute e m pos) (aau K ta m):=by
 subst a;exact aw b c
theorem nH{K:ah}(b:X.K=K){es:.aU}{c:Nat}{t:Wp}{n:Nat}{ps:Pos}(d:.ce)(h:PGs X es t)(e:(assignEach es X.env).length=n:=by rfl)(a:(assignEach es X.env).findIdx? (·.1)=none:=by rfl):PG X (.Tuple es c ps) (aan K n t):=by
 subst b;exact Pt d h e a
theorem WA{K:ah}{P:Program}{w:World}{mg:.aa}{base:Heap}(G:dQ P w K mg base CX k x ps sp f fd)(d:fK n X.A)(g:fM CX X E)(h:.cD)(hk:k<=n:=by decide)(i:Gl X x:=by rfl)(j:X.K=K:=by rfl)(l:X.prog=P:=by rfl)(m:X.w=w:=by rfl)(a:X.mg=mg:=by rfl)(o:X.base=base:=by rfl)
  (b:.bc:=by decide) (q:.cm:=by rfl) (c:(.cK).any (·.1)=false:=by rfl):PE X .dF (KI sp [] E t):=by
 subst j l m a o;exact dG G d g h hk i b q c
end
end L2
namespace Pr
open PySem PySem.Spec PyProof.Rows L2 Pw
abbrev qp:Stmt:=top 76
abbrev DX:Stmt:=inClass qp 6
abbrev QH:Stmt:=inClass qp 7
abbrev A8:Stmt:=inClass qp 8
abbrev xP:.L:=["self","number","joint"]
theorem Ik:az xP .ae (ao DX):=fscope
theorem QI:az xP .ae (ao QH):=fscope
theorem CV:az xP .ae (ao A8):=fscope
def gf(s:aM)(c:Nat->Bool):.e:=(a8 s.joints.length).filter λj=>c<|s.kind j
def vR(K:ah)(cS cJ cP:Addr)(c:Nat->Bool):Sp:=λvs H Q _=>∃(sA:Addr) (s:aM) (L:Lay),vs=[.al]/\.bF/\s.joints.length<=2000/\
 ∀(H':Hp) (l:Addr),H' l=some (.lst<|aW<|gf s c)->.d8
theorem iC{s:aM}{i:Nat}{x:bv}(h:.dB):s.kind i=x.kind:=by unfold jS;rw[h];rfl
theorem jY(s:aM)(c:Nat->Bool)(n:Nat)(h:n=s.joints.length):(a8 n).filterMap (λi=>if c (s.kind i)=true then .dP else none)=aW (gf s c):=by
 subst h;unfold gf;generalize s.joints.length=n;induction n with
 |zero=>rfl
 |succ n ih=>
  rw[pT,ih,oh,lU];by_cases h:c (s.kind n)=true
  ·simp[h]
  ·simp[h]
section
variable{P:Program}{w:World}{K:ah}{mg:.aa}{base:Heap}{cS cJ cP:Addr}
theorem Nv{f:Addr}{fd:FuncData}(F:d8 K "valves" "System.valves" DX f fd)(B:nG mg)(b:.aA):aX P w K mg base bV 1 f fd .ae (vR K cS cJ cP λk=>k == 1):=by
 refine F.ok1 Ik ?_;rintro cdv A outer st H _ Q E M N ⟨sA,s,L,rfl,hS,O,k⟩;refine⟨_,(ap (aJ (gH rfl Ik.nd (sE .s B.enumerate (ae .V ak)) ((bO (by(show iP xP (ao DX) _ _=true);decide +kernel))) (own:=[("number",1),("joint",2)]) (λs H C cl d=>.e3)
  (λs H C cl d=>lJ (ko (jj (K:=K) rfl .M rfl))) (λs H C cl d=>pv 1)))),?_⟩
 obtain⟨p,q⟩:=hS.ob;refine⟨_,rfl,sA,cS,p,_,_,rfl,q,b.S,b.b5,rfl,L.jL,_,rfl,bh.of hS.jl,λD g=>eN (λi=>if(s.kind i == 1)=true then .dP else none) (mM<|bh.of hS.jl) g ?_ ?_ ?_⟩
 ·rw[au,hS.jn,sizeLine_eq];omega
 ·rintro i y h R U hi ⟨T,z,rfl,r,l⟩ c t pn;rw[au,hS.jn] at hi;obtain⟨j,x,u,m,⟨v,W,G,_⟩,_⟩:=(hS.same c).joint hi;have I:z=.ref j.a:=by rw[b8,u] at l;exact(aI l).symm
  subst I;refine⟨T,_,rfl,gm.of r,rfl,_,_,rfl,_,_,rfl,rfl,rfl,_,rfl,j.a,cJ,v,_,_,rfl,G,b.J,b.xg,rfl,_,rfl,?_⟩;refine c7 (λe=>?_) λe=>?_
  ·exact⟨_,rfl,t _ _ .ax<|by rw[iC m,if_pos e]⟩
  ·exact pn _ .ax<|by rw[iC m,.bo]
 ·intro h c o;rw[jY s (λk=>k == 1) _<|by rw[au,hS.jn]] at o;exact k h D o g c
theorem vS{k:Nat}(h:k<=5):iH k=""↔k<=1:=by
 match k,h with
 |0,_=>exact⟨λ_=>.O,λ_=>rfl⟩
 |1,_=>exact⟨λ_=>.O,λ_=>rfl⟩
 |2,_=>exact .dr
 |3,_=>exact .dr
 |4,_=>exact .dr
 |5,_=>exact .dr
theorem vT{k:Nat}(h:k<=5):iH k="source"↔k=5:=by
 match k,h with
 |0,_=>exact .dr
 |1,_=>exact .dr
 |2,_=>exact .dr
 |3,_=>exact .dr
 |4,_=>exact .dr
 |5,_=>exact⟨λ_=>rfl,λ_=>rfl⟩
def lQ(K:ah)(cS cJ cP:Addr)(c:Nat->Bool):Sp:=λvs H Q _=>∃(sA:Addr) (s:aM) (L:Lay),vs=[.al]/\.bF/\s.joints.length<=2000/\(∀j,.aF<=5)/\
 ∀(H':Hp) (l:Addr),H' l=some (.lst<|aW<|gf s c)->.d8
theorem UH{f:Addr}{fd:FuncData}(F:d8 K "ends" "System.ends" QH f fd)(B:nG mg)(b:.aA):aX P w K mg base bV 1 f fd .ae (lQ K cS cJ cP λk=>decide (2<=k)):=by
 refine F.ok1 QI ?_;rintro cdv A outer st H _ Q E R U ⟨sA,s,L,rfl,hS,W,r,k⟩;refine⟨_,(ap (aJ (gH rfl QI.nd (sE .s B.enumerate (ae .V ak)) ((bO (by(show iP xP (ao QH) _ _=true);decide +kernel))) (own:=[("number",1),("joint",2)]) (λs H C cl h=>.e3)
  (λs H C cl h=>lJ (a9 Ap (jj (K:=K) rfl .M rfl) eU .aN)) (λs H C cl h=>pv 1)))),?_⟩
 obtain⟨t,u⟩:=hS.ob;refine⟨_,rfl,sA,cS,t,_,_,rfl,u,b.S,b.b5,rfl,L.jL,_,rfl,bh.of hS.jl,λD l=>eN (λi=>if decide (2<=s.kind i)=true then .dP else none) (mM<|bh.of hS.jl) l ?_ ?_ ?_⟩
 ·rw[au,hS.jn,sizeLine_eq];omega
 ·rintro i y m X Y hi ⟨T,z,rfl,v,o⟩ c G pn;rw[au,hS.jn] at hi;obtain⟨j,x,I,d,⟨M,Z,N,_⟩,_⟩:=(hS.same c).joint hi;have O:z=.ref j.a:=by rw[b8,I] at o;exact(aI o).symm
  subst O;have g:=r i;rw[iC d] at g;refine⟨T,_,rfl,gm.of v,rfl,_,_,rfl,_,_,rfl,rfl,rfl,_,rfl,j.a,cJ,M,_,_,rfl,N,b.J,b.vO,rfl,rfl,_,rfl,?_⟩;refine c7 (λe=>?_) λe=>?_
  ·have e:¬x.kind<=1:=λz=>by
    rw[(vS g).mpr z] at e;exact absurd e<|by decide
   exact⟨_,rfl,G _ _ .ax<|by rw[iC d,if_pos<|decide_eq_true<|by omega]⟩
  ·have e:x.kind<=1:=(vS g).mp (by
    refine eJ λz=>e ?_;rw[decide_eq_false (λq=>z (V.str.inj q))];rfl)
   exact pn _ .ax<|by rw[iC d,if_neg (λz=>by have:=of_decide_eq_true z;omega)]
 ·intro m c p;rw[jY s (λk=>decide (2<=k)) _<|by rw[au,hS.jn]] at p;exact k m D p l c
theorem JQ{f:Addr}{fd:FuncData}(F:d8 K "sources" "System.sources" A8 f fd)(B:nG mg)(b:.aA):aX P w K mg base bV 1 f fd .ae (lQ K cS cJ cP λk=>k == 5):=by
 refine F.ok1 CV ?_;rintro cdv A outer st H _ Q E O R ⟨sA,s,L,rfl,hS,U,q,k⟩;refine⟨_,(ap (aJ (gH rfl CV.nd (sE .s B.enumerate (ae .V ak)) ((bO (by(show iP xP (ao A8) _ _=true);decide +kernel))) (own:=[("number",1),("joint",2)]) (λs H C cl h=>.e3)
  (λs H C cl h=>lJ (a9 fo (jj (K:=K) rfl .M rfl) eU .aN)) (λs H C cl h=>pv 1)))),?_⟩
 obtain⟨r,t⟩:=hS.ob;refine⟨_,rfl,sA,cS,r,_,_,rfl,t,b.S,b.b5,rfl,L.jL,_,rfl,bh.of hS.jl,λD l=>eN (λi=>if(s.kind i == 5)=true then .dP else none) (mM<|bh.of hS.jl) l ?_ ?_ ?_⟩
 ·rw[au,hS.jn,sizeLine_eq];omega
 ·rintro i y m W X hi ⟨T,z,rfl,u,o⟩ c v pn;rw[au,hS.jn] at hi;obtain⟨j,x,G,d,⟨I,Y,M,_⟩,_⟩:=(hS.same c).joint hi;have N:z=.ref j.a:=by rw[b8,G] at o;exact(aI o).symm
  subst N;have g:=q i;rw[iC d] at g;refine⟨T,_,rfl,gm.of u,rfl,_,_,rfl,_,_,rfl,rfl,rfl,_,rfl,j.a,cJ,I,_,_,rfl,M,b.J,b.vO,rfl,rfl,_,rfl,?_⟩;refine c7 (λe=>?_) λe=>?_
  ·have e:x.kind=5:=(vT g).mp<|V.str.inj<|of_decide_eq_true e;exact⟨_,rfl,v _ _ .ax (by rw[iC d,e];rfl)⟩
  ·have e:x.kind≠5:=λz=>e (decide_eq_true<|by rw[(vT g).mpr z]);exact pn _ .ax<|by rw[iC d,if_neg λz=>e<|by simpa using z]
 ·intro m c p;rw[jY s (λk=>k == 5) _<|by rw[au,hS.jn]] at p;exact k m D p l c
theorem yes{te:TE}{σ:L2.St}{H:Hp}{a:VK}{c:.Z}(h:te σ H a):P4 σ H λb d=>if b=true then te σ d a else c d:=by
 show if true=true then te σ H a else c H
 rw[.ah];exact h
abbrev Yv:Stmt:=top 13
abbrev aa0:.L:=["system","joint"]
theorem WB:az aa0 ["system"] (ao Yv):=fscope
def firstOf(s:aM):.e:=(gf s λk=>k == 5).map λj=>(.bT).headD 0
theorem pW{s:aM}(O:iM s):Dl s (firstOf s):=by
 intro k;unfold firstOf;rw[b6];constructor
 ·rintro⟨j,a,rfl⟩;have a:=(bJ.mp a).2;have hk:.aF=5:=by simpa using a
  obtain⟨k,e⟩:=O.one j .h;obtain⟨r,h1,h2⟩:=dq.mp (show k∈ .bT by rw[e];simp);rw[e];refine⟨r,h1,?_⟩;rcases h2 with z|z<;>rw[<-z]
  ·exact .inl hk
  ·exact .inr hk
 ·rintro⟨r,h1,h2⟩;obtain⟨j,a,hk⟩:∃j,.ec/\.aF=5:=by
   rcases h2 with z|z
   ·exact⟨_,.ar,z⟩
   ·exact⟨_,.inr rfl,z⟩
  have jl:.a7:=by
   have:=O.inr r<|bc h1;rcases a with z|z<;>rw[z]
   ·exact this.1
   ·exact this.2
  refine⟨j,bJ.mpr ⟨dU.mpr jl,by rw[hk];rfl⟩,?_⟩;obtain⟨q,e⟩:=O.one j .h;have:k∈ .bT:=dq.mpr ⟨r,h1,a⟩;rw[e] at this ⊢;have:k=q:=by simpa using this
  rw[this];rfl
theorem rQ{s:aM}(O:iM s):(firstOf s).length<=1024:=by
 unfold firstOf gf;rw[au];refine bK (ft _ _) ?_;rw[kH];exact O.nj
def QJ(K:ah)(cS cJ cP:Addr):Sp:=λvs H Q _=>∃(sA:Addr) (s:aM) (L:Lay),vs=[.al]/\.bF/\iM s/\
 ∀(H':Hp) (l:Addr),H' l=some (.lst<|aW<|firstOf s)->.d8
abbrev QK:Stmt:=top 14
abbrev WC:.L:=["joints","joint"]
theorem QL:az WC ["joints"] (ao QK):=fscope
def DY(K:ah):Sp:=λvs H Q _=>∃(a:Addr) (l:.e),vs=[.E]/\bh K H a (aW l)/\l.length<=sizeLine/\
 ∀(H':Hp) (d:Addr) (kvs:.an),H' d=.bg->Ii kvs l->H d=none->.Q->Q (.ref d) H'
theorem A9:∀(l:.e) (kvs:.an) (a:.e),Ii kvs a->Ii (gE kvs<|l.map .cY) (a++l)
 |[],kvs,a,h=>by simpa[gE] using h
 |j::r,kvs,a,h=>by
  have e:gE kvs ((j::r).map .cY)=gE (putK kvs (aU (j:Int)) (V.bl true)) (r.map .cY):=rfl;rw[e];have:=A9 r (putK kvs (aU (j:Int)) (V.bl true)) (a++[j]) (λq=>by
   rw[pd];by_cases c:q=j
   ·subst c;simp
   ·rw[if_neg (λz=>c (by have:=qX z;omega)),h q];simp[c])
  simpa using this
theorem xQ(l:.e):Ii (gE []<|l.map .cY) l:=by
 have:=A9 l [] [] (λq=>by simp[cG]);simpa using this
theorem Il{K:ah}{a:Addr}{l:.e}{g:TG}{te:TE}{vs:.e}{σ:L2.St}{H1:Hp}{D:Addr}{n:.Z}(B:bh K H1 a (aW l))(C:H1 D=none)(E:l.length<=sizeLine)
  (hs:∀(j:Nat) H (h:V->.Z),(∀T,H T=none->h (.ref T) (upd H T<|.tup [.int .aL,.bl true]))->g (.int .aL) .bm H λσ2 H2=>.dE/\te σ2 H2 h)
  (F:∀H ps,Same H1 H->H D=some (.lst<|ps.map V.ref)->Paired (λp (f:Key×V)=>gm K H p [kV f.1,f.2]) ps (l.map .cY)->n H):
  ∃W:Nat->Nat->.Z,.eR/\∀i m H,W i m H->
   ((TR K a).stop i H/\n H)\/((TR K a).go i H/\∃k:.Z,(∀H',k H'->∃r,r<m/\W (i+1) r H')/\∀x H',(TR K a).BB i H x H'->g x .bm H' λσ2 H2=>.dE/\P4 σ2 H2 λb t=>
    if b=true then te σ2 t λy u=>∃acc,u D=some (.lst acc)/\acc.length<sizeLine/\k (upd u D (.lst (acc++[y]))) else k t):=by
 refine QC (λys H=>∃ps:.B,ys=ps.map V.ref/\Paired (λp (f:Key×V)=>gm K H p [kV f.1,f.2]) ps ((l.take ys.length).map .cY)) (λys H H' ⟨ps,e,p⟩ s=>⟨ps,e,Paired.wK p λ_ _ q=>Same.tup s q⟩)
  (λys zs H z ⟨ps,e,p⟩=>⟨ps,e,Paired.wK p λb f q=>?_⟩) ⟨[],rfl,.nil⟩ (cQ B) C (by rw[au];exact E) (λi x H ys h hi G s d ⟨ps,e,p⟩ I=>?_) (λH ys s d J ⟨ps,e,p⟩=>?_)
 ·rcases q with(q|⟨o,q⟩)|q
  ·exact .inl<|.inl (by rw[aq (λw=>by rw[w] at q;obtain⟨_,c⟩:=z _ q;cases c)];exact q)
  ·exact .inl<|.inr ⟨o,by rw[aq (λw=>by rw[w] at q;obtain⟨_,c⟩:=z _ q;cases c)];exact q⟩
  ·exact .inr q
 ·obtain⟨j,L,rfl⟩:=d9 G;subst e;refine hs j H h λT v=>I _ _ (Same.new v) ⟨ps++[T],.m,?_⟩;have A:ps.length=i:=by rw[<-d.2,au]
  rw[bS,au,nX,A,take_snoc L,fB];rw[au,A] at p;exact zP (Paired.wK p λ_ _ q=>Same.tup (Same.new v) q)<|gm.of ai
 ·subst e;rw[J,au,gr] at p;exact F H ps s d p
theorem Yw{f I:Addr}{fd d:FuncData}(F:d8 K "source_pipes" "source_pipes" Yv f fd)(c:.aA)(M:iQ P w K mg base bV 1 cS "sources" .ae (lQ K cS cJ cP λk=>k == 5) I d):aX P w K mg base bV 2 f fd ["system"] (QJ K cS cJ cP):=by
 refine F.ok1 WB ?_;rintro cdv A outer st H _ Q E N Z ⟨sA,s,L,rfl,hS,O,k⟩;refine⟨_,(ap (aJ (gH rfl WB.nd (cB (eI M N .j aP)) ((bO (by(show iP aa0 (ao Yv) _ _=true);decide +kernel))) (own:=[("joint",1)]) (λs H C cl t=>bX 1) (λs H C cl t=>eB)
  (λs H C cl t=>nz (r:=AC K) kE (jj (K:=K) rfl (nz (r:=AC K) kE (jj (K:=K) rfl .j rfl) .o .aX) rfl) aD .aX)))),?_⟩
 obtain⟨g,h⟩:=hS.ob;have nj:=O.nj;have jl:(gf s λk=>k == 5).length<=1024:=by
  have:=rQ O;unfold firstOf at this;rwa[au] at this
 refine⟨_,rfl,sA,g,_,rfl,h,rfl,sA,s,L,rfl,hS,.h,O.kd,λH1 R b T s1=>?_⟩;refine⟨R,rfl,⟨_,bh.of b⟩,λD u=>eN (λi=>(gf s λk=>k == 5)[i]?.bind λj=>some<|V.int (((.bT).headD 0:Nat):Int)) (cQ<|bh.of b) u ?_ ?_ ?_⟩
 ·rw[au,sizeLine_eq];omega
 ·rintro i y v Py Pn hi U l W pn;obtain⟨j,z,rfl⟩:=d9 U;have B:=bJ.mp<|bc z;have m:.a7:=dU.mp B.1;have hk:.aF=5:=by simpa using B.2
  obtain⟨q,e⟩:=O.one j .h;have n:=hS.same<|s1.trans l;obtain⟨g,h⟩:=n.ob;obtain⟨jl,x,o,hx,⟨X,pA,Y,_⟩,p,_⟩:=n.joint m;refine⟨rfl,?_⟩;refine yes ?_;refine⟨_,rfl,sA,cS,g,_,_,rfl,h,c.S,c.b5,rfl,_,rfl,L.jL,_,_,_,rfl,rfl,bh.of n.jl,cv o,jl.a,cJ,X,_,_,rfl,Y,c.J,c.pU,rfl,jl.pL,_,0,.int (q:Nat),rfl,rfl,bh.of p,?_,?_⟩
  ·rw[e];exact c6 (j:=0) rfl
  ·exact W _ _ .ax (by rw[z];simp[e])
 ·intro v l G;have e:(a8 (aW<|gf s λk=>k == 5).length).filterMap (λi=>(gf s λk=>k == 5)[i]?.bind λj=>some<|V.int (((.bT).headD 0:Nat):Int))=aW (firstOf s):=by
   rw[au,jr];unfold firstOf aW;rw[c8,<-nY];rfl
  rw[e] at G;exact k v D G (s1.free u)<|s1.trans l
theorem UJ{f:Addr}{fd:FuncData}(F:d8 K "dict_of" "dict_of" QK f fd)(B:nG mg):aX P w K mg base bV 1 f fd ["joints"] (DY K):=by
 refine F.ok1 QL ?_;rintro cdv A outer st H _ Q E p q ⟨g,l,rfl,a,h,k⟩;refine⟨_,(ap (aJ (dD (AL rfl) .s B.dict Lc (ae (gH rfl QL.nd (cB .j) ((bO (by(show iP WC (ao QK) _ _=true);decide +kernel))) (own:=[("joint",1)]) (λs H C cl b=>bX 1) (λs H C cl b=>eB)
  (λs H C cl b=>kq (ae .o (ae mH ak)))) ak)))),?_⟩
 refine⟨_,rfl,g,rfl,⟨_,a⟩,λD i=>Il a i h (λj m r n=>⟨rfl,_,rfl,.b8,n⟩) λm ps c o pr=>?_⟩;exact⟨D,ps,_,rfl,bh.of o,pr,λd e=>k _ d _ ai (xQ l) (c.free e)<|c.trans<|Same.new e⟩
theorem DZ(n:Nat):(bq n [V.non]).flatten=bW (bq n none):=by
 induction n with
 |zero=>rfl
 |succ n ih=>rw[jD,n8,ih,jD];rfl
theorem Same.but{H H':Hp}{a:Addr}(s:.Q)(h:H a=none):Same H (forget H' a):=λb o e=>by rw[b7<|aC e h];exact s _ _ e
theorem Same.Le{H:Hp}{a:Addr}:Same (forget H a) H:=λb o e=>by
 by_cases c:b=a
 ·rw[c,gc] at e;cases e
 ·rwa[b7 c] at e
theorem Same.UK{H H':Hp}{a:Addr}(s:.Q):Same (forget H a) H':=λb o e=>s _ _<|Same.Le _ _ e
def JR(K:ah)(cS cJ cP:Addr):Sp:=λvs H Q _=>∃(sA hA:Addr) (s:aM) (L:Lay) (shut:.e),vs=[.al,.ref hA]/\.bF/\iM s/\bh K H hA (aW shut)/\shut.length<=sizeLine/\
 ∀(H':Hp) (l:Addr),H' l=some (.lst<|aW<|dX s shut)->.d8
abbrev QM:Stmt:=top 15
abbrev WD:.L:=["system","shut","marks","pipe","mark"]
theorem QN:az WD ["system","shut"] (ao QM):=fscope
theorem JS{s:aM}{shut:.e}{m:.as}(b:fN s)(d:∀k:Nat,(∃a,m[k]?=.bP)↔iy s shut k)(n:Nat)(f:n=s.runs.length):
  (a8 n).filterMap (λ(i:Nat)=>match m[i]? with|some (some _)=>.dP|_=>none)=aW (dX s shut):=by
 subst f;rw[G9 b];generalize s.runs.length=n;induction n with
 |zero=>rfl
 |succ n ih=>
  rw[pT,ih,oh,lU];have h:=d n;cases e:m[n]? with
  |none=>
   have:¬iy s shut n:=λc=>by obtain⟨a,z⟩:=h.mpr c;rw[e] at z;cases z
   simp[this]
  |some x=>
   cases x with
   |none=>
    have:¬iy s shut n:=λc=>by obtain⟨a,z⟩:=h.mpr c;rw[e] at z;cases z
    simp[this]
   |some a=>
    have:iy s shut n:=h.mp ⟨a,e⟩;simp[this]
theorem UL{f f1 f2 f3:Addr}{fd eX I qz:FuncData}(F:d8 K "come_to" "come_to" QM f fd)(B:nG mg)(W:.aA){Yl:Tok}(hW:mg "WATERED"=some (.int 0 Yl))
  (G1:dQ P w K mg base bV 1 "flood" .e9 (DU K cS cJ cP) f1 eX) (G2:dQ P w K mg base bV 2 "source_pipes" ["system"] (QJ K cS cJ cP) f2 I) (G3:dQ P w K mg base bV 1 "dict_of" ["joints"] (DY K) f3 qz):
  aX P w K mg base bV 3 f fd ["system","shut"] (JR K cS cJ cP):=by
 refine F.ok1 QN ?_;rintro cdv A outer st H _ Q E J nd ⟨sA,hA,s,L,shut,rfl,hS,O,hL,hl,k⟩;refine⟨_,(af (bu 2 (dm AF (eW (ae rq ak)) (dz B.len .V))) (af (aL (dG G1 J aP (ae .j (ae (dG G2 J aP (ae .j ak)) (ae (dG G3 J aP .cw) (ae .eV .cG)))))) (ap (aJ (gH rfl QN.nd (sE .s B.enumerate .cG) ((bO (by(show iP WD (ao QM) _ _=true);decide +kernel))) (own:=[("pipe",3),("mark",4)]) (λs H C cl X=>nH (K:=K) (n:=2) rfl rfl (eG (bX 3) (eG (bX 4) lG)))
   (λs H C cl X=>lJ (iA (yn .ay))) (λs H C cl X=>pv 3)))))),?_⟩
 have nr:=O.nr;refine⟨ .cL,λb Ig=>?_⟩;have s1:Same H (upd H b<|.lst [.non]):=Same.new Ig;have c:=.cf;obtain⟨dS,oS⟩:=c.ob;refine⟨_,rfl,sA,cS,dS,_,_,rfl,oS,W.S,W.gZ,rfl,L.qL,_,rfl,.inl<|bh.of c.ql,b,_,_,rfl,rfl,ai,?_,?_,?_,λmA d=>?_⟩
 ·rw[au,hS.pn];omega
 ·rw[au,hS.pn];omega
 ·rw[au,hS.pn,sizeLine_eq];show 1*(s.runs.length:Int).toNat<=_;omega
 have en:(.d7:Int).toNat=s.runs.length:=by rw[au,hS.pn];omega
 rw[en,DZ];have t:Same H (upd (upd H b<|.lst [.non]) mA<|.lst<|bW<|bq s.runs.length none):=s1.trans<|Same.new d;have g:H mA=none:=s1.free d;have u:(upd (upd H b<|.lst [.non]) mA<|.lst<|bW<|bq s.runs.length none) mA=some (.lst<|bW<|bq s.runs.length none):=ai;generalize upd (upd H b<|.lst [.non]) mA (.lst<|bW<|bq s.runs.length none)=H2 at t u;refine⟨_,rfl,_,rfl,sA,s,L,rfl,hS.same t,O,λH3 Y M h G=>?_⟩;refine⟨_,rfl,hA,shut,rfl,(t.trans G).seq hL,hl,λH4 Z kvs N j l R=>?_⟩;have nf:Y≠mA:=λz=>by rw[z,u] at h;cases h
 have nb:Z≠mA:=λz=>by rw[z,G _ _ u] at l;cases l
 have N5:=t.trans<|G.trans R;have lr:(firstOf s).length<=1024:=rQ O;refine⟨_,rfl,sA,Y,Z,mA,0,s,L,firstOf s,shut,kvs,bq s.runs.length none,forget H4 mA,rfl,Same.Le,gc,hS.same<|Same.but N5 g,bh.of (by rw[b7 nf];exact R _ _ M),by rw[b7 nb];exact N,j,R _ _<|G _ _ u,.m,λq hq=>?_,O.inr,.h,.h,λH5 m s5 Z1 FL=>?_⟩
 ·obtain⟨r,U,_⟩:=(pW O q).mp hq;have:=(aB.mp U).1;simp[this]
 have o:Same H H5:=(Same.but N5 g).trans s5;have cm:=rg (pW O) FL;have ml:m.length=s.runs.length:=by rw[FL.len];simp
 refine⟨_,rfl,mA,_,rfl,bh.of Z1,λD hD=>eN (λ(i:Nat)=>match m[i]? with|some (some _)=>.dP|_=>none) (mM<|bh.of Z1) hD ?_ ?_ ?_⟩
 ·rw[au,ml,sizeLine_eq];omega
 ·rintro i y H6 Py Pn hi ⟨T,z,rfl,hT,p⟩ s6 py pn;rw[b8] at p;cases e:m[i]? with
  |none=>rw[e] at p;cases p
  |some x=>
   rw[e] at p;have ez:z=markV x:=(aI p).symm;subst ez;refine⟨T,_,rfl,gm.of hT,rfl,_,_,rfl,_,_,rfl,rfl,rfl,_,rfl,_,rfl,?_⟩;cases x with
   |none=>exact pn _ .ax<|by rw[e]
   |some a=>exact⟨_,rfl,py _ _ .ax<|by rw[e]⟩
 ·intro H6 s6 JP;rw[JS O.inr cm _<|by rw[au,ml]] at JP;exact k H6 D JP (o.free hD)<|o.trans s6
def Lf(K:ah)(cS cJ cP:Addr):Sp:=λvs H Q _=>∃(sA:Addr) (s:aM) (L:Lay),vs=[.al]/\.bF/\iM s/\
 ∀(H':Hp) (l:Addr) (m:.as),H' l=some (.lst<|bW m)->Ar s m s.runs.length->.d8
abbrev QO:Stmt:=top 16
abbrev Yx:.L:=["system","marks","barred","pipe"]
theorem UM:az Yx ["system"] (ao QO):=fscope
theorem QP{f f1 f2 f3 f4:Addr}{fd eX fd2 qz tM:FuncData}(F:d8 K "areas" "areas" QO f fd)(B:nG mg)(T:.aA){Yl:Tok}(hW:mg "WATERED"=some (.int 0 Yl))
  (G1:dQ P w K mg base bV 1 "flood" .e9 (DU K cS cJ cP) f1 eX) (G2:dQ P w K mg base bV 2 "source_pipes" ["system"] (QJ K cS cJ cP) f2 fd2) (G3:dQ P w K mg base bV 1 "dict_of" ["joints"] (DY K) f3 qz)
  (GV:iQ P w K mg base bV 1 cS "valves" .ae (vR K cS cJ cP λk=>k == 1) f4 tM):aX P w K mg base bV 3 f fd ["system"] (Lf K cS cJ cP):=by
 refine F.ok1 UM ?_;rintro cdv A outer st H _ Q E o nd ⟨sA,s,L,rfl,hS,O,k⟩;refine⟨_,(af (bu 1 (dm AF (eW (ae rq ak)) (dz B.len .V))) (af (bu 2 (dG G3 o aP (ae (eI GV o .j aP) ak))) (af (aL (dG G1 o aP (ae .j (ae (dG G2 o aP (ae .j ak)) (ae .M (ae .eV .cw)))))) (af (iO dc rfl (wQ .s B.range (ae (dz B.len .V) ak)) (bX 3)
   (ap (cx (iA (mI (bG .o .aj)))
    (ap (aL (dG G1 o aP (ae .j (ae (eW (ae .aj ak)) (ae .M (ae (dm mK .aj aD) .cw))))))) bE))) (ap (aJ .o)))))),?_⟩
 have nr:=O.nr;have nj:=O.nj;refine⟨ .cL,λp Ig=>?_⟩;have s1:Same H (upd H p<|.lst [.non]):=Same.new Ig;have t:=.cf;obtain⟨u,y⟩:=t.ob;refine⟨_,rfl,sA,cS,u,_,_,rfl,y,T.S,T.gZ,rfl,L.qL,_,rfl,.inl<|bh.of t.ql,p,_,_,rfl,rfl,ai,?_,?_,?_,λmA C=>?_⟩
 ·rw[au,hS.pn];omega
 ·rw[au,hS.pn];omega
 ·rw[au,hS.pn,sizeLine_eq];show 1*(s.runs.length:Int).toNat<=_;omega
 have en:(.d7:Int).toNat=s.runs.length:=by rw[au,hS.pn];omega
 rw[en,DZ];have s2:Same H (upd (upd H p<|.lst [.non]) mA<|.lst<|bW<|bq s.runs.length none):=s1.trans<|Same.new C;have d:H mA=none:=s1.free C;have Ij:(upd (upd H p<|.lst [.non]) mA<|.lst<|bW<|bq s.runs.length none) mA=some (.lst<|bW<|bq s.runs.length none):=ai;generalize upd (upd H p<|.lst [.non]) mA (.lst<|bW<|bq s.runs.length none)=H2 at s2 Ij;have D:=hS.same s2;obtain⟨u,y⟩:=D.ob;refine⟨_,rfl,sA,u,_,rfl,y,rfl,sA,s,L,rfl,D,.h,λH3 vA hv3 hvn s3=>?_⟩;have vl:(gf s λk=>k == 1).length<=1024:=by
  unfold gf;refine bK (ft _ _) ?_;rw[kH];exact nj
 refine⟨vA,_,rfl,bh.of hv3,.da,λH4 h kvs G b I s4=>?_⟩;have b:Ii kvs (eE s):=b;have N5:=s2.trans<|s3.trans s4;refine⟨_,rfl,_,rfl,sA,s,L,rfl,hS.same N5,O,λH5 fA hf5 J U=>?_⟩;have UF:=s4 _ _<|s3 _ _ Ij;have nf:fA≠mA:=λz=>by rw[z,UF] at J;cases J
 have nb:h≠mA:=λz=>by rw[z,s3 _ _ Ij] at I;cases I
 have M:=N5.trans U;have lr:(firstOf s).length<=1024:=rQ O;refine⟨_,rfl,_,rfl,sA,fA,h,mA,0,s,L,firstOf s,eE s,kvs,bq s.runs.length none,forget H5 mA,rfl,Same.Le,gc,hS.same<|Same.but M d,bh.of (by rw[b7 nf];exact hf5),by rw[b7 nb];exact U _ _ G,b,U _ _ UF,.m,λq hq=>?_,O.inr,.h,.h,λH6 m s6 Tg FL=>?_⟩
 ·obtain⟨r,hr',_⟩:=(pW O q).mp hq;have:=(aB.mp hr').1;simp[this]
 have BE:Same H H6:=(Same.but M d).trans s6;have hb6:H6 h=.bg:=s6 _ _ (by rw[b7 nb];exact U _ _ G);have N:=hS.same BE;obtain⟨u,y⟩:=N.ob;refine⟨_,rfl,sA,cS,u,_,_,rfl,y,T.S,T.gZ,rfl,L.qL,_,rfl,.inl<|bh.of N.ql,_,rfl,?_,?_,?_⟩
 ·rw[au,hS.pn];omega
 ·rw[au,hS.pn];omega
 rw[en];refine Cs (lo:=0) (n:=s.runs.length) (λi σ e=>∃(m:.as) (v3:.aw),σ=[some<|.ref sA,some<|.ref mA,some<|.ref h,v3]/\Same H e/\e h=.bg/\e mA=some (.lst<|bW m)/\Ar s m i)
  ⟨m,none,rfl,BE,hb6,Tg,Ar.start (pW O) FL⟩ ?_ ?_
 ·rintro i σ e hi ⟨m,v3,rfl,W,g,j,l⟩;have e0:(0:Int)+(i:Nat)=(i:Nat):=.h
  rw[e0];obtain⟨x,X⟩:∃x,m[i]?=.v:=⟨_,bo (by rw[l.len];exact hi)⟩;refine⟨_,rfl,_,rfl,mA,_,_,_,rfl,rfl,bh.of j,cv X,_,rfl,?_⟩;refine c7 (λc=>?_) λc=>?_
  ·have c:x=none:=by
    cases x with
    |none=>rfl
    |some a=>exact absurd (of_decide_eq_true c) .bG
   subst c;refine⟨_,rfl,_,rfl,.cL,λY DW=>?_⟩;have Z:Same e (upd e Y<|.lst [.bC]):=Same.new DW;have hM8:=Z _ _ j;have ng:Y≠mA:=λz=>by rw[z,j] at DW;cases DW
   have R:=W.trans Z;refine⟨_,rfl,_,rfl,_,_,rfl,rfl,_,rfl,sA,Y,h,mA,((i:Nat):Int)+1,s,L,[i],eE s,kvs,m,forget (upd e Y<|.lst [.bC]) mA,rfl,Same.Le,gc,hS.same<|Same.but R d,bh.of (by rw[b7 ng];exact ai),by rw[b7 nb];exact Z _ _ g,b,hM8,l.len,λq hq=>?_,O.inr,(by show 1<=2000;decide),.h,λH9 m9 s9 hM9 F9=>?_⟩
   ·have:q=i:=by simpa using hq
    rw[this];exact X
   exact⟨m9,_,rfl,(Same.but R d).trans s9,s9 _ _ (by rw[b7 nb];exact Z _ _ g),hM9,l.more X F9⟩
  ·have c:x≠none:=λz=>c (by rw[z];rfl);exact⟨m,_,rfl,W,g,j,l.skip (by rw[X];simp[c])⟩
 ·rintro σ e ⟨m,v3,rfl,W,g,j,l⟩;exact⟨_,rfl,k e mA m j l d W⟩
end
abbrev WE:Stmt:=inClass (top 1) 0
abbrev aa1:Stmt:=inClass (top 2) 0
abbrev aa2:Stmt:=inClass (top 3) 0
abbrev aa3:Stmt:=inClass (top 4) 0
abbrev aa4:Stmt:=inClass (top 7) 0
abbrev aa5:Stmt:=inClass (top 8) 0
theorem Yy:az .cn .cn (ao WE):=fscope
theorem aa6:az .ae .ae (ao aa1):=fscope
theorem aa7:az .ae .ae (ao aa2):=fscope
theorem aa8:az .ae .ae (ao aa3):=fscope
theorem aa9:az .ae .ae (ao aa4):=fscope
theorem aba:az .d9 .d9 (ao aa5):=fscope
def JT(K:ah):Sp:=λvs H Q _=>∃(e C:Addr) (n:Int) (cd:ClassData),vs=[.a_,.int n]/\.fY
def Im(K:ah)(n:Int):Sp:=λvs H Q _=>∃(e C:Addr) (cd:ClassData),vs=[.a_]/\.fY
def QR(K:ah):Sp:=λvs H Q _=>∃(e C:Addr) (a b:Int) (cd:ClassData),vs=[.a_,.int a,.int b]/\H e=some (px e C none)/\Ep K C cd/\bM K C "kind"/\bM K C "line"/\
 ∀d,d≠e->H d=none->Q .non (excPut H e C d [("kind",.int a),("line",.int b)])
theorem JU{H:Hp}{e C d:Addr}{fs f:.az}(h:d≠e):excPut (excPut H e C d fs) e C d f=excPut H e C d f:=by
 unfold excPut;funext b;by_cases a:b=e
 ·subst a;rw[ai,ai]
 ·by_cases c:b=d
  ·subst c;rw[aq a,ai,aq a,ai]
  ·rw[aq a,aq c,aq a,aq c,aq a,aq c]
section
variable{P:Program}{w:World}{K:ah}{mg:.aa}{base:Heap}
theorem UN{f:Addr}{fd:FuncData}(F:d8 K "__init__" "Refusal.__init__" WE f fd):aX P w K mg base bV 1 f fd .cn (JT K):=by
 refine F.ok1 Yy ?_;rintro cdv A outer st H _ Q E h a ⟨e,C,n,cd,rfl,b,c,na,k⟩;refine⟨_,(ap<|DP .j .o rfl),?_⟩;refine⟨_,rfl,_,rfl,e,C,none,[],cd,rfl,b,c,na,.inl .cg,.O,λd a g=>?_⟩;refine k d a ?_;rcases g with z|⟨_,z⟩
 ·cases z
 ·exact z
theorem Yz{f:Addr}{fd:FuncData}(F:d8 K "__init__" "Fault.__init__" aa5 f fd):aX P w K mg base bV 1 f fd .d9 (QR K):=by
 refine F.ok1 aba ?_;rintro cdv A outer st H _ Q E o c ⟨e,C,a,b,cd,rfl,j,i,na,nb,k⟩;refine⟨_,(af (DP .j .o rfl)<|ap<|DP .j .M rfl),?_⟩;refine⟨_,rfl,_,rfl,e,C,none,[],cd,rfl,j,i,na,.inl .cg,.O,λd c g=>?_⟩;have g:H d=none:=by
  rcases g with z|⟨_,z⟩
  ·cases z
  ·exact z
 have l:excPut H e C d (eV "kind" (.int a) []) d=some (qv d [("kind",.int a)]):=by unfold excPut;rw[aq c,ai];rfl
 refine⟨_,rfl,_,rfl,e,C,.aS,[("kind",.int a)],cd,rfl,ai,i,nb,.inr ⟨d,rfl,c,l⟩,.dJ,λd' m h=>?_⟩;have n:d'=d:=by
  rcases h with z|⟨z,_⟩
  ·cases z;rfl
  ·cases z
 subst n;rw[JU c];exact k d' c g
structure Io(P:Program)(w:World)(K:ah)(mg:.aa)(base:Heap)(D f:Addr)(fd:FuncData):Prop where
 yc:mg "Refusal"=some .bw
 ga:qJ K .bw "__getattribute__"=some (some<|.builtin "type.__getattribute__")
 rd:y6 K D .bN=true
 fc:y8 K .bw .bN "__init__"=some (.val<|.ref f)
 kp:jI K .aG=true
 ok:aX P w K mg base bV 1 f fd .cn (JT K)
 bd:Binds K fd .cn []
theorem YA{f b D:Addr}{fd c:FuncData}(F:d8 K "__init__" "NotValves.__init__" aa1 f fd)(R:Io P w K mg base D b c):aX P w K mg base bV 2 f fd .ae (Im K 1):=by
 refine F.ok1 aa6 ?_;rintro cdv A outer st H _ Q E g a ⟨e,C,cd,rfl,h,i,na,k⟩;refine⟨_,.ef,?_⟩;exact⟨_,rfl,e,C,1,cd,rfl,h,i,na,λd a j=>k d a j⟩
theorem YB{f b D:Addr}{fd c:FuncData}(F:d8 K "__init__" "TooMany.__init__" aa2 f fd)(R:Io P w K mg base D b c):aX P w K mg base bV 2 f fd .ae (Im K 2):=by
 refine F.ok1 aa7 ?_;rintro cdv A outer st H _ Q E g a ⟨e,C,cd,rfl,h,i,na,k⟩;refine⟨_,.ef,?_⟩;exact⟨_,rfl,e,C,2,cd,rfl,h,i,na,λd a j=>k d a j⟩
theorem YC{f b D:Addr}{fd c:FuncData}(F:d8 K "__init__" "NothingHelps.__init__" aa3 f fd)(R:Io P w K mg base D b c):aX P w K mg base bV 2 f fd .ae (Im K 3):=by
 refine F.ok1 aa8 ?_;rintro cdv A outer st H _ Q E g a ⟨e,C,cd,rfl,h,i,na,k⟩;refine⟨_,.ef,?_⟩;exact⟨_,rfl,e,C,3,cd,rfl,h,i,na,λd a j=>k d a j⟩
theorem YD{f b D:Addr}{fd c:FuncData}(F:d8 K "__init__" "NoSuchPipe.__init__" aa4 f fd)(R:Io P w K mg base D b c):aX P w K mg base bV 2 f fd .ae (Im K 4):=by
 refine F.ok1 aa9 ?_;rintro cdv A outer st H _ Q E g a ⟨e,C,cd,rfl,h,i,na,k⟩;refine⟨_,.ef,?_⟩;exact⟨_,rfl,e,C,4,cd,rfl,h,i,na,λd a j=>k d a j⟩
end
end Pr
namespace L2
open PySem PySem.Spec PyProof.Rows Pr
structure D0(P:Program)(w:World)(K:ah)(mg:.aa)(base:Heap)(x:Str)(C:Addr)(n:Int)(f:Addr)(fd:FuncData)(cd:ClassData):Prop where
 yc:mg x=some .I
 xm:Tf K C f
 ok:aX P w K mg base bV 2 f fd .ae (Im K n)
 bd:Binds K fd .ae []
 xc:Ep K C cd
 na:bM K C "number"
structure UO(P:Program)(w:World)(K:ah)(mg:.aa)(base:Heap)(x:Str)(C:Addr)(f:Addr)(fd:FuncData)(cd:ClassData):Prop where
 yc:mg x=some .I
 xm:Tf K C f
 ok:aX P w K mg base bV 1 f fd .d9 (QR K)
 bd:Binds K fd .d9 []
 xc:Ep K C cd
 na:bM K C "kind"
 nb:bM K C "line"
section
variable{X:Cx}{C f:Addr}{fd:FuncData}{cd:ClassData}{x:Str}{n:Int}{E:XK}{m:Nat}{p pos pos':Pos}{a b:Expr}{t:TA}
def UP(C:Addr)(n:Int)(E:XK):TS:=λ_ _ H=>∀H' d,.Q->H' d=some (qv d [("number",.int n)])->E .I .aS H'
theorem raised{H:Hp}{e C d:Addr}{fs:.az}(a:H e=none)(c:d≠e)(f:H d=none):Same H (forget (excPut (upd H e<|px e C none) e C d fs) e)/\forget (excPut (upd H e<|px e C none) e C d fs) e d=some (qv d fs):=by
 refine⟨λb o q=>?_,?_⟩
 ·rw[b7<|aC q a];unfold excPut;rw[aq<|aC q a,aq<|aC q f,aq<|aC q a];exact q
 ·rw[b7 c];unfold excPut;rw[aq c,ai]
theorem lR(G:D0 X.prog X.w X.K X.mg X.base x C n f fd cd)(g:fK m X.A)(i:fM (pG X.prog X.w) X E)(j:3<=m:=by decide)(k:Gl X x:=by rfl)(l:.ce:=by rfl)(b:.bc:=by decide):PS X (.Raise (some<|.Call (.Name x p) [] [] pos') none pos) (UP C n E):=by
 intro pins s σ H D I h;refine Ia (Nm G.xm G.ok (g.mono j) k G.yc G.bd (E:=E0) aP b) l i pins s σ H D I ?_;refine⟨bj _,λe o=>⟨e,C,cd,rfl,ai,G.xc,G.na,λd c a=>⟨rfl,e,C,d,cd,rfl,ai,G.xc,?_⟩⟩⟩;have a:H d=none:=by rw[aq c] at a;exact a
 obtain⟨q,r⟩:=raised (C:=C) (fs:=[("number",.int n)]) o c a;exact h _ d q r
def UQ(C:Addr)(t:TA)(E:XK):TS:=λ_ σ H=>t σ H λvs H1=>∃a b,vs=[.int a,.int b]/\∀H' d,Same H1 H'->H' d=some (qv d [("kind",.int a),("line",.int b)])->E .I .aS H'
theorem Ny(G:UO X.prog X.w X.K X.mg X.base x C f fd cd)(q:fK m X.A)(r:2<=m)(u:Gl X x)(v:.ce)(y:fM (pG X.prog X.w) X E)(z:PA X [a,b] t)(mono:∀σ H (Q n:.r->.Z),(∀vs H,Q vs H->n vs H)->t σ H Q->t σ H n)(g:.bc:=by decide)
  (k:starEach [a,b] X.env=(false,eval a X.env)::starEach [b] X.env:=by rfl) (l:(backTo pos'<|starEach [b] X.env).any (·.1)=false:=by rfl):PS X (.Raise (some<|.Call (.Name x p) [a,b] [] pos') none pos) (UQ C t E):=by
 intro pins s σ H D I h;refine Ia (Qr G.xm G.ok (q.mono r) u G.yc G.bd (E:=E0) aP z g k l) v y pins s σ H D I ?_;refine mono σ H _ _ (λvs H1 h=>?_) h;obtain⟨i,j,rfl,h⟩:=h;refine⟨ .b8,λe k=>⟨e,C,i,j,cd,rfl,ai,G.xc,G.na,G.nb,λd o c=>⟨rfl,e,C,d,cd,rfl,ai,G.xc,?_⟩⟩⟩;have c:H1 d=none:=by rw[aq o] at c;exact c
 obtain⟨B,F⟩:=raised (C:=C) (fs:=[("kind",.int i),("line",.int j)]) k o c;exact h _ d B F
end
end L2
namespace Pr
open PySem PySem.Spec PyProof.Rows L2 Pw
def hZ(E:XK)(H:Hp)(C:Addr)(n:Int):Prop:=∀H' d,.Q->H' d=some (qv d [("number",.int n)])->E .I .aS H'
theorem hZ.same{E:XK}{H H1:Hp}{C:Addr}{n:Int}(r:hZ E H C n)(s:Same H H1):hZ E H1 C n:=λH' d h e=>r H' d (s.trans h) e
def Ip(K:ah)(cS cJ cP cTM cNH:Addr):Sp:=λvs H Q E=>∃(sA:Addr) (p:Nat) (s:aM) (L:Lay),vs=[.al,.int (p:Nat)]/\.bF/\iM s/\p<s.runs.length/\
 (12<(eE s).length->hZ E H cTM 2)/\
 ((eE s).length<=12->mx s p=none->hZ E H cNH 3)/\
 ((eE s).length<=12->∀l,mx s p=some l->∀(H':Hp) (r:Addr),H' r=some (.lst<|aW l)->H r=none->.Q->Q (.ref r) H')
abbrev YE:Stmt:=top 19
abbrev abb:.L:=["system","pipe","valves","area_of","target","sides","valve","side"]
theorem WG:az abb ["system","pipe"] (ao YE):=fscope
section
variable{P:Program}{w:World}{K:ah}{mg:.aa}{base:Heap}{cS cJ cP cTM cNH:Addr}
theorem YF{f f1 f2 f3 f4 f5:Addr}{fd eX fd2 qz tM QS:FuncData}{cd4 cd5:ClassData}(F:d8 K "fewest_valves" "fewest_valves" YE f fd)(B:nG mg)(KL:.aA){Yl tkM:Tok}(hW:mg "WATERED"=some (.int 0 Yl))(hM:mg "MOST_VALVES"=some (.int 12 tkM))
  (GV:iQ P w K mg base bV 1 cS "valves" .ae (vR K cS cJ cP λk=>k == 1) f1 eX) (GA:dQ P w K mg base bV 3 "areas" ["system"] (Lf K cS cJ cP) f2 fd2) (GF:dQ P w K mg base bV 3 "first_row" .d4 (La K) f3 qz)
  (X4:D0 P w K mg base "TooMany" cTM 2 f4 tM cd4) (X5:D0 P w K mg base "NothingHelps" cNH 3 f5 QS cd5):aX P w K mg base .aK 4 f fd ["system","pipe"] (Ip K cS cJ cP cTM cNH):=by
 refine F.lK WG ?_;rintro cdv A outer st H _ Q E R nd ⟨sA,p,s,L,rfl,hS,O,hp,k1,k2,k3⟩;have hu:=rM R;refine⟨_,(af (bu 2 (eI GV R .j aP)) (af (cx (a9 Hn (dz B.len .M) (aR .s hM (v:=.int 12) .Y) .aN) (ap (lR X4 R bU)) bE) (af (bu 3 (dG GA R aP (ae .j ak))) (af (bu 4 (bG .aj .o)) (af (cx (a9 fo .ay .eV .aN) (ap (lR X5 R bU)) bE) (af (bu 5 AI) (af (iO FX rfl (cB .M) (bX 6)
   (ap (yo hu (pv 5) (pv 6) (gH rfl WG.nd (cB (aw (bG .V (pv 6)) rfl)) ((bO (by(show iP abb (ao YE) _ _=true);decide +kernel))) (own:=[("side",7)]) (λs H C cl fp=>bX 7) (λs H C cl fp=>eB)
    (λs H C cl fp=>nz (r:=AC K) kE .aj (pv 7) .aX)) rfl))) (ap (aJ (dG GF R aP (ae .M (ae (pv 5) (ae .ay ak))))))))))))),?_⟩
 have nr:=O.nr;have nj:=O.nj;obtain⟨dS,oS⟩:=hS.ob;refine⟨_,rfl,sA,dS,_,rfl,oS,rfl,sA,s,L,rfl,hS,.h,λH1 t g hvn s1=>?_⟩;have g:H1 t=some (.lst<|aW<|eE s):=g;refine⟨_,rfl,t,_,rfl,.inl<|bh.of g,_,_,rfl,rfl,_,rfl,?_⟩;rw[au];refine c7 (λc=>?_) λc=>?_
 ·have c:12<(eE s).length:=.en
  exact λH' d h e=>(k1 c) H' d (s1.trans h) e
 have c:(eE s).length<=12:=kN λz=>c .cM;refine⟨_,rfl,sA,s,L,rfl,.cf,O,λH2 mA m G hA hmn U=>?_⟩;obtain⟨Mk,l⟩:=hA.marked;have CW:=s1.trans U;generalize hmk:(λk=>(m.getD k none).getD 0)=mk at Mk;have l:∀k,.cd->m[k]?=some (some<|mk k):=λk hk=>by rw[<-hmk];exact l k hk
 refine⟨_,rfl,_,rfl,mA,_,_,_,rfl,rfl,bh.of G,cv<|l p hp,?_⟩;refine⟨_,rfl,rfl,_,rfl,?_⟩;refine c7 (λo=>?_) λo=>?_
 ·have o:mk p=0:=by have:=of_decide_eq_true o;exact V.int.inj this
  exact λH' d h e=>(k2 c<|Hb O.inr Mk hp o) H' d (CW.trans h) e
 have o:mk p≠0:=λz=>o<|decide_eq_true<|congrArg V.int z;have T:Kt s λv=>((endsAt s v).headD 0,(endsAt s v).getD 1 0):=λv hv k=>by
  obtain⟨a,b,e⟩:=O.two v (z6.mp hv).2;rw[<-dq];simp[e]
 have fs:=Hc O.inr Mk T hp o;intro dA j;have s3:Same H2 (upd H2 dA (.dK [])):=Same.new j;have Y:H dA=none:=CW.free j;refine⟨_,rfl,t,rfl,⟨_,bh.of (s3 _ _ (U _ _ g))⟩,iB (K:=K) (a:=t) (xs:=aW (eE s)) (λi σ H'=>∃(kvs:.an) (v6:.aw),σ=[some .al,some (.int (p:Nat)),some (.ref t),some (.ref mA),some (.int (mk p)),some (.ref dA),v6,none]/\
   Same (forget H2 dA) H'/\H' dA=.bg/\kvs.length<=i/\∀v,v∈(eE s).take i->∃W,cG kvs (aU (v:Int))=some (.ref W)/\H' W=some (.lst [.int (mk ((endsAt s v).headD 0)),.int (mk ((endsAt s v).getD 1 0))]))
  ⟨[],none,rfl,Same.UK s3,ai,bj _,λv hv=>by simp at hv⟩ (λi σ H' _ ⟨_,_,_,n,_⟩=>bh.of (n _ _ (by rw[b7 (aC (U _ _ g) j)];exact U _ _ g))) ?_ ?_⟩
 ·rintro i x σ Z hx ⟨kvs,v6,rfl,X,UR,hl4,h4⟩;obtain⟨v,hv,rfl⟩:=d9 hx;have hvm:=z6.mp<|bc hv;have N5:Same H Z:=(Same.but CW Y).trans X;have I:=hS.same N5;obtain⟨dS,oS⟩:=I.ob;obtain⟨jl,jx,hjl,hjx,⟨dJ,pA,oJ,_⟩,M,_⟩:=I.joint hvm.1;obtain⟨a,b,N⟩:=O.two v hvm.2;have hm4:Z mA=some (.lst<|bW m):=X _ _ (by rw[b7<|aC G j];exact G);rw[N] at M;have lt:∀q,q∈[a,b]->q<s.runs.length:=λq hq=>by
   obtain⟨r,h1,_⟩:=dq.mp (show q∈endsAt s v by rw[N];exact hq);exact(aB.mp h1).1
  refine⟨_,rfl,sA,cS,dS,_,_,rfl,oS,KL.S,KL.b5,rfl,_,rfl,L.jL,_,_,_,rfl,rfl,bh.of I.jl,cv hjl,jl.a,cJ,dJ,_,_,rfl,oJ,KL.J,KL.pU,rfl,jl.pL,rfl,⟨_,bh.of M⟩,λD hD=>eN (λi=>([a,b]:.e)[i]?.bind λq=>some<|V.int<|mk q) (cQ<|bh.of M) hD .b8 ?_ ?_⟩
  ·rintro i2 y H5 Py Pn hi2 hy n py pn;obtain⟨q,hq,rfl⟩:=d9 hy;refine⟨rfl,yes ⟨_,rfl,_,rfl,mA,_,_,_,rfl,rfl,bh.of<|n _ _ hm4,cv<|l q<|lt q<|bc hq,?_⟩⟩;exact py _ _ .ax (by rw[hq];rfl)
  ·intro H5 n hX;have hX:H5 D=some (.lst [.int<|mk a,.int<|mk b]):=hX;have kl:kvs.length<sizeLine:=by
    have:=(aB.mp hv).1;rw[sizeLine_eq];omega
   refine⟨_,rfl,_,rfl,dA,_,rfl,BJ.k (k:=aU (v:Int)) (n _ _ UR) kl,?_⟩;have nDd:D≠dA:=λz=>by rw[z,UR] at hD;cases hD
   have put:Same (forget H2 dA) (upd H5 dA<|.dK<|putK kvs (aU (v:Int))<|.ref D):=(X.trans n).put gc;refine⟨_,_,rfl,put,ai,?_,λu hu'=>?_⟩
   ·have:=jy kvs (aU (v:Int))<|V.ref D;omega
   ·rw[take_snoc hv,bZ] at hu';by_cases cu:u=v
    ·subst cu;refine⟨D,by rw[pd,.ah],?_⟩;rw[aq nDd,N];exact hX
    ·obtain⟨W,h1,h2⟩:=h4 u (by
      rcases hu' with z|z
      ·exact z
      ·exact absurd .c3 cu)
     refine⟨W,?_,?_⟩
     ·rw[pd,if_neg λz=>cu (by have:=qX z;omega)];exact h1
     ·rw[aq<|jc h2 UR .bG];exact n _ _ h2
 ·rintro σ Z ⟨kvs,v6,rfl,X,UR,hl4,h4⟩;rw[au,gr] at h4;have N5:Same H Z:=(Same.but CW Y).trans X;have hv4:Z t=some (.lst<|aW<|eE s):=X _ _ (by rw[b7<|aC (U _ _ g) j];exact U _ _ g);refine⟨_,rfl,_,rfl,_,rfl,t,dA,mk p,eE s,λv=>(mk<|(endsAt s v).headD 0,mk<|(endsAt s v).getD 1 0),rfl,hv4,⟨kvs,UR,λv hv=>?_⟩,vh s,c,o,λH5 r K9 hrn n=>?_⟩
  ·obtain⟨W,h1,h2⟩:=h4 v hv;exact⟨W,h1,bh.of h2⟩
  exact k3 c _ fs H5 r K9 (N5.free hrn)<|N5.trans n
end
def lM:.L:=["e","w","n","s","u","d","ne","se","nw","sw","eu","ed","wu","wd","nu","nd","su","sd"]
def nQ(as:.B):.an:=(lM.zip as).map λp=>((aK p.1:Key),V.ref p.2)
def KTup(K:ah)(a:Addr)(xs:.r):Prop:=.fZ
theorem KTup.at_{K:ah}{a:Addr}{xs:.r}{H:Hp}(h:KTup K a xs):.cH:=.inr h
def abc(d:Nat):.r:=[.int (bD d).1,.int (bD d).2.1,.int (bD d).2.2]
structure Iq(P:Program)(w:World)(K:ah)(mg:.aa)(a:Addr)(as:.B):Prop where
 yc:mg "STEPS"=some .E
 tab:pB P w K a (nQ as)
 len:as.length=18
 at_:∀(i:Nat) d,as[i]?=.aS->KTup K d (abc i)
structure QT(P:Program)(w:World)(K:ah)(mg:.aa)(a2 a3 a4:Addr):Prop where
 mg2:mg "TURN_OF_TWO_AXES"=some (.ref a2)
 t2:pB P w K a2 [(.inl 1,.int 0),(.inl 0,.int 90),(.inl<|-1,.int 180)]
 mg3:mg "TURN_OF_THREE_AXES"=some (.ref a3)
 t3:pB P w K a3 [(.inl 1,.int 45),(.inl 0,.int 90),(.inl<|-1,.int 135)]
 mg4:mg "TURN_OF_FOUR_AXES"=some (.ref a4)
 t4:pB P w K a4 [(.inl 2,.int 0),(.inl 1,.int 60),(.inl 0,.int 90),(.inl<|-1,.int 120),(.inl<|-2,.int 180)]
abbrev QU:Stmt:=top 42
abbrev QV:Stmt:=top 43
abbrev YG:Stmt:=top 44
abbrev QW:Stmt:=top 45
abbrev QX:Stmt:=top 46
abbrev JV:Stmt:=top 47
abbrev QY:Stmt:=top 48
theorem US:az .bv .bv (ao QU):=fscope
theorem UT:az .bv .bv (ao QV):=fscope
abbrev UU:.L:=["direction","step"]
theorem WH:az UU ["direction"] (ao YG):=fscope
theorem QZ:az UU ["direction"] (ao QW):=fscope
abbrev WI:.L:=["one","other","product","together","a","b"]
theorem Q0:az WI .bY (ao QX):=fscope
abbrev Q5:.L:=["x","y","z","number"]
theorem Lg:az Q5 ["x","y","z"] (ao JV):=fscope
abbrev WJ:.L:=["place","direction","millimetres","whole","rooted","length","step"]
theorem Q6:az WJ ["place","direction","millimetres"] (ao QY):=fscope
def Lh(as:.B):Sp:=λvs H Q _=>∃x,vs=[.str x]/\Q (.bl (cG (nQ as)<|aK x).isSome) H
def Li(as:.B):Sp:=λvs H Q _=>∃x v,vs=[.str x]/\cG (nQ as) (aK x)=.av/\Q v H
def Lj(K:ah):Sp:=λvs H Q _=>∃(d:Addr) (a b c:Int),vs=[.ref d]/\gm K H d [.int a,.int b,.int c]/\∀(H':Hp) (t:Addr),H' t=some (.tup [.int<|-a,.int<|-b,.int<|-c])->H t=none->.Q->Q (.ref t) H'
def D1(K:ah):Sp:=λvs H Q _=>∃(d:Addr) (a b c:Int),vs=[.ref d]/\gm K H d [.int a,.int b,.int c]/\∀H':Hp,.Q->Q (.int<|(a.natAbs:Int)+b.natAbs+c.natAbs) H'
section
variable{P:Program}{w:World}{K:ah}{mg:.aa}{base:Heap}
theorem Q7{f a:Addr}{fd:FuncData}{as:.B}(F:d8 K "is_direction" "is_direction" QU f fd)(S:Iq P w K mg a as):aX P w K mg base bV 1 f fd .bv (Lh as):=by
 refine F.ok1 US ?_;rintro cdv A outer st H _ Q E b c ⟨x,rfl,k⟩;exact⟨_,(ap<|aJ<|nM<|Ys S.tab .s S.yc<|pv 0),_,rfl,aK x,rfl,k⟩
theorem Q8{f a:Addr}{fd:FuncData}{as:.B}(F:d8 K "direction_of" "direction_of" QV f fd)(S:Iq P w K mg a as):aX P w K mg base bV 1 f fd .bv (Li as):=by
 refine F.ok1 UT ?_;rintro cdv A outer st H _ Q E b c ⟨x,v,rfl,e,k⟩;exact⟨_,(ap<|aJ<|AZ S.tab .s S.yc .j .aX),_,rfl,aK x,v,rfl,e,k⟩
theorem YH{f:Addr}{fd:FuncData}(F:d8 K "opposite" "opposite" YG f fd)(B:nG mg):aX P w K mg base bV 1 f fd ["direction"] (Lj K):=by
 refine F.ok1 WH ?_;rintro cdv A outer st H _ Q E q r ⟨d,a,b,c,rfl,j,k⟩;refine⟨_,(ap<|aJ<|dD nO .s B.tuple A0<|ae (gH rfl WH.nd (Dz<|pv 0) ((bO (by(show iP UU (ao YG) _ _=true);decide +kernel))) (own:=[("step",1)]) (λs H C cl l=>bX 1) (λs H C cl l=>eB) λs H C cl l=>KB DA<|pv 1) ak),?_⟩;refine⟨_,rfl,d,rfl,⟨_,j⟩,λD n=>eN (λi=>([a,b,c]:.ak)[i]?.bind λz=>some<|V.int<|-z) (w9 j) n .dG ?_ ?_⟩
 ·rintro i y m u v hi e g o pn;obtain⟨z,p,rfl⟩:∃z:Int,([a,b,c]:.ak)[i]?=some z/\y=.int z:=by
   match i,e with
   |0,e=>exact⟨a,rfl,(aI e).symm⟩
   |1,e=>exact⟨b,rfl,(aI e).symm⟩
   |2,e=>exact⟨c,rfl,(aI e).symm⟩
  exact⟨rfl,yes ⟨_,rfl,_,rfl,o _ _ .ax (by rw[p];rfl)⟩⟩
 ·intro m g h;have h:m D=some (.lst [.int<|-a,.int<|-b,.int<|-c]):=h;exact⟨D,_,rfl,.inl ⟨bh.of h,λt ht=>k _ t ai (g.free ht)<|g.trans<|Same.new ht⟩⟩
theorem UV{f:Addr}{fd:FuncData}(F:d8 K "axes" "axes" QW f fd)(B:nG mg):aX P w K mg base bV 1 f fd ["direction"] (D1 K):=by
 refine F.ok1 QZ ?_;rintro cdv A outer st H _ Q E t u ⟨d,a,b,c,rfl,h,k⟩;refine⟨_,(ap<|aJ<|df (PX rfl) .s B.sum QE<|ae (gH rfl QZ.nd (Dz<|pv 0) ((bO (by(show iP UU (ao QW) _ _=true);decide +kernel))) (own:=[("step",1)]) (λs H C cl j=>bX 1) (λs H C cl j=>eB) λs H C cl j=>df vC .s B.abs DS<|ae .o ak) ak),?_⟩;have m:∀z:Int,(if z<0 then -z else z)=(z.natAbs:Int):=λz=>by split<;>omega
 refine⟨_,rfl,d,rfl,⟨_,h⟩,λD n=>eN (λi=>([a,b,c]:.ak)[i]?.bind λz=>some<|V.int (z.natAbs:Int)) (w9 h) n .dG ?_ ?_⟩
 ·rintro i y o v x hi g l p pn;obtain⟨z,q,rfl⟩:∃z:Int,([a,b,c]:.ak)[i]?=some z/\y=.int z:=by
   match i,g with
   |0,g=>exact⟨a,rfl,(aI g).symm⟩
   |1,g=>exact⟨b,rfl,(aI g).symm⟩
   |2,g=>exact⟨c,rfl,(aI g).symm⟩
  refine⟨rfl,yes ⟨_,rfl,z,rfl,?_⟩⟩;rw[m];exact p _ _ .ax (by rw[q];rfl)
 ·intro o l r;refine⟨D,[(a.natAbs:Int),(b.natAbs:Int),(c.natAbs:Int)],rfl,bh.of r,?_⟩;have e:([(a.natAbs:Int),(b.natAbs:Int),(c.natAbs:Int)]:.ak).sum=(a.natAbs:Int)+b.natAbs+c.natAbs:=.bq
  rw[e];exact k _ l
abbrev WK:Stmt:=top 25
abbrev Q9:Stmt:=top 26
abbrev Ra:Stmt:=top 27
abbrev WL:Stmt:=top 28
abbrev WM:Stmt:=top 29
theorem YI:az .bY .bY (ao WK):=fscope
theorem UW:az .bY .bY (ao Q9):=fscope
theorem UX:az ["length","number"] ["length","number"] (ao Ra):=fscope
theorem YJ:az ["length"] ["length"] (ao WL):=fscope
theorem YK:az ["one","other","gap"] .bY (ao WM):=fscope
def D3(H:Hp)(Q:VK)(x:bz):Prop:=∀t,H t=none->Q (.ref t) (upd H t<|.tup [.int x.p,.int x.q])
def Ba(K:ah)(f:bz->bz->bz):Sp:=λvs H Q _=>∃a b x y,vs=[.E,.aM]/\eO K H a x/\eO K H b y/\D3 H Q (f x y)
def Lk(K:ah):Sp:=λvs H Q _=>∃a n x,vs=[.E,.int n]/\eO K H a x/\(-(2 ^ 64)<n/\n<2 ^ 64)/\D3 H Q (x.times n)
def Rb(K:ah):Sp:=λvs H Q _=>∃a x,vs=[.E]/\eO K H a x/\D3 H Q ⟨2*x.q,x.p⟩
def D4(K:ah):Sp:=λvs H Q _=>∃a b x y,vs=[.E,.aM]/\eO K H a x/\eO K H b y/\Small x/\Small y/\∀H',.Q->Q (.bl<|decide (x.order y<0)) H'
theorem eO.new{K:ah}{H:Hp}{t:Addr}{x:bz}:eO K (upd H t<|.tup [.int x.p,.int x.q]) t x:=gm.of ai
theorem UY{f:Addr}{fd:FuncData}(F:d8 K "plus" "plus" WK f fd):aX P w K mg base bV 1 f fd .bY (Ba K GG):=by
 refine F.ok1 YI ?_;rintro cdv A outer st H _ Q E e g ⟨a,b,x,y,rfl,c,d,k⟩;refine⟨_,(ap<|aJ<|kq<|ae (dm mK (hG .j aD)<|hG .o aD)<|ae (dm mK (hG .j aD)<|hG .o aD) ak),?_⟩;exact .fQ
theorem Rc{f:Addr}{fd:FuncData}(F:d8 K "minus" "minus" Q9 f fd):aX P w K mg base bV 1 f fd .bY (Ba K zX):=by
 refine F.ok1 UW ?_;rintro cdv A outer st H _ Q E e g ⟨a,b,x,y,rfl,c,d,k⟩;refine⟨_,(ap<|aJ<|kq<|ae (dm pN (hG .j aD)<|hG .o aD)<|ae (dm pN (hG .j aD)<|hG .o aD) ak),?_⟩;exact .fQ
theorem Re{f:Addr}{fd:FuncData}(F:d8 K "times" "times" Ra f fd):aX P w K mg base bV 1 f fd ["length","number"] (Lk K):=by
 refine F.ok1 UX ?_;rintro cdv A outer st H _ Q E d e ⟨a,n,x,rfl,b,c,k⟩;refine⟨_,(ap<|aJ<|kq<|ae (dm jV (hG .j aD)<|pv 1)<|ae (dm jV (hG .j aD)<|pv 1) ak),?_⟩;refine⟨_,rfl,a,_,_,_,rfl,rfl,b,rfl,_,rfl,_,_,rfl,rfl,.inr c,_,rfl,a,_,_,_,rfl,rfl,b,rfl,_,rfl,_,_,rfl,rfl,.inr c,.b8,?_⟩;rw[show x.times n=⟨x.p*n,x.q*n⟩ by unfold Mu;rw[iV n,iV n]] at k;exact k
theorem UZ{f:Addr}{fd:FuncData}(F:d8 K "times_root" "times_root" WL f fd):aX P w K mg base bV 1 f fd ["length"] (Rb K):=by
 refine F.ok1 YJ ?_;rintro cdv A outer st H _ Q E c d ⟨a,x,rfl,b,k⟩;refine⟨_,(ap<|aJ<|kq<|ae (dm jV aD<|hG .j aD)<|ae (hG .j aD) ak),?_⟩;exact⟨_,rfl,a,_,_,_,rfl,rfl,b,rfl,_,_,rfl,rfl,.inl<|by decide,_,rfl,a,_,_,_,rfl,rfl,b,rfl,.b8,k⟩
theorem U0{f c:Addr}{fd d:FuncData}(F:d8 K "is_less" "is_less" WM f fd)(B:nG mg)(e:dQ P w K mg base bV 1 "minus" .bY (Ba K zX) c d):aX P w K mg base bV 2 f fd .bY (D4 K):=by
 refine F.ok1 YK ?_;rintro cdv A outer st H _ Q E h n ⟨a,b,x,y,rfl,i,j,⟨x1,x2⟩,⟨r,s⟩,k⟩;refine⟨_,(af (bu 2 (dG e h aP (ae .o (ae .j ak)))) (ap (aJ (fj Hn (dm mK (dm jV (hG .M aD) (df vC .s B.abs DS (ae (hG .M aD) ak)))
   (dm jV (dm jV aD (hG .M aD)) (df vC .s B.abs DS (ae (hG .M aD) ak)))) aD .aN)))),?_⟩
 refine⟨_,rfl,_,rfl,b,a,y,x,rfl,j,i,λt ht=>?_⟩;have g:gm K (upd H t<|.tup [.int (y.sub x).p,.int (y.sub x).q]) t [.int (y.sub x).p,.int (y.sub x).q]:=gm.of ai;have l:(y.sub x).p=y.p-x.p:=rfl;have m:(y.sub x).q=y.q-x.q:=rfl;refine⟨_,rfl,t,_,_,_,rfl,rfl,g,rfl,_,rfl,t,_,_,_,rfl,rfl,g,rfl,_,rfl,_,_,rfl,rfl,.inl (by rw[l];omega),_,rfl,t,_,_,_,rfl,rfl,g,rfl,_,_,rfl,rfl,.inl<|by decide,_,rfl,t,_,_,_,rfl,rfl,g,rfl,_,rfl,_,_,rfl,rfl,.inl (by rw[m];omega),_,_,rfl,rfl,_,_,rfl,rfl,?_⟩;have q:=k _<|Same.new (o:=.tup [.int (y.sub x).p,.int (y.sub x).q]) ht;rw[<-decide_eq_decide.mpr (Pb x y)] at q;exact q
theorem CY:∀d,d<18->(bD d).1.natAbs<=1/\(bD d).2.1.natAbs<=1/\(bD d).2.2.natAbs<=1:=.O
theorem Bb:∀d,d<18->(((bD d).1.natAbs:Int)+(bD d).2.1.natAbs+(bD d).2.2.natAbs=1↔mq (bD d) (bD d)=1):=.O
def axesOf(d:Nat):Int:=((bD d).1.natAbs:Int)+(bD d).2.1.natAbs+(bD d).2.2.natAbs
def ac1:.an:=[(.inl 1,.int 0),(.inl 0,.int 90),(.inl<|-1,.int 180)]
def ac2:.an:=[(.inl 1,.int 45),(.inl 0,.int 90),(.inl<|-1,.int 135)]
def ac3:.an:=[(.inl 2,.int 0),(.inl 1,.int 60),(.inl 0,.int 90),(.inl<|-1,.int 120),(.inl<|-2,.int 180)]
def tabOf(n:Int):.an:=if n=2 then ac1 else if n=3 then ac2 else ac3
theorem Rf:((a8 18).all λd=>(a8 18).all λe=>decide (cG (tabOf<|axesOf d+axesOf e) (.inl<|mq (bD d)<|bD e)=some (.int (bT d e:Nat))))=true:=.aq
theorem Rg{d e:Nat}(a:d<18)(b:e<18):cG (tabOf<|axesOf d+axesOf e) (.inl<|mq (bD d)<|bD e)=some (.int (bT d e:Nat)):=
 of_decide_eq_true (eC.mp (eC.mp Rf d<|dU.mpr a) e<|dU.mpr b)
theorem D5:∀d,d<18->fT d<18/\bD (fT d)=(-(bD d).1,-(bD d).2.1,-(bD d).2.2):=.aq
def Rh(K:ah):Sp:=λvs H Q _=>∃(a b:Addr) (d e:Nat),vs=[.E,.aM]/\iL K H a d/\iL K H b e/\d<18/\e<18/\∀H':Hp,.Q->Q (.int (bT d e:Nat)) H'
def Ll(K:ah):Sp:=λvs H Q _=>∃x y z:Int,vs=[.int x,.int y,.int z]/\∀(H':Hp) (t:Addr),gn K H' t ⟨gU x,gU y,gU z⟩->.Q->Q (.ref t) H'
def Ri(K:ah):Sp:=λvs H Q _=>∃(a b:Addr) (p:eM) (d:Nat) (n:Int),vs=[.E,.aM,.int n]/\gn K H a p/\iL K H b d/\d<18/\∀(H':Hp) (t:Addr),gn K H' t (p.go d n)->.Q->Q (.ref t) H'
theorem sH{a b c:Int}{i:Nat}{y:V}(h:([V.int a,V.int b,V.int c]:.r)[i]?=.ao):∃z:Int,([a,b,c]:.ak)[i]?=some z/\y=.int z:=by
 match i,h with
 |0,h=>exact⟨a,rfl,(aI h).symm⟩
 |1,h=>exact⟨b,rfl,(aI h).symm⟩
 |2,h=>exact⟨c,rfl,(aI h).symm⟩
theorem Bc{i j:Int}(h:j.natAbs<=1):T4 i j:=.inr ⟨ .h,.h⟩
theorem U1{f M a2 N O:Addr}{fd R:FuncData}(F:d8 K "turn" "turn" QX f fd)(B:nG mg)(T:QT P w K mg a2 N O)(t:dQ P w K mg base bV 1 "axes" ["direction"] (D1 K) M R):aX P w K mg base bV 2 f fd .bY (Rh K):=by
 refine F.ok1 Q0 ?_;rintro cdv A outer st H _ Q E G nd ⟨a,b,d,e,rfl,m,o,ld,le,k⟩;refine⟨_,(af (bu 2 (df (PX rfl) .s B.sum QE (ae (gH rfl Q0.nd (Yk true true .s B.zip (ae .j .cw)) ((bO (by(show iP WI (ao QX) _ _=true);decide +kernel))) (own:=[("a",4),("b",5)]) (λs H C cl I=>nH (K:=K) (n:=2) rfl rfl (eG (bX 4) (eG (bX 5) lG))) (λs H C cl I=>eB)
   (λs H C cl I=>dm jV .ay (pv 5))) ak))) (af (bu 3 (dm mK (dG t G aP (ae .j ak)) (dG t G aP .cw))) (af (cx (a9 fo .aj aD .aN) (ap (aJ (AZ T.t2 .s T.mg2 .M .aX))) bE) (af (cx (a9 fo .aj aD .aN) (ap (aJ (AZ T.t3 .s T.mg3 .M .aX))) bE) (ap (aJ (AZ T.t4 .s T.mg4 .M .aX))))))),?_⟩
 obtain⟨S,U,W⟩:=CY e le;have g:=Rg ld le;generalize J:bD d=u at *;generalize hv:bD e=v at *;have m:gm K H a [.int u.1,.int u.2.1,.int u.2.2]:=by rw[<-J];exact m
 have o:gm K H b [.int v.1,.int v.2.1,.int v.2.2]:=by rw[<-hv];exact o
 have X:axesOf d=(u.1.natAbs:Int)+u.2.1.natAbs+u.2.2.natAbs:=by unfold axesOf;rw[J]
 have Y:axesOf e=(v.1.natAbs:Int)+v.2.1.natAbs+v.2.2.natAbs:=by unfold axesOf;rw[hv]
 refine⟨_,rfl,_,rfl,a,b,_,_,rfl,m,o,λD Z=>eN (λi=>([u.1*v.1,u.2.1*v.2.1,u.2.2*v.2.2]:.ak)[i]?.bind λz=>some<|V.int z) (xb (t1:=true) (t2:=true) m o) Z .dG ?_ ?_⟩
 ·rintro i y H5 Py Pn hi ⟨T',x,y',rfl,hT,hx,hy⟩ q py pn;have hi:i<3:=hi;obtain⟨z1,r,rfl⟩:=sH hx;obtain⟨z2,p,rfl⟩:=sH hy;refine⟨T',_,rfl,gm.of hT,rfl,_,_,rfl,_,_,rfl,rfl,rfl,yes ⟨_,rfl,_,rfl,_,_,rfl,rfl,?_,?_⟩⟩
  ·refine Bc ?_;match i,hi,p with
   |0,_,h=>cases h;exact S
   |1,_,h=>cases h;exact U
   |2,_,h=>cases h;exact W
  ·refine py _ _ .ax ?_;match i,hi,r,p with
   |0,_,h1,h2=>cases h1;cases h2;rfl
   |1,_,h1,h2=>cases h1;cases h2;rfl
   |2,_,h1,h2=>cases h1;cases h2;rfl
 ·intro H5 q hX;refine⟨D,[u.1*v.1,u.2.1*v.2.1,u.2.2*v.2.2],rfl,bh.of hX,?_⟩;have es:([u.1*v.1,u.2.1*v.2.1,u.2.2*v.2.2]:.ak).sum=mq u v:=by unfold mq;simp
  rw[es];refine⟨_,rfl,a,_,_,_,rfl,Same.tup q m,λH6 L=>?_⟩;refine⟨_,rfl,b,_,_,_,rfl,Same.tup (q.trans L) o,λH7 s7=>?_⟩;refine⟨_,_,rfl,rfl,?_⟩;rw[<-X,<-Y];have j:=(q.trans L).trans s7;refine⟨_,rfl,rfl,_,rfl,?_⟩;refine c7 (λc=>?_) λc=>?_
  ·have c:axesOf d+axesOf e=2:=V.int.inj<|of_decide_eq_true c;exact⟨_,rfl,.inl _,_,rfl,(by rw[c] at g;exact g),k _ j⟩
  have c:axesOf d+axesOf e≠2:=λz=>c<|decide_eq_true<|congrArg V.int z;refine⟨_,rfl,rfl,_,rfl,?_⟩;refine c7 (λl=>?_) λl=>?_
  ·have l:axesOf d+axesOf e=3:=V.int.inj<|of_decide_eq_true l;exact⟨_,rfl,.inl _,_,rfl,(by rw[l] at g;exact g),k _ j⟩
  have l:axesOf d+axesOf e≠3:=λz=>l<|decide_eq_true<|congrArg V.int z;exact⟨_,rfl,.inl _,_,rfl,(by unfold tabOf at g;rw[.ag,if_neg l] at g;exact g),k _ j⟩
theorem Rj{f:Addr}{fd:FuncData}(F:d8 K "place_at" "place_at" JV f fd)(B:nG mg){tk:Tok}(o:mg "UNITS_ALONG_AN_AXIS"=some (.int 2000 tk)):aX P w K mg base bV 1 f fd ["x","y","z"] (Ll K):=by
 refine F.ok1 Lg ?_;rintro cdv A outer st H _ Q E S U ⟨x,y,z,rfl,k⟩;refine⟨_,(ap (aJ (dD nO .s B.tuple A0 (ae (gH rfl Lg.nd (Dz (kq (ae .j (ae .o .cG)))) ((bO (by(show iP Q5 (ao JV) _ _=true);decide +kernel))) (own:=[("number",3)]) (λs H C cl h=>bX 3) (λs H C cl h=>eB)
  (λs H C cl h=>kq (ae (dm jV (aR .s o (v:=.int 2000) .Y) .aj) (ae aD ak)))) ak)))),?_⟩
 refine⟨_,rfl,_,rfl,_,rfl,.dG,λtA e=>?_⟩;have s1:Same H (upd H tA<|.tup [.int x,.int y,.int z]):=Same.new e;have a:gm K (upd H tA<|.tup [.int x,.int y,.int z]) tA [.int x,.int y,.int z]:=gm.of ai;refine⟨tA,rfl,⟨_,a⟩,λD p=>QB (λi q b=>∃T,q=V.ref T/\∃n,([x,y,z]:.ak)[i]?=some n/\gm K b T [.int<|2000*n,.int 0]) ?_ (w9 a) p .dG ?_ ?_⟩
 ·rintro i y b W xs r u ⟨T,rfl,j,G,a⟩;exact⟨T,rfl,j,G,gm.off r u a⟩
 ·rintro i y b X hi I l J;obtain⟨n,L,rfl⟩:=sH I;refine⟨rfl,_,rfl,_,_,rfl,rfl,.inl ⟨ .O,.O⟩,.b8,λT a=>?_⟩;exact J _ _ (Same.new a) ⟨T,rfl,n,L,gm.of ai⟩
 ·intro b ys l M g c;match ys,g,c with
  |[y0,y1,y2],_,c=>
   obtain⟨m,rfl,Y,e0,N⟩:=c 0 _ rfl;obtain⟨t1,rfl,Z,O,h1⟩:=c 1 _ rfl;obtain⟨t2,rfl,n2,R,h2⟩:=c 2 _ rfl;cases e0;cases O;cases R;refine⟨D,_,rfl,.inl ⟨bh.of M,λt ht=>?_⟩⟩;have d:Same b (upd b t<|.tup [V.ref m,V.ref t1,V.ref t2]):=Same.new ht;exact k _ t ⟨m,t1,t2,gm.of ai,Same.tup d N,Same.tup d h1,Same.tup d h2⟩<|(s1.trans l).trans d
theorem U2{f Z:Addr}{fd eX:FuncData}(F:d8 K "gone" "gone" QY f fd)(B:nG mg){tk tk2:Tok}(hU:mg "UNITS_ALONG_AN_AXIS"=some (.int 2000 tk))(hV:mg "UNITS_ASLANT"=some (.int 1000 tk2))(GA:dQ P w K mg base bV 1 "axes" ["direction"] (D1 K) Z eX):
  aX P w K mg base bV 2 f fd ["place","direction","millimetres"] (Ri K):=by
 refine F.ok1 Q6 ?_;rintro cdv A outer st H _ Q E hr nd ⟨a,b,p,d,n,rfl,hp,hd,ld,k⟩;refine⟨_,(af (bu 3 aD) (af (bu 4 aD) (af (cx (a9 fo (dG GA hr aP .cw) aD .aN)
   (ap<|bu 3<|dm jV (aR .s hU (v:=.int 2000) .Y)<|pv 2)
   (ap (bu 4 (dm jV (aR .s hV (v:=.int 1000) .Y) .M)))) (ap (aJ (dD nO .s B.tuple A0 (ae (gH rfl Q6.nd (Yk true true .s B.zip (ae .j .cw)) ((bO (by(show iP WJ (ao QY) _ _=true);decide +kernel))) (own:=[("length",5),("step",6)]) (λs H C cl fp=>nH (K:=K) (n:=2) rfl rfl (eG (bX 5) (eG (bX 6) lG))) (λs H C cl fp=>eB)
   (λs H C cl fp=>kq (ae (dm mK (nz (r:=Uc K) Jy (pv 5) aD .aX) (dm jV .aj (pv 6))) (ae (dm mK (nz (r:=Uc K) Jy (pv 5) aD .aX) (dm jV .ay (pv 6))) ak)))) ak))))))),?_⟩
 obtain⟨w1,w2,w3⟩:=CY d ld;have wa:=Bb d ld;have go:p.go d n=⟨p.x.add<|(qN d n).times (bD d).1,p.y.add<|(qN d n).times (bD d).2.1,p.z.add<|(qN d n).times (bD d).2.2⟩:=rfl;have st:qN d n=if mq (bD d) (bD d)=1 then⟨2000*n,0⟩ else⟨0,1000*n⟩:=rfl
 have I:gm K H b [.int (bD d).1,.int (bD d).2.1,.int (bD d).2.2]:=hd;refine AV<|AV ?_;refine AU (λσ H1=>∃e g:Int,qN d n=⟨e,g⟩/\σ=[some<|.ref a,some<|.ref b,some<|.int n,some<|.int e,some<|.int g,none,none]/\Same H H1) (λR J=>?_) ?_
 ·refine⟨_,rfl,b,_,_,_,rfl,I,λH1 s1=>?_⟩;refine⟨rfl,_,rfl,?_⟩;refine c7 (λc=>?_) λc=>?_
  ·have c:=V.int.inj<|of_decide_eq_true c;refine⟨_,rfl,_,_,rfl,rfl,.inl ⟨ .O,.O⟩,J _ _ ⟨2000*n,0,?_,rfl,s1⟩⟩;rw[st,if_pos<|wa.mp c]
  ·have c:¬_=(1:Int):=λz=>c<|decide_eq_true<|congrArg V.int z;refine⟨_,rfl,_,_,rfl,rfl,.inl ⟨ .O,.O⟩,J _ _ ⟨0,1000*n,?_,rfl,s1⟩⟩;rw[st,if_neg λz=>c<|wa.mpr z]
 ·rintro σ H1 ⟨e,g,L,rfl,s1⟩;rw[L] at go;clear st wa L;generalize hu:bD d=u at *;obtain⟨xa,ya,za,h0,h1,h2,h3⟩:=hp.same s1;have M:=Same.tup s1 I;refine⟨_,rfl,_,rfl,a,b,_,_,rfl,h0,M,λD hD=>QB (λi y' o=>∃T,y'=V.ref T/\∃l k,([p.x,p.y,p.z]:List bz)[i]?=some l/\([u.1,u.2.1,u.2.2]:.ak)[i]?=some k/\gm K o T [.int<|l.p+e*k,.int<|l.q+g*k]) ?_ (xb (t1:=true) (t2:=true) h0 M) hD .dG ?_ ?_⟩
  ·rintro i y o H6 xs m u ⟨T,rfl,l,k',hl,hk,N⟩;exact⟨T,rfl,l,k',hl,hk,gm.off m u N⟩
  ·rintro i y o Py hi ⟨T',x,y',rfl,N,m,hy⟩ O py;obtain⟨sp,S,rfl⟩:=sH hy;obtain⟨U,l,rfl,hl,W⟩:∃U l,x=V.ref U/\([p.x,p.y,p.z]:List bz)[i]?=some l/\eO K o U l:=by
    match i,m with
    |0,m=>exact⟨xa,_,(aI m).symm,rfl,h1.same O⟩
    |1,m=>exact⟨ya,_,(aI m).symm,rfl,h2.same O⟩
    |2,m=>exact⟨za,_,(aI m).symm,rfl,h3.same O⟩
   have sm:sp.natAbs<=1:=by
    match i,S with
    |0,h=>cases h;exact w1
    |1,h=>cases h;exact w2
    |2,h=>cases h;exact w3
   have g0:AA ([.int l.p,.int l.q]:.r) 0=some (.int l.p):=c6 (j:=0) rfl;have g1:AA ([.int l.p,.int l.q]:.r) 1=some (.int l.q):=c6 (j:=1) rfl;refine⟨T',_,rfl,gm.of N,rfl,_,_,rfl,_,_,rfl,rfl,rfl,?_⟩;refine⟨_,rfl,U,_,0,_,rfl,rfl,W,g0,_,rfl,_,rfl,_,_,rfl,rfl,Bc sm,_,_,rfl,rfl,_,rfl,U,_,1,_,rfl,rfl,W,g1,_,rfl,_,rfl,_,_,rfl,rfl,Bc sm,_,_,rfl,rfl,.b8,λT N=>?_⟩;exact py _ _ (Same.new N) ⟨T,rfl,l,sp,hl,S,gm.of ai⟩
  ·intro o ys O hX G X;have G:ys.length=3:=G;match ys,G,X with
   |[y0,y1,y2],_,X=>
    obtain⟨t0,rfl,l0,k0,e0,f0,q0⟩:=X 0 _ rfl;obtain⟨t1,rfl,l1,k1,e1,Z,q1⟩:=X 1 _ rfl;obtain⟨t2,rfl,l2,k2,e2,f2,q2⟩:=X 2 _ rfl;cases e0;cases e1;cases e2;cases f0;cases Z;cases f2;refine⟨D,_,rfl,.inl ⟨bh.of hX,λt ht=>?_⟩⟩;have Y:Same o (upd o t<|.tup [V.ref t0,V.ref t1,V.ref t2]):=Same.new ht;refine k _ t ?_<|(s1.trans O).trans Y;rw[go];have cm:∀(l:bz) (j:Int),([.int<|l.p+e*j,.int<|l.q+g*j]:.r)=[.int (l.add<|(⟨e,g⟩:bz).times j).p,.int (l.add<|(⟨e,g⟩:bz).times j).q]:=λl j=>by
     show _=[V.int<|l.p+j*e,V.int<|l.q+j*g];rw[iV e,iV g]
    refine⟨t0,t1,t2,gm.of ai,?_,?_,?_⟩
    ·have:=Same.tup Y q0;rw[cm] at this;exact this
    ·have:=Same.tup Y q1;rw[cm] at this;exact this
    ·have:=Same.tup Y q2;rw[cm] at this;exact this
end
open TL
abbrev T(l:.e):Str:=⟨l.toArray⟩
theorem tN(l:.e):tl (T l)=l:=by simp[tl]
theorem YL(x:Str):T (tl x)=x:=by cases x;simp[tl]
theorem Ir{a b:.e}(h:T a=T b):a=b:=by rw[<-tN a,<-tN b,h]
theorem iD(l:.e):(T l).length=l.length:=by show l.toArray.size=_;simp
def Jg:.e:=[48,49,50,51,52,53,54,55,56,57]
def nms:.e:=[97,98,99,100,101,102,103,104,105,106,107,108,109,110,111,112,113,114,115,116,117,118,119,120,121,122,48,49,50,51,52,53,54,55,56,57]
def tO:.e:=nms++[45,32,10]
def Iu(n:Nat):Nat:=if n∈tO then n else 63
structure Nz(mg:.aa):Prop where
 dg:∃t,mg "DIGITS"=some (.str (T Jg) t)
 nm:∃t,mg "NAME_SIGNS"=some (.str (T nms) t)
 kn:∃t,mg "KNOWN_SIGNS"=some (.str (T tO) t)
 un:∃t,mg "UNKNOWN_SIGN"=some (.str (T [63]) t)
 md:∃t,mg "MOST_DIGITS"=some (.int 6 t)
 ln:∃t,mg "LONGEST_NAME"=some (.int 16 t)
 lr:∃t,mg "LARGEST_RADIUS"=some (.int 2000 t)
 lp:∃t,mg "LONGEST_PIPE"=some (.int 100000 t)
 fa:∃t,mg "FARTHEST"=some (.int 100000 t)
abbrev Rk:Stmt:=top 61
abbrev WN:.L:=["numbers","signs","sign","number"]
theorem Rl:az WN ["numbers"] (ao Rk):=fscope
abbrev JW:Stmt:=top 62
abbrev Rm:.L:=["word","signs","sign"]
theorem Lm:az Rm ["word","signs"] (ao JW):=fscope
abbrev Rn:Stmt:=top 63
theorem U3:az .bv .bv (ao Rn):=fscope
abbrev Ro:Stmt:=top 64
theorem U4:az .bv .bv (ao Ro):=fscope
abbrev Ln:Stmt:=top 65
theorem Rp:az .bv .bv (ao Ln):=fscope
def nR(l:.e):.r:=(a8 256).map λn=>V.str<|T [if n∈l then n else 63]
theorem JX{l:.e}{c:Nat}(h:c<256):(nR l).set c (.str<|T [c])=nR (l++[c]):=by
 unfold nR;apply uw;intro i;by_cases e:c=i
 ·subst e;rw[gI<|by simpa using h,b8,yJ h];simp
 ·rw[fQ e,b8,b8];by_cases hi:i<256
  ·rw[yJ hi];simp[aF e]
  ·rw[fu<|by simpa using hi];rfl
theorem YM(n:Nat):(bq n [V.str<|T [63]]).flatten=(a8 n).map λ_=>V.str (T [63]):=by
 induction n with
 |zero=>rfl
 |succ n ih=>rw[List.replicate_succ',List.flatten_append,ih,oh,fB];rfl
theorem Rq:∀c,c∈tO->c<256:=.O
theorem CZ:∀l:.e,vK [] (l.map λc=>[c])=l
 |[]=>rfl
 |[a]=>rfl
 |a::b::r=>by
  show [a]++([]++vK [] ((b::r).map λc=>[c]))=_;rw[CZ (b::r)];rfl
theorem JY(l:.e):kU oK (l.map λc=>T [c])=T l:=by
 rw[<-YL (kU oK<|l.map λc=>T [c]),join_eq,yq];congr 1;have:(l.map λc=>T [c]).map tl=l.map λc=>[c]:=by rw[c8];rfl
 rw[this,show tl oK=[] from rfl,CZ]
def Rr(K:ah):Sp:=λvs H Q _=>∃(nA:Addr) (ns:.e),vs=[.ref nA]/\bh K H nA (aW ns)/\(∀n,n∈ns->n<256)/\ns.length<=65536/\∀H',.Q->Q (.str<|T<|ns.map Iu) H'
def D6:Sp:=λvs H Q _=>∃(x z:Str),vs=[.str x,.str z]/\x.length<=sizeLine/\∀H',.Q->Q (.bl<|(tl x).all λc=>decide (c∈tl z)) H'
def cI(l:.e):Bool:=decide (1<=l.length)&&(decide (l.length<=6)&&((l.all λc=>decide (c∈Jg))&&(decide (l=[48])||!decide (l.head?=some 48))))
def dI(l:.e):Bool:=if l.head?=some 45 then cI l.tail&&!decide (l=[45,48]) else cI l
def ic(l:.e):Bool:=decide (1<=l.length)&&(decide (l.length<=16)&&l.all λc=>decide (c∈nms))
def tP(g:.e->Bool):Sp:=λvs H Q _=>∃l:.e,vs=[.str<|T l]/\l.length<=65536/\∀H',.Q->Q (.bl<|g l) H'
section
variable{P:Program}{w:World}{K:ah}{mg:.aa}{base:Heap}
theorem U5{f:Addr}{fd:FuncData}(F:d8 K "text_of" "text_of" Rk f fd)(B:nG mg)(X:Nz mg):aX P w K mg base bV 1 f fd ["numbers"] (Rr K):=by
 refine F.ok1 Rl ?_;rintro cdv A outer st H _ Q E hr nd ⟨nA,ns,rfl,q,g,O,k⟩;obtain⟨tk,hk⟩:=X.kn;obtain⟨tu,R⟩:=X.un;refine⟨_,(af (bu 1<|dm AF (eW<|ae (aR .s R (v:=.str<|T [63]) .Y) ak) aD)<|af (iO dc rfl (Qa<|aR .s hk (v:=.str<|T tO) .Y) (bX 2)<|ap<|Dx .M<|Dv .o (df PB .s B.ord Yt<|ae .M ak) set_list)<|ap<|aJ<|Uw eU<|gH rfl Rl.nd (cB<|pv 0) ((bO (by(show iP WN (ao Rk) _ _=true);decide +kernel))) (own:=[("number",3)]) (λs H C cl J=>bX 3) (λs H C cl J=>eB) λs H C cl J=>nz (r:=AC K) kE .o .aj .aX),?_⟩;refine⟨ .cL,λt S=>?_⟩;have s1:Same H (upd H t<|.lst [.str<|T [63]]):=Same.new S;refine⟨t,256,_,rfl,rfl,ai,.O,.O,(by show 1*256<=sizeLine;decide),λb L=>?_⟩;have e0:(bq (256:Int).toNat [V.str<|T [63]]).flatten=nR []:=YM 256;rw[e0];have U:Same H (upd (upd H t<|.lst [.str<|T [63]]) b<|.lst<|nR []):=s1.trans<|Same.new L;have u:.aR:=s1.free L;refine⟨T tO,rfl,?_⟩;have M:(T tO).cps.size=tO.length:=iD tO;refine⟨λi m σ H'=>m=tO.length-i/\i<=tO.length/\∃l:.aw,σ=[some<|.ref nA,some<|.ref b,l,none]/\.Q/\H' b=some (.lst<|nR<|tO.take i),⟨_,rfl,bj _,none,rfl,U,ai⟩,?_⟩;rintro i m σ H3 ⟨rfl,hi,l,rfl,o,z⟩;by_cases d:i<tO.length
 ·refine .inr ⟨by show i<(T tO).cps.size;rw[M];exact d,λσ H'=>∃l:.aw,σ=[some<|.ref nA,some<|.ref b,l,none]/\.Q/\H' b=some (.lst<|nR<|tO.take<|i+1),λσ' H' h=>⟨_,.h,rfl,d,h⟩,λx H' y=>?_⟩;obtain⟨rfl,c,p,rfl⟩:=y;have p:tO[i]?=some c:=by simpa using p
  have cl:=Rq c<|bc p;refine⟨_,rfl,_,rfl,_,rfl,T [c],rfl,rfl,b,_,_,c,rfl,rfl,z,sG (by unfold nR;simpa using cl),?_⟩;refine⟨_,rfl,o.put u,?_⟩;rw[ai,take_snoc p,<-JX cl]
 ·have e:i=tO.length:=.h
  subst e;refine .inl ⟨by show(T tO).cps.size<=_;rw[M];exact aG _,?_⟩;rw[gr] at z;refine⟨ .Y,_,rfl,nA,rfl,⟨_,o.seq q⟩,λD W=>eN (λi=>ns[i]?.bind λn=>some<|V.str<|T [Iu n]) (cQ<|o.seq q) W ?_ ?_ ?_⟩
  ·rw[au,sizeLine_eq];omega
  ·rintro i y Y Py Pn hi Z G py pn;obtain⟨n,N,rfl⟩:=d9 Z;have nl:=g n<|bc N;have at_:(nR tO)[n]?=some (.str<|T [Iu n]):=by
    unfold nR Iu;rw[b8,yJ nl];rfl
   exact⟨rfl,yes ⟨_,rfl,_,rfl,b,_,_,_,rfl,rfl,bh.of<|G _ _ z,c6 (j:=n) at_,py _ _ .ax (by rw[N];rfl)⟩⟩
  ·intro Y G I;have e:(a8 (aW ns).length).filterMap (λi=>ns[i]?.bind λn=>some<|V.str<|T [Iu n])=((ns.map Iu).map λc=>T [c]).map V.str:=by
    rw[au,jr,c8,c8,<-nY];rfl
   rw[e] at I;refine⟨_,D,_,rfl,rfl,.inl<|bh.of I,?_,?_⟩
   ·have:(((ns.map Iu).map λc=>T [c]).map (·.length)).sum=ns.length:=by
     rw[c8,c8];clear e I k q g O;induction ns with
     |nil=>rfl
     |cons a r ih=>simp at ih ⊢;rw[ih];show 1+_=_;omega
    rw[this];show ns.length+_*0<=_;omega
   ·have:=JY<|ns.map Iu;rw[show (("":Str))=oK from rfl,this];exact k _<|o.trans G
theorem D7(l:.e):uY (T l) ("-":Str)=decide (l.head?=some 45):=by
 have h:("-":Str)=T [45]:=.aq
 unfold uY;rw[Oa,h,iD,iD,show(T [45]).cps.toList=[45] from rfl,show(T l).cps.toList=l from tN l];cases l with
 |nil=>rfl
 |cons a r=>
  by_cases e:a=45
  ·subst e;simp
  ·simp[e]
theorem U6(l:.e):Ql (T l) (some 1) none=T l.tail:=by
 unfold Ql;rw[iD,show(T l).cps.toList=l from tN l];have b:HT.lu l.length 0 (some 1)=min 1 l.length:=HT.vE l.length 0 1;rw[b,HT.Ay];cases l with
 |nil=>rfl
 |cons a r=>simp
theorem Rt{f:Addr}{fd:FuncData}(F:d8 K "all_among" "all_among" JW f fd)(B:nG mg):aX P w K mg base bV 1 f fd ["word","signs"] D6:=by
 refine F.ok1 Lm ?_;rintro cdv A outer st H _ Q E o p ⟨x,z,rfl,g,k⟩;refine⟨_,(ap<|aJ<|df (wV rfl) .s B.all xf<|ae (gH rfl Lm.nd (Qa<|pv 0) ((bO (by(show iP Rm (ao JW) _ _=true);decide +kernel))) (own:=[("sign",2)]) (λs H C cl a=>bX 2) (λs H C cl a=>eB) λs H C cl a=>fj JG .M .o rfl) ak),?_⟩;refine⟨_,rfl,x,rfl,λD h=>eN (λi=>(tl x)[i]?.bind λc=>some<|V.bl<|decide (c∈tl z)) Nt h g ?_ ?_⟩
 ·rintro i y j q r hi ⟨c,l,rfl⟩ b m pn;exact⟨rfl,yes ⟨_,rfl,_,rfl,c,z,rfl,rfl,m _ _ .ax (by rw[l];rfl)⟩⟩
 ·intro j b d;have e:(a8 x.cps.size).filterMap (λi=>(tl x)[i]?.bind λc=>some<|V.bl<|decide (c∈tl z))=((tl x).map λc=>decide (c∈tl z)).map V.bl:=by
   have:x.cps.size=(tl x).length:=by simp[tl]
   rw[this,jr,c8,<-nY];rfl
  rw[e] at d;refine⟨D,_,rfl,bh.of d,?_⟩;have n:((tl x).map λc=>decide (c∈tl z)).all id=(tl x).all λc=>decide (c∈tl z):=by rw[jG];rfl
  rw[n];exact k _ b
theorem Ru{f r:Addr}{fd t:FuncData}(F:d8 K "is_num" "is_num" Rn f fd)(B:nG mg)(X:Nz mg)(u:dQ P w K mg base bV 1 "all_among" ["word","signs"] D6 r t):aX P w K mg base bV 2 f fd .bv (tP cI):=by
 refine F.ok1 U3 ?_;rintro cdv A outer st H _ Q E x G ⟨l,rfl,I,k⟩;obtain⟨J,y⟩:=X.md;obtain⟨td,C⟩:=X.dg;have i:(T l).length<=sizeLine:=by rw[iD,sizeLine_eq];omega
 refine⟨_,(af (cx (Hm (a9 ny (df lH .s B.len mz (ae .j ak)) aD .aN) (Hm (a9 Hn (df lH .s B.len mz (ae .j ak)) (aR .s y (v:=.int 6) .Y) .aN)
   (Du (tF (ko (dG u x aP (ae .j (ae (aR .s C (v:=.str (T Jg)) .Y) ak)))))))).pt (ap (aJ mH)) bE) (ap (aJ (aaj (fj fo .j eU .aN) (wN (fj Ap (nz XX .j aD .aX) eU .aN)))))),?_⟩
 have n:cI l=false->∀H',.Q->Q (.bl false) H':=.eQ
 refine⟨_,rfl,T l,rfl,i,_,_,rfl,rfl,_,rfl,?_⟩;rw[iD];refine c7 (λc=>?_) λc=>?_
 ·have c:l.length<1:=.en
  refine ph<|n ?_ _<|Same.refl _;unfold cI;rw[decide_eq_false<|by omega];rfl
 have c:1<=l.length:=kN λz=>c .cM;refine⟨_,rfl,T l,rfl,i,_,_,rfl,rfl,_,rfl,?_⟩;rw[iD];refine c7 (λd=>?_) λd=>?_
 ·have d:6<l.length:=by have:=of_decide_eq_true d;omega
  refine ph<|n ?_ _<|Same.refl _;unfold cI;rw[decide_eq_true c,decide_eq_false<|show ¬l.length<=6 by omega];rfl
 have d:l.length<=6:=kN λz=>d .cM;refine⟨_,rfl,T l,T Jg,rfl,i,λH1 s1=>⟨_,rfl,?_⟩⟩;rw[tN,tN];refine c7 (λb=>?_) λb=>?_
 ·refine n ?_ _ s1;unfold cI;have b:(l.all λc=>decide (c∈Jg))=false:=by simpa using b
  rw[decide_eq_true c,decide_eq_true d,b];rfl
 have b:(l.all λc=>decide (c∈Jg))=true:=by
  cases e:(l.all λc=>decide (c∈Jg)) with
  |true=>rfl
  |false=>rw[e] at b;exact absurd rfl b
 have m:("0":Str)=T [48]:=.aq
 obtain⟨a,o⟩:∃a,l[0]?=some a:=⟨_,bo<|by omega⟩;have D:l.head?=some a:=by rw[<-o,List.head?_eq_getElem?]
 have h:cI l=(decide (l=[48])||!decide (a=48)):=by
  unfold cI;rw[decide_eq_true c,decide_eq_true d,b,D];simp
 refine⟨_,rfl,rfl,_,rfl,?_⟩;refine c7 (λg=>?_) λg=>?_
 ·have g:l=[48]:=Ir (by have:=V.str.inj<|of_decide_eq_true g;rw[m] at this;exact this);have e:cI l=true:=by rw[h,decide_eq_true g];rfl
  rw[<-e];exact k _ s1
 have g:l≠[48]:=λz=>g (decide_eq_true<|by rw[z,m]);refine⟨_,rfl,T l,0,a,rfl,rfl,i,c6 (j:=0) (by rw[show (T l).cps.toList=l from tN l];exact o),rfl,?_⟩;have e:cI l=!decide (V.str (T [a])=V.str ("0":Str)):=by
  rw[h,decide_eq_false g,qR];congr 1;by_cases z:a=48
  ·rw[decide_eq_true z,decide_eq_true<|by rw[z,m]]
  ·rw[decide_eq_false z,decide_eq_false λq=>z (by have:=V.str.inj q;rw[m] at this;simpa using Ir this)]
 have p:=k _ s1;rw[e] at p;exact p
theorem Rv{f h:Addr}{fd i:FuncData}(F:d8 K "is_int" "is_int" Ro f fd)(b:dQ P w K mg base bV 2 "is_num" .bv (tP cI) h i):aX P w K mg base bV 3 f fd .bv (tP dI):=by
 refine F.ok1 U4 ?_;rintro cdv A outer st H _ Q E g o ⟨l,rfl,j,k⟩;have m:(T l).length<=sizeLine:=by rw[iD,sizeLine_eq];omega
 refine⟨_,(af (cx (ko<|Qk PySem.F.slot_str_startswith PySem.F.type_str_startswith BL .j eU) (ap<|aJ<|wO (dG b g aP<|ae (vG Yc .j (vF aD) DF) ak)<|wN<|fj Ap .j eU<|a0 _) bE)<|ap<|aJ<|dG b g aP<|ae .j ak),?_⟩;refine⟨_,rfl,.Y,_,_,rfl,rfl,_,rfl,?_⟩;rw[D7];refine c7 (λc=>?_) λc=>?_
 ·have c:=of_decide_eq_true c;have e0:dI l=(cI l.tail&&!decide (l=[45,48])):=by unfold dI;rw[.au]
  refine⟨_,rfl,1,rfl,T l,rfl,m,l.tail,by rw[U6];rfl,by rw[List.length_tail];omega,λH1 s1=>⟨_,rfl,?_⟩⟩;have n:("-0":Str)=T [45,48]:=.aq
  refine c7 (λd=>?_) λd=>?_
  ·refine⟨_,rfl,rfl,?_⟩;have e:dI l=!decide (V.str (T l)=V.str ("-0":Str)):=by
    rw[e0,d,kQ,n];congr 1;by_cases z:l=[45,48]
    ·rw[decide_eq_true z,decide_eq_true<|by rw[z]]
    ·rw[decide_eq_false z,decide_eq_false λq=>z<|Ir<|V.str.inj q]
   have a:=k _ s1;rw[e] at a;exact a
  ·have e:dI l=false:=by
    cases z:cI l.tail with
    |true=>exact absurd z d
    |false=>rw[e0,z];rfl
   have a:=k _ s1;rw[e] at a;exact a
 ·have c:¬l.head?=some 45:=λz=>c<|decide_eq_true z;have e0:dI l=cI l:=by unfold dI;rw[.ag]
  refine⟨_,rfl,l,rfl,j,λH1 s1=>?_⟩;rw[<-e0];exact k _ s1
theorem NA{f g:Addr}{fd h:FuncData}(F:d8 K "is_name" "is_name" Ln f fd)(B:nG mg)(X:Nz mg)(i:dQ P w K mg base bV 1 "all_among" ["word","signs"] D6 g h):aX P w K mg base bV 2 f fd .bv (tP ic):=by
 refine F.ok1 Rp ?_;rintro cdv A outer st H _ Q E j o ⟨l,rfl,p,k⟩;obtain⟨q,m⟩:=X.ln;obtain⟨td,n⟩:=X.nm;have b:(T l).length<=sizeLine:=by rw[iD,sizeLine_eq];omega
 refine⟨_,(ap (aJ (wO (fj KF (df lH .s B.len mz (ae .j ak)) aD .aN) (wO (fj Ct (df lH .s B.len mz (ae .j ak)) (aR .s m (v:=.int 16) .Y) .aN)
   (wN (dG i j aP (ae .j (ae (aR .s n (v:=.str (T nms)) .Y) ak)))))))),?_⟩
 have d:ic l=false->∀H',.Q->Q (.bl false) H':=.eQ
 refine⟨_,rfl,T l,rfl,b,_,_,rfl,rfl,_,rfl,?_⟩;rw[iD];refine c7 (λc=>?_) λc=>?_
 ·have c:1<=l.length:=.en
  refine⟨_,rfl,T l,rfl,b,_,_,rfl,rfl,_,rfl,?_⟩;rw[iD];refine c7 (λa=>?_) λa=>?_
  ·have a:l.length<=16:=by have:=of_decide_eq_true a;omega
   refine⟨_,rfl,T l,T nms,rfl,b,λH1 s1=>?_⟩;rw[tN,tN];have e:ic l=l.all λc=>decide (c∈nms):=by unfold ic;rw[decide_eq_true c,decide_eq_true a];rfl
   rw[<-e];exact k _ s1
  ·refine d ?_ _<|Same.refl _;unfold ic;rw[decide_eq_true c,decide_eq_false λz=>a<|decide_eq_true<|by omega];rfl
 ·refine d ?_ _<|Same.refl _;unfold ic;rw[decide_eq_false λz=>c<|decide_eq_true<|by omega];rfl
def lN:.L:=["open","cap","drain","source"]
def sI:List (Str× .L):=[("size",["num"]),("from",["name","int","int","int"]),("at",["name"]),("go",["direction","num"]),("node",["name"]),("valve",["name"]),("to",["name"]),("end",["end"])]
def bI(x:Str):Option .L:=(sI.find? λp=>decide (p.1=x)).map (·.2)
def Be(a:.B):.an:=(sI.zip a).map λp=>((aK p.1.1:Key),V.ref p.2)
structure Rw(P:Program)(w:World)(K:ah)(mg:.aa)(a eA:Addr)(ts:.B):Prop where
 yc:mg "FORMS"=some .E
 tab:pB P w K a (Be ts)
 len:ts.length=8
 at_:∀(i:Nat) p t,sI[i]?=some p->ts[i]?=some t->KTup K t (p.2.map V.str)
 mgE:mg "ENDS"=some (.ref eA)
 ends:KTup K eA (lN.map V.str)
theorem Bf{K:ah}(x:Str):∀(tab:List (Str× .L)) (d:.B),d.length=tab.length->(∀(i:Nat) p t,tab[i]?=some p->d[i]?=some t->KTup K t (p.2.map V.str))->
  match (tab.find? λp=>decide (p.1=x)).map (·.2) with
  |none=>cG .e4 (aK x)=none
  |some fs=>∃t,cG .e4 (aK x)=some (.ref t)/\KTup K t (fs.map V.str)
 |[],d,_,_=>rfl
 |p::tab,[],h,_=>.b0
 |p::tab,t::d,h,hk=>by
  have f:=Bf x tab d .dR (λi q u a b=>hk (i+1) q u (by simpa using a)<|by simpa using b);rw[List.zip_cons_cons,bP];by_cases c:p.1=x
  ·rw[List.find?_cons_of_pos<|by simpa using c];exact⟨t,gD<|by rw[c],hk 0 p t rfl rfl⟩
  ·rw[jB<|by simpa using c];have e:cG (((aK p.1:Key),V.ref t)::.e4) (aK x)=cG .e4 (aK x):=fZ λz=>c<|qY z;rw[e];exact f
def bp(as:.B)(l:.e)(f:Str):Bool:=
 if f="num" then cI l else if f="int" then dI l else if f="name" then ic l else if f="direction" then(cG (nQ as)<|aK<|T l).isSome else decide (T l∈lN)
def bQ(as:.B)(a:.aV):Bool:=match bI (T<|a.headD []) with
 |none=>false
 |some fs=>decide (a.length=fs.length+1)&&(a.tail.zip fs).all λp=>bp as p.1 p.2
abbrev gF(ws:.aV):.r:=ws.map λl=>V.str<|T l
abbrev abd:Stmt:=top 66
theorem abe:az ["word","form"] ["word","form"] (ao abd):=fscope
abbrev Rx:Stmt:=top 67
abbrev WO:.L:=["words","forms","word","form"]
theorem Ry:az WO ["words"] (ao Rx):=fscope
def WQ(as:.B):Sp:=λvs H Q _=>∃(l:.e) (f:Str),vs=[.str<|T l,.str f]/\l.length<=65536/\∀H',.Q->Q (.bl<|bp as l f) H'
def Rz(K:ah)(as:.B):Sp:=λvs H Q _=>∃(wA:Addr) (a:.aV),vs=[.ref wA]/\bh K H wA (gF a)/\a≠[]/\a.length<=70000/\(∀l,l∈a->l.length<=65536)/\∀H',.Q->Q (.bl<|bQ as a) H'
theorem RA(x:Str):inV (.str x) (lN.map V.str)=decide (x∈lN):=by
 unfold inV;have:∀l:.L,(l.map V.str).any (λy=>PN y<|.str x)=decide (x∈l):=λl=>by
  induction l with
  |nil=>rfl
  |cons a r ih=>
   rw[bP,lZ,ih];have e:PN (.str a) (.str x)=decide (x=a):=by
    show decide _=_;by_cases c:x=a
    ·subst c;simp
    ·have c':¬a=x:=λz=>c z.symm;simp[c,c']
   rw[e];by_cases c:x=a
   ·simp[c]
   ·simp[c]
 exact this lN
theorem YN{f q r s t a m:Addr}{fd u n y B:FuncData}{as C:.B}(F:d8 K "has_form" "has_form" abd f fd)(p:Rw P w K mg a m C)(D:dQ P w K mg base bV 2 "is_num" .bv (tP cI) q u)(G:dQ P w K mg base bV 3 "is_int" .bv (tP dI) r n)
  (I:dQ P w K mg base bV 2 "is_name" .bv (tP ic) s y) (J:dQ P w K mg base bV 1 "is_direction" .bv (Lh as) t B):aX P w K mg base bV 4 f fd ["word","form"] (WQ as):=by
 refine F.ok1 abe ?_;rintro cdv A outer st H _ Q E i L ⟨l,x,rfl,o,k⟩;refine⟨_,(af (cx (a9 fo .o eU<|a0 _) (ap<|aJ<|dG D i aP<|ae .j ak) bE)<|af (cx (a9 fo .o eU<|a0 _) (ap<|aJ<|dG G i aP<|ae .j ak) bE)<|af (cx (a9 fo .o eU<|a0 _) (ap<|aJ<|dG I i aP<|ae .j ak) bE)<|af (cx (a9 fo .o eU<|a0 _) (ap<|aJ<|dG J i aP<|ae .j ak) bE)<|ap<|aJ<|fj wU .j (aR .s p.mgE (v:=.ref m) rfl) rfl),?_⟩;have j:∀{a b:Str},¬decide (V.str a=V.str b)=true->¬a=b:=λc z=>c<|decide_eq_true<|congrArg V.str z;refine⟨_,rfl,rfl,_,rfl,c7 (λc=>?_) λc=>?_⟩
 ·have c:=V.str.inj<|of_decide_eq_true c;refine⟨_,rfl,l,rfl,o,λH1 s1=>?_⟩;have h:=k _ s1;unfold bp at h;rw[.au] at h;exact h
 have c:=j c;refine⟨_,rfl,rfl,_,rfl,c7 (λd=>?_) λd=>?_⟩
 ·have d:=V.str.inj<|of_decide_eq_true d;refine⟨_,rfl,l,rfl,o,λH1 s1=>?_⟩;have h:=k _ s1;unfold bp at h;rw[.ag,if_pos d] at h;exact h
 have d:=j d;refine⟨_,rfl,rfl,_,rfl,c7 (λe=>?_) λe=>?_⟩
 ·have e:=V.str.inj<|of_decide_eq_true e;refine⟨_,rfl,l,rfl,o,λH1 s1=>?_⟩;have h:=k _ s1;unfold bp at h;rw[.ag,if_neg d,if_pos e] at h;exact h
 have e:=j e;refine⟨_,rfl,rfl,_,rfl,c7 (λg=>?_) λg=>?_⟩
 ·have g:=V.str.inj<|of_decide_eq_true g;refine⟨_,rfl,T l,rfl,?_⟩;have h:=k _<|Same.refl _;unfold bp at h;rw[.ag,if_neg d,.bo,if_pos g] at h;exact h
 have g:=j g;refine⟨_,rfl,m,_,rfl,.inr p.ends.at_,rfl,rfl,?_⟩;have h:=k _<|Same.refl _;unfold bp at h;rw[.ag,if_neg d,.bo,if_neg g,<-RA] at h;exact h
theorem NB(xs:.r):Az xs (some 1) none=xs.tail:=by
 unfold Az;rw[show HT.lu xs.length 0 (some 1)=min 1 xs.length from HT.vE xs.length 0 1,HT.Ay];cases xs with
 |nil=>rfl
 |cons a r=>simp
theorem RB(xs:.r):Az xs (some 2) none=xs.drop 2:=by
 unfold Az;rw[show HT.lu xs.length 0 (some 2)=min 2 xs.length from HT.vE xs.length 0 2,HT.Ay];by_cases c:2<=xs.length
 ·rw[zc c];rw[qC (by rw[iS];omega)]
 ·rw[Nat.min_eq_right<|by omega,Ez<|aG _,Ez<|by omega,List.take_nil]
theorem C0{a:.aV}{i:Nat}{l:.e}(h:a[i]?=some l):(gF a)[i]?=some (.str<|T l):=by rw[b8,h];rfl
theorem C3{α β:Type}(g:α->β->Bool):∀(as:.aP) (bs:List β),(a8<|min as.length bs.length).filterMap (λi=>as[i]?.bind λa=>bs[i]?.bind λb=>some<|V.bl<|g a b)=((as.zip bs).map λp=>g p.1 p.2).map V.bl
 |[],bs=>.m
 |a::as,[]=>.m
 |a::as,b::bs=>by
  have c:=C3 g as bs;have e:min (a::as).length (b::bs).length=min as.length bs.length+1:=by simp only[bB];omega
  rw[e,yF,lT,EN];exact congrArg (List.cons<|V.bl<|g a b) c
theorem U7{f f1 a eA:Addr}{fd eX:FuncData}{as v:.B}(F:d8 K "is_line" "is_line" Rx f fd)(B:nG mg)(u:Rw P w K mg a eA v)(GH:dQ P w K mg base bV 4 "has_form" ["word","form"] (WQ as) f1 eX):aX P w K mg base bV 6 f fd ["words"] (Rz K as):=by
 refine F.ok1 Ry ?_;rintro cdv A outer st H _ Q E hr nd ⟨wA,S,rfl,G,J,hl,L,k⟩;refine⟨_,(af (cx (iA (Nu u.tab .s u.yc (bG .j aD))) (ap (aJ mH)) bE) (af (bu 1 (AZ u.tab .s u.yc (bG .j aD) .aX)) (af (cx (a9 Ap (dz B.len .j) (dm mK (dz B.len .o) aD) .aN) (ap (aJ mH)) bE) (ap (aJ (df (wV rfl) .s B.all xf (ae (gH rfl Ry.nd (Yk false true .s B.zip (ae (vG DJ .j (vF aD) DF) .cw)) ((bO (by(show iP WO (ao Rx) _ _=true);decide +kernel))) (own:=[("word",2),("form",3)]) (λs H C cl U=>nH (K:=K) (n:=2) rfl rfl (eG (bX 2) (eG (bX 3) lG))) (λs H C cl U=>eB)
   (λs H C cl U=>WA GH hr aP (ae .M (ae .aj ak)))) ak))))))),?_⟩
 obtain⟨b,d,rfl⟩:∃a r,S=a::r:=by
  cases S with
  |nil=>exact absurd rfl J
  |cons a r=>exact⟨a,r,rfl⟩
 have M:AA (gF (b::d)) 0=some (.str<|T b):=c6 (j:=0) rfl;have h:=Bf (K:=K) (T b) sI v (by rw[u.len];rfl) u.at_;have g:bQ as (b::d)=match bI (T b) with
  |none=>false
  |some fs=>decide ((b::d).length=fs.length+1)&&(d.zip fs).all λp=>bp as p.1 p.2:=rfl
 have W:bQ as (b::d)=false->∀H',.Q->Q (.bl false) H':=.eQ
 have h:match bI (T b) with
  |none=>cG (Be v) (aK<|T b)=none
  |some fs=>∃t,cG (Be v) (aK<|T b)=some (.ref t)/\KTup K t (fs.map V.str):=h
 cases X:bI (T b) with
 |none=>
  rw[X] at h g;refine⟨_,rfl,wA,_,0,_,rfl,rfl,G,M,aK<|T b,rfl,_,rfl,?_⟩;have h:cG (Be v) (aK<|T b)=none:=h;rw[h];exact W g _<|Same.refl _
 |some fs=>
  rw[X] at h g;obtain⟨t,hv,ht⟩:=h;have g:bQ as (b::d)=(decide ((b::d).length=fs.length+1)&&(d.zip fs).all λp=>bp as p.1 p.2):=g;refine⟨_,rfl,wA,_,0,_,rfl,rfl,G,M,aK<|T b,rfl,_,rfl,?_⟩;rw[hv];refine⟨_,rfl,wA,_,0,_,rfl,rfl,G,M,aK<|T b,_,rfl,hv,?_⟩;have Y:gm K H t (fs.map V.str):=ht.at_;refine⟨_,rfl,wA,_,rfl,.inl G,_,rfl,t,_,rfl,.inr Y,_,_,rfl,rfl,rfl,_,rfl,?_⟩;rw[au,au];refine c7 (λc=>?_) λc=>?_
  ·refine W ?_ _<|Same.refl _;rw[g];have:¬(b::d).length=fs.length+1:=λz=>by rw[z] at c;simp at c
   rw[decide_eq_false this];rfl
  have c:(b::d).length=fs.length+1:=by
   refine eJ λz=>c ?_;have:¬(V.int ((b::d).length:Nat))=V.int ((fs.length:Int)+1):=λq=>z (by have:=V.int.inj q;omega);rw[decide_eq_false this];rfl
  have fl:fs.length<=70000:=.h
  refine⟨_,rfl,1,rfl,wA,_,rfl,G,λcA N=>?_⟩;rw[NB];have s1:Same H (upd H cA<|.lst (gF (b::d)).tail):=Same.new N;have Z:Sq false K (upd H cA<|.lst (gF (b::d)).tail) cA (gF d):=bh.of ai;have hF:Sq true K (upd H cA<|.lst (gF (b::d)).tail) t (fs.map V.str):=Same.tup s1 Y;refine⟨_,rfl,cA,t,_,_,rfl,Z,hF,λD hD=>eN (λi=>d[i]?.bind λl=>fs[i]?.bind λx=>some<|V.bl<|bp as l x) (xb Z hF) hD ?_ ?_ ?_⟩
  ·rw[au,au,sizeLine_eq];omega
  ·rintro i y H5 Py Pn hi ⟨T',x,y',rfl,O,m,o⟩ s5 py pn;rw[b8] at m o;cases I:d[i]? with
   |none=>rw[I] at m;cases m
   |some l=>
    cases R:fs[i]? with
    |none=>rw[R] at o;cases o
    |some z=>
     rw[I] at m;rw[R] at o;have m:V.str (T l)=x:=aI m;have o:V.str z=y':=aI o;subst m o;refine⟨T',_,rfl,gm.of O,rfl,_,_,rfl,_,_,rfl,rfl,rfl,yes ⟨_,rfl,_,rfl,l,z,rfl,L l<|aV _<|bc I,λH6 s6=>?_⟩⟩;exact py _ _ s6 (by rw[I,R];rfl)
  ·intro H5 s5 hX;rw[au,au,C3 λl x=>bp as l x] at hX;refine⟨D,_,rfl,bh.of hX,?_⟩;have e:bQ as (b::d)=((d.zip fs).map λp=>bp as p.1 p.2).all id:=by
    rw[g,decide_eq_true c,jG];rfl
   rw[<-e];exact k _<|s1.trans s5
def jg(l:.e):Nat:=OP l
def nS(l:.e):Int:=if l.head?=some 45 then -((jg l.tail:Nat):Int) else(jg l:Nat)
theorem jz{l:.e}(h:cI l=true):1<=l.length/\l.length<=6/\(∀c,c∈l->c∈Jg)/\(l=[48]\/l.head?≠some 48):=by
 unfold cI at h;simp only[cn,qP,decide_eq_true_eq,eC,zf,decide_eq_false_iff_not] at h;exact h
theorem pC{c:Nat}:c∈Jg↔48<=c/\c<=57:=by
 unfold Jg;simp only[aH,n9,or_false];omega
theorem rS{l:.e}(h:cI l=true):zr (T l)=some ((jg l:Nat):Int):=by
 obtain⟨h1,h2,a,_⟩:=jz h;have e:(T l).cps.toList=l:=tN l;have:=PySem.intText_digits (x:=T l) (by rw[e];exact λc b=>pC.mp<|a c b) (by rw[e];intro z;rw[z] at h1;simp at h1) (by rw[iD];omega);rw[e] at this;exact this
theorem int_text{l:.e}(h:dI l=true):zr (T l)=some (nS l)/\l.length<=7:=by
 unfold dI at h;unfold nS;split at h
 ·rename_i c;rw[.au];cases l with
  |nil=>cases c
  |cons a r=>
   have b:a=45:=.cC
   subst b;have d:cI r=true:=(uK.mp h).1;obtain⟨h1,h2,e,_⟩:=jz d;have:=PySem.intText_neg (x:=T (45::r)) (cs:=r) (tN _) (λc f=>pC.mp<|e c f) (by intro z;rw[z] at h1;simp at h1) (by rw[iD];simp;omega);exact⟨this,.bq⟩
 ·rename_i c;rw[.ag];exact⟨rS h,by have:=(jz h).2.1;omega⟩
def fO(a:.aV):Bool:=
 if T (a.headD [])="size" then decide (1<=jg (a.getD 1 []))&&decide (jg (a.getD 1 [])<=2000)
 else if T (a.headD [])="go" then decide (1<=jg (a.getD 2 []))&&decide (jg (a.getD 2 [])<=100000)
 else if T (a.headD [])="from" then(a.drop 2).all λl=>decide ((nS l).natAbs<=100000)
 else true
theorem tQ{as:.B}{a:.aV}{fs:.L}(h:bQ as a=true)(b:bI (T<|a.headD [])=some fs):a.length=fs.length+1/\∀p,p∈a.tail.zip fs->bp as p.1 p.2=true:=by
 unfold bQ at h;rw[b] at h;simp only[cn,decide_eq_true_eq,eC] at h;exact h
theorem C4:bI "size"=some (["num"]:.L):=.aq
theorem C5:bI "from"=some (["name","int","int","int"]:.L):=.aq
theorem Lo:bI "go"=some (["direction","num"]:.L):=.aq
theorem U8:bI "at"=some (["name"]:.L):=.aq
theorem NC:bI "node"=some (["name"]:.L):=.aq
theorem JZ:bI "valve"=some (["name"]:.L):=.aq
theorem U9:bI "to"=some (["name"]:.L):=.aq
theorem RC:bI "end"=some (["end"]:.L):=.aq
theorem yx(as:.B)(l:.e):bp as l "num"=cI l:=by unfold bp;rw[.ah]
theorem has_int(as:.B)(l:.e):bp as l "int"=dI l:=by unfold bp;rw[.ap,.ah]
theorem has_name(as:.B)(l:.e):bp as l "name"=ic l:=by unfold bp;rw[.ap,.ap,.ah]
theorem Va(as:.B)(l:.e):bp as l "direction"=(cG (nQ as)<|aK<|T l).isSome:=by unfold bp;rw[.ap,.ap,.ap,.ah]
theorem Vb(as:.B)(l:.e):bp as l "end"=decide (T l∈lN):=by unfold bp;rw[.ap,.ap,.ap,.ap]
theorem RD{as:.B}{c:.aV}{f:Str}(h:bQ as c=true)(d:bI (T<|c.headD [])=some [f]):∃a b,c=[a,b]/\bp as b f=true:=by
 obtain⟨h1,h2⟩:=tQ h d;match c,h1,h2 with
 |[a,b],_,h2=>exact⟨a,b,rfl,h2 (b,f)<|by simp⟩
theorem RE{as:.B}{d:.aV}{f g:Str}(h:bQ as d=true)(e:bI (T<|d.headD [])=some [f,g]):∃a b c,d=[a,b,c]/\bp as b f=true/\bp as c g=true:=by
 obtain⟨h1,h2⟩:=tQ h e;match d,h1,h2 with
 |[a,b,c],_,h2=>exact⟨a,b,c,rfl,h2 (b,f)<|by simp,h2 (c,g)<|by simp⟩
theorem ND{as:.B}{k:.aV}{f g i j:Str}(h:bQ as k=true)(l:bI (T<|k.headD [])=some [f,g,i,j]):∃a b c d e,k=[a,b,c,d,e]/\bp as b f=true/\bp as c g=true/\bp as d i=true/\bp as e j=true:=by
 obtain⟨h1,h2⟩:=tQ h l;match k,h1,h2 with
 |[a,b,c,d,e],_,h2=>exact⟨a,b,c,d,e,rfl,h2 (b,f)<|by simp,h2 (c,g)<|by simp,h2 (d,i)<|by simp,h2 (e,j)<|by simp⟩
abbrev yz:Stmt:=top 68
abbrev Lp:.L:=["words","word"]
theorem Iv:az Lp ["words"] (ao yz):=fscope
def Bg(K:ah)(as:.B):Sp:=λvs H Q _=>∃(wA:Addr) (a:.aV),vs=[.ref wA]/\bh K H wA (gF a)/\bQ as a=true/\∀H',.Q->Q (.bl<|fO a) H'
theorem NE{f:Addr}{fd:FuncData}{as:.B}(F:d8 K "within_bounds" "within_bounds" yz f fd)(B:nG mg)(X:Nz mg):aX P w K mg base bV 1 f fd ["words"] (Bg K as):=by
 refine F.ok1 Iv ?_;rintro cdv A outer st H _ Q E hr nd ⟨wA,q,rfl,J,L,k⟩;obtain⟨t1,h1⟩:=X.lr;obtain⟨t2,h2⟩:=X.lp;obtain⟨t3,h3⟩:=X.fa;refine⟨_,(af (cx (a9 fo (bG .j aD) eU .aN) (ap (aJ (Ho Ct Ct aD (dD gb .s B.int rO (ae (bG .j aD) ak)) (aR .s h1 (v:=.int 2000) .Y)))) bE) (af (cx (a9 fo (bG .j aD) eU .aN) (ap (aJ (Ho Ct Ct aD (dD gb .s B.int rO (ae (bG .j aD) ak)) (aR .s h2 (v:=.int 100000) .Y)))) bE) (af (cx (a9 fo (bG .j aD) eU .aN) (ap (aJ (df (wV rfl) .s B.all xf (ae (gH rfl Iv.nd (cB (vG DJ .j (vF aD) DF)) ((bO (by(show iP Lp (ao yz) _ _=true);decide +kernel))) (own:=[("word",1)]) (λs H C cl W=>bX 1) (λs H C cl W=>eB)
   (λs H C cl W=>fj Ct (df vC .s B.abs DS (ae (dD gb .s B.int rO .cw) ak)) (aR .s h3 (v:=.int 100000) .Y) .aN)) ak)))) bE) (ap (aJ mH))))),?_⟩
 have M:0<q.length:=by
  cases q with
  |nil=>
   unfold bQ at L;rw[show bI (T<|([]:.aV).headD [])=none by decide +kernel] at L;cases L
  |cons a r=>simp
 obtain⟨w0,o⟩:∃l,q[0]?=some l:=⟨_,bo M⟩;have m:q.headD []=w0:=by
  cases q with
  |nil=>cases o
  |cons a r=>simpa using o
 have g:∀{i:Nat} {l:.e},q[i]?=some l->AA (gF q) (i:Int)=some (.str<|T l):=λh=>c6<|C0 h;have O:∀{a b:Str},¬decide (V.str a=V.str b)=true->¬a=b:=λc z=>c<|decide_eq_true<|congrArg V.str z;refine⟨_,rfl,wA,_,0,_,rfl,rfl,J,g o,rfl,_,rfl,c7 (λc=>?_) λc=>?_⟩
 ·have c:=V.str.inj<|of_decide_eq_true c;obtain⟨a,b,rfl,G⟩:=RD L (by rw[m,c];exact C4);rw[yx] at G;have R:=(jz G).2.1;have e:fO [a,b]=(decide (1<=jg b)&&decide (jg b<=2000)):=by unfold fO;rw[m,.au];rfl
  refine⟨_,rfl,wA,_,1,_,rfl,rfl,J,g (i:=1) rfl,T b,_,rfl,rS G,by rw[iD];omega,_,_,rfl,rfl,_,rfl,?_⟩;have j:=k _<|Same.refl _;rw[e] at j;refine c7 (λd=>?_) λd=>?_
  ·have d:=of_decide_eq_true d;refine⟨_,_,rfl,rfl,?_⟩;have N:decide (((jg b:Nat):Int)<=2000)=(decide (1<=jg b)&&decide (jg b<=2000)):=by
    rw[decide_eq_true<|show 1<=jg b by omega,kQ];exact decide_eq_decide.mpr<|by omega
   rw[<-N] at j;exact j
  ·have d:¬1<=jg b:=λz=>d .cM;rw[decide_eq_false d] at j;exact j
 have c:=O c;refine⟨_,rfl,wA,_,0,_,rfl,rfl,J,g o,rfl,_,rfl,c7 (λp=>?_) λp=>?_⟩
 ·have p:=V.str.inj<|of_decide_eq_true p;obtain⟨a,d0,b,rfl,_,G⟩:=RE L (by rw[m,p];exact Lo);rw[yx] at G;have R:=(jz G).2.1;have e:fO [a,d0,b]=(decide (1<=jg b)&&decide (jg b<=100000)):=by unfold fO;rw[m,.ag,if_pos p];rfl
  refine⟨_,rfl,wA,_,2,_,rfl,rfl,J,g (i:=2) rfl,T b,_,rfl,rS G,by rw[iD];omega,_,_,rfl,rfl,_,rfl,?_⟩;have j:=k _<|Same.refl _;rw[e] at j;refine c7 (λd=>?_) λd=>?_
  ·have d:=of_decide_eq_true d;refine⟨_,_,rfl,rfl,?_⟩;have N:decide (((jg b:Nat):Int)<=100000)=(decide (1<=jg b)&&decide (jg b<=100000)):=by
    rw[decide_eq_true<|show 1<=jg b by omega,kQ];exact decide_eq_decide.mpr<|by omega
   rw[<-N] at j;exact j
  ·have d:¬1<=jg b:=λz=>d .cM;rw[decide_eq_false d] at j;exact j
 have p:=O p;refine⟨_,rfl,wA,_,0,_,rfl,rfl,J,g o,rfl,_,rfl,c7 (λt=>?_) λt=>?_⟩
 ·have t:=V.str.inj<|of_decide_eq_true t;obtain⟨a,n,x,y,z,rfl,_,Y,Z,hz⟩:=ND L (by rw[m,t];exact C5);rw[has_int] at Y Z hz;have e:fO [a,n,x,y,z]=([x,y,z].all λl=>decide ((nS l).natAbs<=100000)):=by unfold fO;rw[m,.ag,if_neg p,if_pos t];rfl
  refine⟨_,rfl,2,rfl,wA,_,rfl,J,λcA S=>?_⟩;rw[RB];have s1:Same H (upd H cA<|.lst<|(gF [a,n,x,y,z]).drop 2):=Same.new S;have hC:bh K (upd H cA<|.lst<|(gF [a,n,x,y,z]).drop 2) cA (gF [x,y,z]):=bh.of ai;refine⟨cA,rfl,⟨_,hC⟩,λD hD=>eN (λi=>([x,y,z]:.aV)[i]?.bind λl=>some<|V.bl<|decide ((nS l).natAbs<=100000)) (cQ hC) hD .dG ?_ ?_⟩
  ·rintro i u H5 Py Pn hi I s5 py pn;obtain⟨l,hl,rfl,U⟩:∃l,([x,y,z]:.aV)[i]?=some l/\u=.str (T l)/\dI l=true:=by
    match i,I with
    |0,I=>exact⟨x,rfl,(aI I).symm,Y⟩
    |1,I=>exact⟨y,rfl,(aI I).symm,Z⟩
    |2,I=>exact⟨z,rfl,(aI I).symm,hz⟩
   obtain⟨it,il⟩:=int_text U;refine⟨rfl,yes ⟨_,rfl,T l,_,rfl,it,by rw[iD];omega,_,rfl,_,_,rfl,rfl,?_⟩⟩;have N:decide ((if nS l<0 then -nS l else nS l)<=100000)=decide ((nS l).natAbs<=100000):=decide_eq_decide.mpr (by split<;>omega)
   exact py _ _ .ax (by rw[hl];show some (V.bl<|decide ((nS l).natAbs<=100000))=_;rw[<-N])
  ·intro H5 s5 hX;refine⟨D,[decide ((nS x).natAbs<=100000),decide ((nS y).natAbs<=100000),decide ((nS z).natAbs<=100000)],rfl,bh.of hX,?_⟩;have j:=k _<|s1.trans s5;rw[e] at j;exact j
 have t:=O t;have e:fO q=true:=by unfold fO;rw[m,.ag,if_neg p,if_neg t]
 have j:=k _<|Same.refl _;rw[e] at j;exact j
end
def sg(b:aE):.e:=b.map λc=>Iu c.toNat
theorem iJ{n k:Nat}(h:k∈tO):Iu n=k↔n=k:=by
 unfold Iu;constructor
 ·intro e;split at e
  ·exact e
  ·subst e;exact absurd h<|by decide
 ·intro e;subst e;rw[if_pos h]
theorem pX(c:UInt8)(b:aE):sg (c::b)=Iu c.toNat::sg b:=rfl
theorem xh(b:aE):(sg b).length=b.length:=au _
theorem Bh:∀{b:aE} {l:.e},(∀c,c∈l->c∈tO)->(sg b=l↔b.map oN=l)
 |[],[],_=>by simp[sg]
 |[],_::_,_=>by simp[sg]
 |_::_,[],_=>by simp[sg]
 |c::b,a::l,h=>by
  rw[pX,bP,zR,zR,iJ<|h a bf,Bh λx d=>h x<|aV _ d]
theorem toNat_inj:∀{a b:aE},a.map oN=b.map oN->a=b
 |[],[],_=>rfl
 |[],_::_,h=>.b0
 |_::_,[],h=>.b0
 |x::a,y::b,h=>by
  rw[bP,bP,zR] at h;rw[zJ.mp h.1,toNat_inj h.2]
theorem Vc{b:aE}{x:Str}{a:aE}(hk:(tl x).all (λc=>decide (c∈tO))=true)(d:a.map oN=tl x):T (sg b)=x↔b=a:=by
 have h:∀c,c∈tl x->c∈tO:=λc f=>of_decide_eq_true<|eC.mp hk c f;constructor
 ·intro e;have e:sg b=tl x:=by rw[<-e,tN]
  exact toNat_inj<|((Bh h).mp e).trans d.symm
 ·intro e;subst e;rw[(Bh h).mpr d,YL]
theorem sJ(c:UInt8):∀b:aE,cz c b≠[]
 |[]=>by simp[cz]
 |x::r=>by
  unfold cz;split
  ·simp
  ·split<;>simp
theorem C6{c:UInt8}(f:c.toNat∈tO):∀b:aE,vK [c.toNat] ((cz c b).map sg)=sg b/\∀p,p∈cz c b->c.toNat∉sg p
 |[]=>by
  refine⟨rfl,λp hp=>?_⟩;have:p=[]:=by simpa[cz] using hp
  subst this;simp[sg]
 |x::r=>by
  obtain⟨a,d⟩:=C6 f r;have ne:=sJ c r;unfold cz;split
  ·rename_i e;subst e;refine⟨?_,λp hp=>?_⟩
   ·cases hp:cz x r with
    |nil=>exact absurd hp ne
    |cons w l=>
     rw[hp] at a;show []++([x.toNat]++vK [x.toNat] ((w::l).map sg))=_;rw[a,pX,(iJ f).mpr rfl];rfl
   ·rcases aH.mp hp with z|z
    ·subst z;simp[sg]
    ·exact d p z
  ·rename_i e;have ex:Iu x.toNat≠c.toNat:=λz=>e<|zJ.mp<|(iJ f).mp z;split
   ·rename_i hp;exact absurd hp ne
   ·rename_i w l hp;rw[hp] at a d;refine⟨?_,λp g=>?_⟩
    ·rw[pX,<-a];cases l with
     |nil=>rfl
     |cons q l=>rfl
    ·rcases aH.mp g with z|z
     ·subst z;rw[pX,aH];rintro(z|z)
      ·exact ex z.symm
      ·exact d w bf z
     ·exact d p<|aV _ z
theorem Iw{c:UInt8}{y:Str}(a:y=T [c.toNat])(d:c.toNat∈tO)(b:aE):gY (T<|sg b) y=(cz c b).map λw=>T (sg w):=by
 obtain⟨h1,h2⟩:=C6 d b;have e:T (sg b)=kU y ((cz c b).map λw=>T<|sg w):=by
  rw[<-YL (kU y _),join_eq,yq,c8];have:(cz c b).map (tl∘λw=>T<|sg w)=(cz c b).map sg:=qD λw _=>tN<|sg w;rw[this,a,tN,h1]
 rw[e];refine JF (s:=c.toNat) (S:=[]) (by rw[a]) ?_ (by intro z;exact sJ c b<|yI.mp z) λp hp=>?_
 ·rw[a];have:=Rq _ d;simp[this]
 ·obtain⟨w,f,rfl⟩:=b6.mp hp;rw[tN];exact h2 w f
theorem Bi{c:UInt8}:Iu c.toNat∈Jg↔jM c=true:=by
 have k:∀n,n∈Jg->n∈tO:=.O
 unfold jM;simp only[cn,decide_eq_true_eq];constructor
 ·intro h;have e:=(iJ<|k _ h).mp rfl;rw[<-e] at h;have:=pC.mp h;exact⟨qV.mpr this.1,qV.mpr this.2⟩
 ·rintro⟨h1,h2⟩;have h:c.toNat∈Jg:=pC.mpr ⟨qV.mp h1,qV.mp h2⟩;rw[(iJ<|k _ h).mpr rfl];exact h
theorem NF{w:aE}:(∀c,c∈sg w->c∈Jg)↔w.all jM=true:=by
 unfold sg;rw[eC];constructor
 ·intro h c a;exact Bi.mp<|h _<|b6.mpr ⟨c,a,rfl⟩
 ·intro h c a;obtain⟨x,b,rfl⟩:=b6.mp a;exact Bi.mpr<|h x b
theorem RF:∀(w:aE) (a:Nat),w.all jM=true->w.foldl (λ(n:Nat) (c:UInt8)=>10*n+(c.toNat-48)) a=(sg w).foldl (λacc c=>acc*10+(c-48)) a
 |[],_,_=>rfl
 |c::w,a,h=>by
  rw[lY,cn] at h;have e:Iu c.toNat=c.toNat:=by
   have k:∀n,n∈Jg->n∈tO:=.O
   have:=Bi.mpr h.1;exact((iJ<|k _ this).mp rfl).symm
  rw[pX,jF,jF,RF w _ h.2,e,Fm]
theorem Lq{w:aE}{k:Nat}{u:UInt8}(hk:k∈tO)(a:u.toNat=k):(sg w).head?=some k↔w.head?=.ai:=by
 cases w with
 |nil=>simp[sg]
 |cons c r=>
  rw[pX,EV,EV,Fh,Fh,iJ hk,<-a];exact zJ
theorem pY(w:aE):iT w=if cI (sg w)=true then some (jg<|sg w) else none:=by
 have a:(1<=w.length/\w.length<=6/\w.all jM=true/\(w.head?=some 48->w.length=1))↔cI (sg w)=true:=by
  have e:((sg w).all (λc=>decide (c∈Jg))=true)↔w.all jM=true:=by
   rw[<-NF,eC];simp only[decide_eq_true_eq]
  have f:(sg w).head?=some 48↔w.head?=some 48:=Lq (k:=48) (u:=48) .O rfl;unfold cI;rw[cn,cn,cn,qP,decide_eq_true_eq,decide_eq_true_eq,decide_eq_true_eq,zf,decide_eq_false_iff_not,xh,e,f];constructor
  ·rintro⟨h1,h2,b,d⟩;refine⟨h1,h2,b,?_⟩;by_cases c:w.head?=some 48
   ·left;have g:=d c;match w,g,c with
    |[x],_,c=>
     have:x=48:=.cC
     subst this;decide
   ·exact .inr c
  ·rintro⟨h1,h2,b,d⟩;refine⟨h1,h2,b,λc=>?_⟩;rcases d with z|z
   ·rw[<-xh,z];rfl
   ·exact absurd c z
 unfold iT;by_cases c:cI (sg w)=true
 ·have k:=a.mpr c;rw[if_pos k,.au,RF w 0 k.2.2.1];rfl
 ·rw[if_neg λz=>c<|a.mp z,.ag]
theorem tR(w:aE):gv w=if dI (sg w)=true then some (nS<|sg w) else none:=by
 by_cases c:w.head?=some 45
 ·match w,c with
  |x::r,c=>
   have ex:x=45:=.cC
   subst ex;have j:sg (45::r)=45::sg r:=by
    rw[pX];congr 1
   have g:dI (sg (45::r))=(cI (sg r)&&!decide (sg r=[48])):=by
    unfold dI;rw[j,if_pos<|show(45::sg r).head?=some 45 from rfl];simp
   have i:nS (sg (45::r))= -((jg (sg r):Nat):Int):=by
    unfold nS;rw[j,if_pos<|show(45::sg r).head?=some 45 from rfl];rfl
   rw[g,i];have e0:gv (45::r)=(match iT r with
    |some 0=>none
    |some n=>some<|-(n:Int)
    |none=>none):=rfl
   rw[e0,pY];by_cases d:cI (sg r)=true
   ·rw[if_pos d];have z:sg r=[48]↔jg (sg r)=0:=by
     constructor
     ·intro q;rw[q];rfl
     ·intro q;obtain⟨h1,h2,k,e⟩:=jz d;rcases e with e|e
      ·exact e
      ·exfalso;match hl:sg r,h1 with
       |a::t,_=>
        rw[hl] at k e q;have p:=pC.mp<|k a bf;have l:a≠48:=λy=>e (by rw[y];rfl);have pos:∀(t:.e) (m:Nat),0<m->0<t.foldl (λacc c=>acc*10+(c-48)) m:=by
         intro t;induction t with
         |nil=>exact λm h=>h
         |cons b t ih=>exact λm h=>ih (m*10+(b-48))<|by omega
        have:0<jg (a::t):=pos t _ (by show 0<0*10+(a-48);omega);omega
    by_cases y:jg (sg r)=0
    ·rw[y,decide_eq_true<|z.mpr y,d];rfl
    ·rw[decide_eq_false λq=>y<|z.mp q,d];cases o:jg (sg r) with
     |zero=>exact absurd o y
     |succ n=>rfl
   ·rw[if_neg d];have d:cI (sg r)=false:=by simpa using d
    rw[d];rfl
 ·have f:(sg w).head?≠some 45:=λz=>c ((Lq (u:=45) .O rfl).mp z);have e0:gv w=(iT w).map λ(n:Nat)=>(n:Int):=by
   unfold gv;split
   ·exact absurd rfl c
   ·rfl
  have g:dI (sg w)=cI (sg w):=by unfold dI;rw[if_neg f]
  have i:nS (sg w)=(jg (sg w):Nat):=by unfold nS;rw[if_neg f]
  rw[e0,pY,g,i];split<;>rfl
theorem Vd{c:UInt8}:Iu c.toNat∈nms↔((decide (97<=c)&&decide (c<=122))||jM c)=true:=by
 have k:∀n,n∈nms->n∈tO:=.O
 have r:∀n,n∈nms↔(97<=n/\n<=122)\/(48<=n/\n<=57):=λn=>by
  unfold nms;simp only[aH,n9,or_false];omega
 unfold jM;simp only[cn,qP,decide_eq_true_eq,qV];have a:(97:UInt8).toNat=97:=rfl;have b:(122:UInt8).toNat=122:=rfl;have d:(48:UInt8).toNat=48:=rfl;have f:(57:UInt8).toNat=57:=rfl;rw[a,b,d,f];constructor
 ·intro h;have e:=(iJ<|k _ h).mp rfl;rw[<-e] at h;exact(r _).mp h
 ·intro h;have h:=(r _).mpr h;rw[(iJ<|k _ h).mpr rfl];exact h
theorem rT(w:aE):cZ w=ic (sg w):=by
 unfold cZ ic;rw[xh];congr 2;unfold sg;rw[jG];congr 1;funext c;have:=Vd (c:=c);cases h:((decide (97<=c)&&decide (c<=122))||jM c) with
 |true=>rw[h] at this;exact(decide_eq_true<|this.mpr rfl).symm
 |false=>rw[h] at this;exact(decide_eq_false λz=>absurd (this.mp z)<|by decide).symm
theorem RG{a b:aE}(d:cZ a=true)(h:sg a=sg b):a=b:=by
 rw[rT] at d;unfold ic at d;simp only[cn,decide_eq_true_eq,eC] at d;have k:∀n,n∈nms->n∈tO:=.O
 have e:∀c,c∈sg a->c∈tO:=λc f=>k c<|d.2.2 c f;have g:=(Bh e).mp rfl;have i:=(Bh e).mp h.symm;exact toNat_inj<|g.trans i.symm
open Pipe (ascii)
def tS(s:String):Bool:=((tl<|gB s).all λc=>decide (c∈tO))&&decide ((ascii s).map oN=tl (gB s))
theorem xi{s:String}(h:tS s=true)(b:aE):T (sg b)=gB s↔b=ascii s:=by
 unfold tS at h;rw[cn,decide_eq_true_eq] at h;exact Vc h.1 h.2
theorem tT(w:aE):∀l:List String,l.all tS=true->(∀i,gS l w=some i->(l.map gB)[i]?=some (T<|sg w))/\(gS l w=none->T (sg w)∉l.map gB)
 |[],_=>by simp[gS]
 |s::l,h=>by
  rw[lY,cn] at h;obtain⟨a,b⟩:=tT w l h.2;have e:=xi h.1 w;unfold gS at a b ⊢;rw[EO];by_cases c:w=ascii s
  ·subst c;rw[if_pos<|by simp];refine⟨λi hi=>?_,λz=>by cases z⟩;cases hi;rw[e.mpr rfl];rfl
  ·rw[if_neg<|by simpa using λz=>c z.symm];refine⟨λi hi=>?_,λhi=>?_⟩
   ·obtain⟨j,d,rfl⟩:=oI.mp hi;exact a j d
   ·have hi:=Option.map_eq_none_iff.mp hi;rw[bP,aH];rintro(z|z)
    ·exact c<|e.mp z
    ·exact b hi z
theorem Ve:l8.all tS=true:=.aq
theorem Vf:l9.all tS=true:=.aq
theorem RH:l8.map gB=lM:=rfl
theorem RJ:l9.map gB=lN:=rfl
theorem tV(x:Str):∀(l:.L) (as:.B),as.length=l.length->
  (∃(i:Nat) (d:Addr),l[i]?=.v/\as[i]?=.aS/\.fI=some (.ref d))\/(x∉l/\.fI=none)
 |[],_,_=>.inr ⟨ .m,rfl⟩
 |y::l,[],h=>.b0
 |y::l,a::as,h=>by
  by_cases c:y=x
  ·exact .inl ⟨0,a,by rw[c];rfl,rfl,gD<|by rw[c]⟩
  ·have e:cG (((y::l).zip (a::as)).map λp=>((aK p.1:Key),V.ref p.2)) (aK x)=.fI:=fZ λz=>c<|qY z;rw[e];rcases tV x l as .dR with⟨i,d,h1,h2,b⟩|⟨h1,h2⟩
   ·exact .inl ⟨i+1,d,.cS,by simpa using h2,b⟩
   ·exact .inr ⟨λz=>(aH.mp z).elim (λq=>c q.symm) h1,h2⟩
theorem RK{as:.B}(h:as.length=18)(x:Str):(cG (nQ as)<|aK x).isSome=decide (x∈lM):=by
 rcases tV x lM as h with⟨i,d,h1,_,a⟩|⟨h1,h2⟩
 ·unfold nQ;rw[a,decide_eq_true<|bc h1];rfl
 ·unfold nQ;rw[h2,decide_eq_false h1];rfl
theorem J0:lM.Nodup:=.aq
theorem YO{as:.B}(h:as.length=18){x:Str}{i:Nat}(hi:lM[i]?=.v):∃d,as[i]?=.aS/\cG (nQ as) (aK x)=some (.ref d):=by
 rcases tV x lM as h with⟨j,d,h1,h2,a⟩|⟨h1,_⟩
 ·have:i=j:=by
   obtain⟨a1,b1⟩:=aB.mp hi;obtain⟨a2,b2⟩:=aB.mp h1;exact(oa J0).mp<|b1.trans b2.symm
  subst this;exact⟨d,h2,a⟩
 ·exact absurd (bc hi) h1
def dN(k:aE)(r:List aE):Option ip:=match r with
 |[w]=>if k=ascii "size" then(iT w).map zU else if k=ascii "at" then eD w .at_ else if k=ascii "node" then eD w .node else if k=ascii "valve" then eD w .valve else if k=ascii "to" then eD w .to_
  else if k=ascii "end" then(gS l9 w).map λ(i:Nat)=>.end_ (i+2) else none
 |[d,n]=>if k=ascii "go" then(match gS l8 d,iT n with
  |some i,some m=>some<|.go i m
  |_,_=>none) else none
 |[w,x,y,z]=>if k=ascii "from" then(match gv x,gv y,gv z with
  |some a,some b,some c=>eD w λ(n:aE)=>.from_ n a b c
  |_,_,_=>none) else none
 |_=>none
theorem RL(b:aE){k:aE}{r:List aE}(h:cz kP b=k::r):mh b=dN k r:=by
 unfold mh;rw[h];match r with
 |[]=>rfl
 |[_]=>rfl
 |[_,_]=>rfl
 |[_,_,_]=>rfl
 |[_,_,_,_]=>rfl
 |_::_::_::_::_::_=>rfl
theorem J1(r:List aE):dN (ascii "size") r=match r with
  |[w]=>(iT w).map zU
  |_=>none:=by
 match r with
 |[]=>rfl
 |[w]=>unfold dN;dsimp only;rw[.ah]
 |[_,_]=>unfold dN;dsimp only;rw[.ap]
 |[_,_,_]=>rfl
 |[_,_,_,_]=>unfold dN;dsimp only;rw[.ap]
 |_::_::_::_::_::_=>rfl
theorem RM(r:List aE):dN (ascii "at") r=match r with
  |[w]=>eD w .at_
  |_=>none:=by
 match r with
 |[]=>rfl
 |[w]=>unfold dN;dsimp only;rw[.ap,.ah]
 |[_,_]=>unfold dN;dsimp only;rw[.ap]
 |[_,_,_]=>rfl
 |[_,_,_,_]=>unfold dN;dsimp only;rw[.ap]
 |_::_::_::_::_::_=>rfl
theorem J2(r:List aE):dN (ascii "node") r=match r with
  |[w]=>eD w .node
  |_=>none:=by
 match r with
 |[]=>rfl
 |[w]=>unfold dN;dsimp only;rw[.ap,.ap,.ah]
 |[_,_]=>unfold dN;dsimp only;rw[.ap]
 |[_,_,_]=>rfl
 |[_,_,_,_]=>unfold dN;dsimp only;rw[.ap]
 |_::_::_::_::_::_=>rfl
theorem Iy(r:List aE):dN (ascii "valve") r=match r with
  |[w]=>eD w .valve
  |_=>none:=by
 match r with
 |[]=>rfl
 |[w]=>unfold dN;dsimp only;rw[.ap,.ap,.ap,.ah]
 |[_,_]=>unfold dN;dsimp only;rw[.ap]
 |[_,_,_]=>rfl
 |[_,_,_,_]=>unfold dN;dsimp only;rw[.ap]
 |_::_::_::_::_::_=>rfl
theorem RN(r:List aE):dN (ascii "to") r=match r with
  |[w]=>eD w .to_
  |_=>none:=by
 match r with
 |[]=>rfl
 |[w]=>unfold dN;dsimp only;rw[.ap,.ap,.ap,.ap,.ah]
 |[_,_]=>unfold dN;dsimp only;rw[.ap]
 |[_,_,_]=>rfl
 |[_,_,_,_]=>unfold dN;dsimp only;rw[.ap]
 |_::_::_::_::_::_=>rfl
theorem NG(r:List aE):dN (ascii "end") r=match r with
  |[w]=>(gS l9 w).map λ(i:Nat)=>.end_<|i+2
  |_=>none:=by
 match r with
 |[]=>rfl
 |[w]=>unfold dN;dsimp only;rw[.ap,.ap,.ap,.ap,.ap,.ah]
 |[_,_]=>unfold dN;dsimp only;rw[.ap]
 |[_,_,_]=>rfl
 |[_,_,_,_]=>unfold dN;dsimp only;rw[.ap]
 |_::_::_::_::_::_=>rfl
theorem RP(r:List aE):dN (ascii "go") r=match r with
  |[d,n]=>(match gS l8 d,iT n with
   |some i,some m=>some<|.go i m
   |_,_=>none)
  |_=>none:=by
 match r with
 |[]=>rfl
 |[w]=>unfold dN;dsimp only;rw[.ap,.ap,.ap,.ap,.ap,.ap]
 |[_,_]=>unfold dN;dsimp only;rw[.ah]
 |[_,_,_]=>rfl
 |[_,_,_,_]=>unfold dN;dsimp only;rw[.ap]
 |_::_::_::_::_::_=>rfl
theorem J3(r:List aE):dN (ascii "from") r=match r with
  |[w,x,y,z]=>(match gv x,gv y,gv z with
   |some a,some b,some c=>eD w λ(n:aE)=>.from_ n a b c
   |_,_,_=>none)
  |_=>none:=by
 match r with
 |[]=>rfl
 |[w]=>unfold dN;dsimp only;rw[.ap,.ap,.ap,.ap,.ap,.ap]
 |[_,_]=>unfold dN;dsimp only;rw[.ap]
 |[_,_,_]=>rfl
 |[_,_,_,_]=>unfold dN;dsimp only;rw[.ah]
 |_::_::_::_::_::_=>rfl
theorem J4{k:aE}(r:List aE)(h:∀s,.fK->k≠ascii s):dN k r=none:=by
 match r with
 |[]=>rfl
 |[w]=>unfold dN;dsimp only;rw[.dO,.dO,.dO,.dO,.dO,.dO]
 |[_,_]=>unfold dN;dsimp only;rw[.dO]
 |[_,_,_]=>rfl
 |[_,_,_,_]=>unfold dN;dsimp only;rw[.dO]
 |_::_::_::_::_::_=>rfl
open Pipe (ascii)
def xj:ip->.aV->Prop
 |.size n,ws=>∃k w,ws=[k,w]/\T k="size"/\cI w=true/\jg w=n
 |.from_ nm x y z,ws=>∃k a b c,ws=[k,sg nm,a,b,c]/\T k="from"/\cZ nm=true/\(dI a=true/\nS a=x)/\(dI b=true/\nS b=y)/\dI c=true/\nS c=z
 |.at_ nm,ws=>∃k,ws=[k,sg nm]/\T k="at"/\cZ nm=true
 |.go d n,ws=>∃k a b,ws=[k,a,b]/\T k="go"/\lM[d]?=some (T a)/\cI b=true/\jg b=n
 |.node nm,ws=>∃k,ws=[k,sg nm]/\T k="node"/\cZ nm=true
 |.valve nm,ws=>∃k,ws=[k,sg nm]/\T k="valve"/\cZ nm=true
 |.to_ nm,ws=>∃k,ws=[k,sg nm]/\T k="to"/\cZ nm=true
 |.end_ e,ws=>∃k a,ws=[k,a]/\T k="end"/\2<=e/\e<=5/\T a=iH e
theorem D8(as:.B){k:aE}{r:List aE}{fs:.L}(a:bI (T<|sg k)=some fs):bQ as .dC=(decide (r.length=fs.length)&&((r.map sg).zip fs).all λp=>bp as p.1 p.2):=by
 unfold bQ;show(match bI (T (sg k)) with
  |none=>false
  |some fs=>decide ((.dC).length=fs.length+1)&&((r.map sg).zip fs).all λp=>bp as p.1 p.2)=_
 rw[a];show(decide ((.dC).length=fs.length+1)&&_)=_;congr 1;rw[bB,au];exact decide_eq_decide.mpr<|by omega
theorem rV(as:.B){k:aE}(r:List aE){f:Str}(a:bI (T<|sg k)=some [f]):bQ as .dC=match r with
  |[w]=>bp as (sg w) f
  |_=>false:=by
 rw[D8 as a];match r with
 |[]=>rfl
 |[w]=>simp
 |_::_::_=>rw[decide_eq_false<|by simp,qQ]
theorem Iz(as:.B){k:aE}(r:List aE){f g:Str}(a:bI (T<|sg k)=some [f,g]):bQ as .dC=match r with
  |[w,v]=>bp as (sg w) f&&bp as (sg v) g
  |_=>false:=by
 rw[D8 as a];match r with
 |[]=>rfl
 |[_]=>rfl
 |[w,v]=>simp
 |_::_::_::_=>rw[decide_eq_false<|by simp,qQ]
theorem NH(as:.B){k:aE}(r:List aE){f g i j:Str}(a:bI (T<|sg k)=some [f,g,i,j]):bQ as .dC=match r with
  |[w,x,y,z]=>bp as (sg w) f&&(bp as (sg x) g&&(bp as (sg y) i&&bp as (sg z) j))
  |_=>false:=by
 rw[D8 as a];match r with
 |[]=>rfl
 |[_]=>rfl
 |[_,_]=>rfl
 |[_,_,_]=>rfl
 |[w,x,y,z]=>simp
 |_::_::_::_::_::_=>rw[decide_eq_false<|by simp,qQ]
def rW(as:.B)(o:Option ip)(a:.aV):Prop:=match o with
 |none=>bQ as a=false
 |some l=>bQ as a=true/\xj l a
theorem vU{as:.B}{k:aE}{r:List aE}{x:Str}(hk:T (sg k)=x)(a:bI x=some (["name"]:.L))(mk:aE->ip)(b:∀nm,cZ nm=true->xj (mk nm) [sg k,sg nm]):rW as (match r with | [w]=>eD w mk|_=>none) .dC:=by
 have e:=rV as r (by rw[hk];exact a);match r with
 |[]=>exact e
 |[w]=>
  have e:bQ as [sg k,sg w]=ic (sg w):=by rw[<-has_name as];exact e
  show rW as (eD w mk) [sg k,sg w];unfold eD;rw[<-rT] at e;by_cases c:cZ w=true
  ·rw[.au];exact⟨by rw[e];exact c,b w c⟩
  ·rw[.ag];show bQ as [sg k,sg w]=false;rw[e];simpa using c
 |_::_::_=>exact e
theorem gp{s:String}(h:tS s=true):T (sg<|ascii s)=gB s:=(xi h _).mpr rfl
theorem Vg{as:.B}(t:as.length=18)(k:aE)(r:List aE):rW as (dN k r) .dC:=by
 by_cases u:k=ascii "size"
 ·subst u;rw[J1];have e:=rV as r (k:=ascii "size") (by rw[.b_];exact C4);match r with
  |[]=>exact e
  |[w]=>
   have e:bQ as [sg<|ascii "size",sg w]=cI (sg w):=by rw[<-yx as];exact e
   show rW as ((iT w).map zU) [sg<|ascii "size",sg w];rw[pY];by_cases c:cI (sg w)=true
   ·rw[.au];exact⟨by rw[e];exact c,_,_,rfl,.b_,c,rfl⟩
   ·rw[.ag];show bQ as [sg<|ascii "size",sg w]=false;rw[e];simpa using c
  |_::_::_=>exact e
 by_cases v:k=ascii "at"
 ·subst v;rw[RM];exact vU .b_ U8 .at_ λnm h=>⟨_,rfl,.b_,h⟩
 by_cases A:k=ascii "node"
 ·subst A;rw[J2];exact vU .b_ NC .node λnm h=>⟨_,rfl,.b_,h⟩
 by_cases H:k=ascii "valve"
 ·subst H;rw[Iy];exact vU .b_ JZ .valve λnm h=>⟨_,rfl,.b_,h⟩
 by_cases B:k=ascii "to"
 ·subst B;rw[RN];exact vU .b_ U9 .to_ λnm h=>⟨_,rfl,.b_,h⟩
 by_cases C:k=ascii "end"
 ·subst C;rw[NG];have e:=rV as r (k:=ascii "end") (by rw[.b_];exact RC);match r with
  |[]=>exact e
  |[w]=>
   have e:bQ as [sg<|ascii "end",sg w]=decide (T (sg w)∈lN):=by rw[<-Vb as];exact e
   show rW as ((gS l9 w).map λ(i:Nat)=>.end_<|i+2) [sg<|ascii "end",sg w];obtain⟨o,p⟩:=tT w l9 Vf;rw[RJ] at o p;cases q:gS l9 w with
   |none=>
    show bQ as [sg<|ascii "end",sg w]=false;rw[e,decide_eq_false<|p q]
   |some i=>
    have hi:=o i q;refine⟨by rw[e,decide_eq_true<|bc hi],_,_,rfl,.b_,.h,?_,?_⟩
    ·have:=.ch;have:i<4:=this;omega
    ·match i,hi with
     |0,hi=>exact(aI hi).symm
     |1,hi=>exact(aI hi).symm
     |2,hi=>exact(aI hi).symm
     |3,hi=>exact(aI hi).symm
  |_::_::_=>exact e
 by_cases D:k=ascii "go"
 ·subst D;rw[RP];have e:=Iz as r (k:=ascii "go") (by rw[.b_];exact Lo);match r with
  |[]=>exact e
  |[_]=>exact e
  |[d,n]=>
   have e:bQ as [sg<|ascii "go",sg d,sg n]=(decide (T (sg d)∈lM)&&cI (sg n)):=by rw[<-yx as,<-RK t,<-Va as];exact e
   show rW as (match gS l8 d,iT n with
    |some i,some m=>some<|.go i m
    |_,_=>none) [sg (ascii "go"),sg d,sg n]
   obtain⟨o,p⟩:=tT d l8 Ve;rw[RH] at o p;rw[pY];cases q:gS l8 d with
   |none=>
    show bQ as [sg<|ascii "go",sg d,sg n]=false;rw[e,decide_eq_false<|p q,qQ]
   |some i=>
    have hi:=o i q;rw[decide_eq_true<|bc hi,kQ] at e;by_cases c:cI (sg n)=true
    ·rw[.au];exact⟨by rw[e];exact c,_,_,_,rfl,.b_,hi,c,rfl⟩
    ·rw[.ag];show bQ as [sg<|ascii "go",sg d,sg n]=false;rw[e];simpa using c
  |_::_::_::_=>exact e
 by_cases E:k=ascii "from"
 ·subst E;rw[J3];have e:=NH as r (k:=ascii "from") (by rw[.b_];exact C5);match r with
  |[]=>exact e
  |[_]=>exact e
  |[_,_]=>exact e
  |[_,_,_]=>exact e
  |[w,x,y,z]=>
   have e:bQ as [sg<|ascii "from",sg w,sg x,sg y,sg z]=(ic (sg w)&&(dI (sg x)&&(dI (sg y)&&dI (sg z)))):=by rw[<-has_name as,<-has_int as,<-has_int as,<-has_int as];exact e
   show rW as (match gv x,gv y,gv z with
    |some a,some b,some c=>eD w λ(n:aE)=>.from_ n a b c
    |_,_,_=>none) [sg (ascii "from"),sg w,sg x,sg y,sg z]
   rw[tR,tR,tR];by_cases f:dI (sg x)=true
   ·by_cases g:dI (sg y)=true
    ·by_cases l:dI (sg z)=true
     ·rw[if_pos f,if_pos g,if_pos l];show rW as (eD w _) _;unfold eD;rw[<-rT,f,g,l] at e;by_cases c:cZ w=true
      ·rw[.au];exact⟨by rw[e,c];rfl,_,_,_,_,rfl,.b_,c,⟨f,rfl⟩,⟨g,rfl⟩,l,rfl⟩
      ·rw[.ag];show bQ as _=false;have c:cZ w=false:=.cC
       rw[e,c];rfl
     ·rw[if_pos f,if_pos g,if_neg l];show bQ as _=false;have l:dI (sg z)=false:=by simpa using l
      rw[e,l];simp
    ·rw[if_pos f,if_neg g];show bQ as _=false;have g:dI (sg y)=false:=.dj
     rw[e,g];simp
   ·rw[if_neg f];show bQ as _=false;have f:dI (sg x)=false:=by simpa using f
    rw[e,f];simp
  |_::_::_::_::_::_=>exact e
 have G:∀s,.fK->k≠ascii s:=by
  intro s hs;simp only[aH,n9,or_false] at hs;rcases hs with rfl|rfl|rfl|rfl|rfl|rfl|rfl|rfl<;>assumption
 rw[J4 r G];show bQ as .dC=false;have F:bI (T<|sg k)=none:=by
  have j:∀s,.fK->tS s=true->¬gB s=T (sg k):=λs hs I z=>G s hs<|(xi I k).mp z.symm;have J:=j "size" .m .aq;have K:=j "from" .m .aq;have L:=j "at" .m .aq;have M:=j "go" .m .aq;have N:=j "node" .m .aq;have O:=j "valve" .m .aq;have P:=j "to" .m .aq;have Q:=j "end" .m .aq;unfold bI sI;rw[jB<|by simpa using J,jB<|by simpa using K,jB<|by simpa using L,jB<|by simpa using M,jB<|by simpa using N,jB<|by simpa using O,jB<|by simpa using P,jB<|by simpa using Q];rfl
 unfold bQ;show(match bI (T (sg k)) with
  |none=>false
  |some fs=>_)=false
 rw[F]
theorem cU{a:.e}{x y:Str}(h:T a=x)(d:x≠y):¬T a=y:=λz=>d<|h.symm.trans z
theorem NI{l:ip}{f:.aV}(h:xj l f):fO f=Fn l:=by
 cases l with
 |size n=>
  obtain⟨k,w,rfl,hk,g,rfl⟩:=h;unfold fO;rw[show ([k,w]:.aV).headD []=k from rfl,if_pos hk];rfl
 |from_ nm x y z=>
  obtain⟨k,a,b,c,rfl,hk,_,⟨_,rfl⟩,⟨_,rfl⟩,_,rfl⟩:=h;unfold fO;rw[show ([k,sg nm,a,b,c]:.aV).headD []=k from rfl,.bL,.bL,if_pos hk];show(decide _&&(decide _&&(decide _&&true)))=_;rw[oq];rfl
 |go d n=>
  obtain⟨k,a,b,rfl,hk,_,_,rfl⟩:=h;unfold fO;rw[show ([k,a,b]:.aV).headD []=k from rfl,.bL,if_pos hk];rfl
 |at_ nm=>
  obtain⟨k,rfl,hk,_⟩:=h;unfold fO;rw[.fb,.bL,.bL,.bL];rfl
 |node nm=>
  obtain⟨k,rfl,hk,_⟩:=h;unfold fO;rw[.fb,.bL,.bL,.bL];rfl
 |valve nm=>
  obtain⟨k,rfl,hk,_⟩:=h;unfold fO;rw[.fb,.bL,.bL,.bL];rfl
 |to_ nm=>
  obtain⟨k,rfl,hk,_⟩:=h;unfold fO;rw[.fb,.bL,.bL,.bL];rfl
 |end_ e=>
  obtain⟨k,a,rfl,hk,_⟩:=h;unfold fO;rw[show ([k,a]:.aV).headD []=k from rfl,.bL,.bL,.bL];rfl
structure JD where
 x:bv
 ends:.e
 j9:.e
def foot(sA:Addr)(L:Lay):.B:=sA::(L.lists++(L.js.map (·.a)++L.ps))
def hide(H:Hp)(S:.B):Hp:=λb=>if b∈S then none else H b
theorem Lr{H:Hp}{S:.B}{b:Addr}(h:b∈S):hide H S b=none:=by unfold hide;rw[if_pos h]
theorem vV{H:Hp}{S:.B}{b:Addr}(h:b∉S):hide H S b=H b:=by unfold hide;rw[if_neg h]
theorem NJ(H:Hp)(S:.B):Same (hide H S) H:=λb o e=>by
 by_cases c:b∈S
 ·rw[Lr c] at e;cases e
 ·rwa[vV c] at e
theorem C7{H0 H:Hp}{S:.B}(s:Same H0 H)(h:∀b,b∈S->H0 b=none):Same H0 (hide H S):=λb o e=>by
 rw[vV (λz=>by rw[h b z] at e;cases e)];exact s _ _ e
def mP(K:ah)(cJ:Addr)(H:Hp)(d:JD)(j:JL):Prop:=(∃dx b,H j.a=some (.ins cJ dx<|iI b d.x j)/\gn K H b d.x.at_)/\H j.pL=some (.lst<|aW d.ends)/\rP K H j.lL d.j9
structure Raw(K:ah)(cS cJ cP:Addr)(H0 H:Hp)(sA:Addr)(L:Lay)(jd:List JD)(rs:List bH):Prop where
 same:Same H0 H
 off:∀b,b∈ .a4->H0 b=none
 ob:∃dx,H sA=some (.ins cS dx [("joints",.ref L.jL),("pipes",.ref L.qL)])
 jl:H L.jL=some (.lst<|L.js.map λj=>V.ref j.a)
 ql:H L.qL=some (.lst<|L.ps.map V.ref)
 jn:L.js.length=jd.length
 pn:L.ps.length=rs.length
 js:∀(i:Nat) j d,.cq->jd[i]?=.aS->mP K cJ H d j
 ps:∀(k:Nat) p r,L.ps[k]?=some p->rs[k]?=some r->.c7
 A5:L.lists.Nodup
 AY:(L.js.map (·.a)).Nodup
 DT:L.ps.Nodup
def kD(s:aM):List JD:=s.joints.zipIdx.map λp=>⟨p.1,endsAt s p.2,(s.leaves p.2).map (·.1)⟩
theorem dh{s:aM}{i:Nat}{x:bv}(h:.dB):(kD s)[i]?=some ⟨x,endsAt s i,(s.leaves i).map (·.1)⟩:=by
 unfold kD;rw[b8,EE,h];simp
theorem cg(s:aM):(kD s).length=s.joints.length:=by simp[kD]
section
variable{K:ah}{cS cJ cP:Addr}{H0 H H':Hp}{sA:Addr}{L:Lay}{jd:List JD}{rs:List bH}
theorem Raw.sys{s:aM}(h:Raw K cS cJ cP H0 H sA L (kD s) s.runs):.bF where
 ob:=h.ob
 jl:=h.jl
 ql:=h.ql
 jn:=by rw[h.jn,cg]
 pn:=h.pn
 js:=λi j x a b=>h.js i j _ a<|dh b
 ps:=h.ps
 A5:=h.A5
 AY:=h.AY
 DT:=h.DT
theorem Raw.kinds(h:.bj){b:Addr}(g:b∈ .a4):(∃xs,H b=.aZ)\/∃C dx fs,H b=.ca/\(C=cS\/C=cJ\/C=cP):=by
 unfold foot at g;rcases aH.mp g with z|z
 ·subst z;obtain⟨dx,e⟩:=h.ob;exact .inr ⟨_,_,_,e,.ar⟩
 rcases bZ.mp z with z|z
 ·unfold Lay.lists at z;rcases aH.mp z with z|z
  ·subst z;exact .inl ⟨_,h.jl⟩
  rcases aH.mp z with z|z
  ·subst z;exact .inl ⟨_,h.ql⟩
  obtain⟨j,c,a⟩:=gP.mp z;obtain⟨i,hi⟩:=fh c;obtain⟨d,f⟩:∃d,jd[i]?=.aS:=⟨_,bo (by have:=.ch;have:=h.jn;omega)⟩;obtain⟨_,h2,m,k,_⟩:=h.js i j d hi f;have a:b=j.pL\/b=j.lL:=by simpa using a
  rcases a with a|a<;>subst a
  ·exact .inl ⟨_,h2⟩
  ·exact .inl ⟨_,k⟩
 rcases bZ.mp z with z|z
 ·obtain⟨j,c,rfl⟩:=b6.mp z;obtain⟨i,hi⟩:=fh c;obtain⟨d,f⟩:∃d,jd[i]?=.aS:=⟨_,bo (by have:=.ch;have:=h.jn;omega)⟩;obtain⟨⟨dx,n,h1,_⟩,_⟩:=h.js i j d hi f;exact .inr ⟨_,_,_,h1,.inr<|.inl rfl⟩
 ·obtain⟨i,hi⟩:=fh z;obtain⟨r,l⟩:∃r,rs[i]?=some r:=⟨_,bo (by have:=.ch;have:=h.pn;omega)⟩;obtain⟨dx,dA,h1,_⟩:=h.ps i b r hi l;exact .inr ⟨_,_,_,h1,.inr<|.inr rfl⟩
theorem gm.stay{a:Addr}{xs:.r}(u:∀b o,(∀l,o≠.lst l)->(∀C dx fs,o≠.ins C dx fs)->(∀kvs,o≠.dK kvs)->.dU)(q:.cH):gm K H' a xs:=by
 rcases q with(q|⟨o,q⟩)|q
 ·exact .inl<|.inl<|u _ _ .ev .ev .ev q
 ·exact .inl<|.inr ⟨o,u _ _ .ev .ev .ev q⟩
 ·exact .inr q
abbrev cE(H H':Hp):Prop:=∀b o,(∀l,o≠.lst l)->(∀C dx fs,o≠.ins C dx fs)->(∀kvs,o≠.dK kvs)->.dU
theorem eO.stay{a:Addr}{l:bz}(u:cE H H')(h:eO K H a l):eO K H' a l:=gm.stay u h
theorem gn.stay{a:Addr}{p:eM}(u:cE H H')(h:gn K H a p):gn K H' a p:=by
 obtain⟨x,y,z,b,h1,h2,c⟩:=h;exact⟨x,y,z,gm.stay u b,h1.stay u,h2.stay u,c.stay u⟩
theorem iL.stay{a:Addr}{d:Nat}(u:cE H H')(h:iL K H a d):iL K H' a d:=gm.stay u h
theorem jZ{a:Addr}{xs:.r}{o:HO}(h:H a=.aZ):cE H (upd H a o):=λb o' c _ _ e=>by
 rw[aq (λz=>by rw[z,h] at e;cases e;exact c _ rfl)];exact e
theorem rX{a C dx:Addr}{fs:.az}{o:HO}(h:H a=.ca):cE H (upd H a o):=λb o' _ c _ e=>by
 rw[aq (λz=>by rw[z,h] at e;cases e;exact c _ _ _ rfl)];exact e
theorem Ls{a:Addr}{kvs:.an}{o:HO}(h:H a=.bg):cE H (upd H a o):=λb o' _ _ c e=>by
 rw[aq (λz=>by rw[z,h] at e;cases e;exact c _ rfl)];exact e
theorem cE.trans{H1 H2 d:Hp}(a:cE H1 H2)(b:cE H2 d):cE H1 d:=λc o f g h e=>b c o f g h<|a c o f g h e
theorem Raw.stay{H1:Hp}{c:Lay}{d:List JD}{a:List bH}(h:.bj)(h':Raw K cS cJ cP (hide H .a4) H1 sA c d a):cE H H1:=λb o f g _ e=>h'.same _ _ (by
 rw[vV]
 ·exact e
 ·intro z;rcases h.kinds z with⟨xs,q⟩|⟨C,dx,fs,q,_⟩
  ·rw[e] at q;cases q;exact f _ rfl
  ·rw[e] at q;cases q;exact g _ _ _ rfl)
theorem Raw.seen(h:.bj):Raw K cS cJ cP (hide H<|foot sA L) H sA L jd rs:={ h with same:=NJ _ _,off:=λb a=>Lr a }
theorem Raw.back{H1:Hp}{c:Lay}{d:List JD}{a:List bH}(h:.bj)(h':Raw K cS cJ cP (hide H<|foot sA L) H1 sA c d a):Raw K cS cJ cP H0 H1 sA c d a:=
 { h' with same:=(C7 h.same h.off).trans h'.same,off:=λb e=>(C7 h.same h.off).free (h'.off b e) }
theorem Raw.lC(h:.bj)(e:.Q):Raw K cS cJ cP H0 H' sA L jd rs where
 same:=h.same.trans e
 off:=h.off
 ob:=let ⟨dx,x⟩:=h.ob;⟨dx,e _ _ x⟩
 jl:=e _ _ h.jl
 ql:=e _ _ h.ql
 jn:=h.jn
 pn:=h.pn
 js:=λi j x a b=>by
  obtain⟨⟨dx,c,h1,h2⟩,d,f⟩:=h.js i j x a b;exact⟨⟨dx,c,e _ _ h1,h2.same e⟩,e _ _ d,f.same e⟩
 ps:=λk p r a b=>by
  obtain⟨dx,dA,h1,h2⟩:=h.ps k p r a b;exact⟨dx,dA,e _ _ h1,h2.same e⟩
 A5:=h.A5
 AY:=h.AY
 DT:=h.DT
theorem Raw.joint(h:.bj){i:Nat}{d:JD}(a:jd[i]?=.aS):∃j,.cq/\mP K cJ H d j:=by
 obtain⟨j,b⟩:∃j,.cq:=⟨_,bo (by rw[h.jn];exact(aB.mp a).1)⟩;exact⟨j,b,h.js i j d b a⟩
theorem Raw.pipe(h:.bj){k:Nat}{r:bH}(a:rs[k]?=some r):∃p,L.ps[k]?=some p/\.c7:=by
 obtain⟨p,hp⟩:∃p,L.ps[k]?=some p:=⟨_,bo (by rw[h.pn];exact(aB.mp a).1)⟩;exact⟨p,hp,h.ps k p r hp a⟩
theorem Raw.yA(h:.bj){i:Nat}{j:JL}(b:.cq):j.pL∈L.lists/\j.lL∈L.lists/\j.a∈ .a4/\j.pL∈ .a4/\j.lL∈ .a4:=by
 have m:=bc b;have h1:j.pL∈L.lists:=aV _ (aV _<|gP.mpr ⟨j,m,.m⟩);have h2:j.lL∈L.lists:=aV _ (aV _<|gP.mpr ⟨j,m,.m⟩);exact⟨h1,h2,aV _<|eP _<|dF _<|b6.mpr ⟨j,m,rfl⟩,aV _<|dF _ h1,aV _<|dF _ h2⟩
theorem Raw.away(h:.bj){a:Addr}{o:HO}(g:a∉ .a4)(l:H0 a=none)(u:cE H (upd H a o)):Raw K cS cJ cP H0 (upd H a o) sA L jd rs:=by
 have at_:∀b,b∈ .a4->upd H a o b=H b:=λb m=>aq λz=>g<|z▸m;have q:sA∈ .a4:=bf;have s:L.jL∈ .a4:=aV _<|dF _ bf;have t:L.qL∈ .a4:=aV _<|dF _<|aV _ bf;refine⟨h.same.put l,h.off,by rw[at_ _ q];exact h.ob,by rw[at_ _ s];exact h.jl,by rw[at_ _ t];exact h.ql,h.jn,h.pn,λi j d f v=>?_,λk p r hp w=>?_,h.A5,h.AY,h.DT⟩
 ·obtain⟨_,_,A,B,C⟩:=h.yA f;obtain⟨⟨dx,D,c,e⟩,E,F,G,I,J⟩:=h.js i j d f v;exact⟨⟨dx,D,by rw[at_ _ A];exact c,e.stay u⟩,by rw[at_ _ B];exact E,F,by rw[at_ _ C];exact G,I,λn M d' x y=>(J n M d' x y).stay u⟩
 ·obtain⟨dx,dA,c,e⟩:=h.ps k p r hp w;have N:p∈ .a4:=aV _<|eP _<|eP _<|bc hp;exact⟨dx,dA,by rw[at_ _ N];exact c,e.stay u⟩
end
structure Apart(L:Lay):Prop where
 jq:L.jL≠L.qL
 pj:∀(i:Nat) j,.cq->j.pL≠L.jL/\j.lL≠L.jL/\j.pL≠L.qL/\j.lL≠L.qL/\j.pL≠j.lL
 pp:∀(i k:Nat) j m,.cq->L.js[k]?=some m->i≠k->j.pL≠m.pL/\j.pL≠m.lL/\j.lL≠m.pL/\j.lL≠m.lL
theorem rY{L:Lay}(h:L.lists.Nodup):Apart L:=by
 unfold Lay.lists at h;rw[gu,gu] at h;obtain⟨h1,h2,l⟩:=h;have n:∀{i:Nat} {j:JL},.cq->j.pL∈L.js.flatMap .cT/\j.lL∈L.js.flatMap .cT:=λe=>
  ⟨gP.mpr ⟨_,bc e,.m⟩,gP.mpr ⟨_,bc e,.m⟩⟩
 unfold List.Nodup at l;rw[List.pairwise_flatMap] at l;obtain⟨o,p⟩:=l;have lt:∀(i k:Nat) j m,.cq->L.js[k]?=some m->i<k->j.pL≠m.pL/\j.pL≠m.lL/\j.lL≠m.pL/\j.lL≠m.lL:=λi k j m e g f=>by
  obtain⟨a1,b1⟩:=aB.mp e;obtain⟨a2,b2⟩:=aB.mp g;have:=Ex.mp p i k a1 a2 f;rw[b1,b2] at this;exact⟨this _ .m _<|by simp,this _ .m _<|by simp,this _ .m _<|by simp,this _ .m _<|by simp⟩
 refine⟨λz=>h1 (by rw[z];exact bf),λi j e=>?_,λi k j m e g f=>?_⟩
 ·obtain⟨p1,p2⟩:=n e;refine⟨λz=>h1<|aV _<|z▸p1,λz=>h1<|aV _<|z▸p2,λz=>h2<|z▸p1,λz=>h2<|z▸p2,?_⟩;have:=o j<|bc e;simp at this;exact this
 ·rcases Nat.lt_or_gt_of_ne f with z|z
  ·exact lt i k j m e g z
  ·obtain⟨a,b,c,d⟩:=lt k i m j g e z;exact⟨a.symm,c.symm,b.symm,d.symm⟩
section
variable{K:ah}{cS cJ cP:Addr}{H0 H:Hp}{sA:Addr}{L:Lay}{jd:List JD}{rs:List bH}
theorem rP.stay{H':Hp}{a:Addr}{ds:.e}(u:cE H H')(k:∀xs,H a=.aZ->H' a=.aZ)(h:rP K H a ds):rP K H' a ds:=by
 obtain⟨b,h1,h2,c⟩:=h;exact⟨b,k _ h1,h2,λi e d x y=>(c i e d x y).stay u⟩
theorem mP.stay{H':Hp}{d:JD}{j:JL}(u:cE H H')(b:∀o,H j.a=.i->H' j.a=.i)(c:∀o,H j.pL=.i->H' j.pL=.i)(f:∀o,H j.lL=.i->H' j.lL=.i)(h:mP K cJ H d j):mP K cJ H' d j:=by
 obtain⟨⟨dx,g,h1,h2⟩,i,k⟩:=h;exact⟨⟨dx,g,b _ h1,h2.stay u⟩,c _ i,k.stay u λxs e=>f _ e⟩
theorem jX.stay{H':Hp}{r:bH}{p:Addr}(u:cE H H')(k:∀o,H p=.i->H' p=.i)(h:.c7):jX K cP H' r p:=by
 obtain⟨dx,dA,h1,h2⟩:=h;exact⟨dx,dA,k _ h1,h2.stay u⟩
theorem bL{H:Hp}{a b:Addr}{o:HO}(n:b≠a):∀o',H b=some o'->upd H a o b=some o':=λo' e=>by rw[aq n];exact e
theorem get_set{α:Type}{l:.aP}{i k:Nat}{x y:α}(h:(l.set i x)[k]?=.ao):(k=i/\y=x/\i<l.length)\/(k≠i/\l[k]?=.ao):=by
 by_cases c:i=k
 ·subst c;have:=(aB.mp h).1;rw[fz] at this;rw[gI this] at h;exact .inl ⟨rfl,(aI h).symm,this⟩
 ·rw[fQ c] at h;exact .inr ⟨λz=>c z.symm,h⟩
theorem Raw.Vh(h:.bj){i:Nat}{j:JL}{d:JD}(c:.cq)(w:jd[i]?=.aS)(es:.e):Raw K cS cJ cP H0 (upd H j.pL<|.lst<|aW es) sA L (jd.set i { d with ends:=es }) rs:=by
 have A:=rY h.A5;obtain⟨n,f,o⟩:=h.js i j d c w;have u:cE H (upd H j.pL<|.lst<|aW es):=jZ f;have g:∀b C dx fs,H b=.ca->b≠j.pL:=λb C dx fs e=>jc e f .bG;obtain⟨a1,a2,x,G,y⟩:=A.pj i j c;refine⟨h.same.put<|h.off _ (h.yA c).2.2.2.1,h.off,?_,by rw[aq a1.symm];exact h.jl,by rw[aq x.symm];exact h.ql,by rw[fz];exact h.jn,h.pn,λk m e l B=>?_,λk p r hp D=>?_,h.A5,h.AY,h.DT⟩
 ·obtain⟨dx,e⟩:=h.ob;exact⟨dx,by rw[aq<|g _ _ _ _ e];exact e⟩
 ·rcases get_set B with⟨s,t,I⟩|⟨s,t⟩
  ·subst s t;rw[c] at l;cases l;obtain⟨dx,v,a,E⟩:=n;exact⟨⟨dx,v,by rw[aq<|g _ _ _ _ a];exact a,E.stay u⟩,ai,o.stay u λxs e=>by rw[aq y.symm];exact e⟩
  ·have q:=h.js k m e l t;obtain⟨b1,b2,F,J⟩:=A.pp k i m j l c s;exact q.stay u (bL (by obtain⟨⟨dx,v,a,_⟩,_⟩:=q;exact g _ _ _ _ a)) (bL b1)<|bL F
 ·have q:=h.ps k p r hp D;exact q.stay u<|bL (by obtain⟨dx,dA,a,_⟩:=q;exact g _ _ _ _ a)
theorem Raw.Vi(h:.bj){i:Nat}{j:JL}{d:JD}(g:.cq)(O:jd[i]?=.aS){B:.B}{dA:Addr}{a:Nat}(D:H j.lL=some (.lst<|B.map V.ref))(E:iL K H dA a):
  Raw K cS cJ cP H0 (upd H j.lL<|.lst<|B.map V.ref++[.ref dA]) sA L (jd.set i { d with j9:=d.j9++[a] }) rs:=by
 have A:=rY h.A5;obtain⟨F,G,l,o,M,s⟩:=h.js i j d g O;have P:l=B:=by
  rw[D] at o;have:=HO.lst.inj<|aI o;exact(List.map_inj_right λx y z=>V.ref.inj z).mp this.symm
 subst P;have u:cE H (upd H j.lL<|.lst<|l.map V.ref++[.ref dA]):=jZ D;have v:∀b C dx fs,H b=.ca->b≠j.lL:=λb C dx fs e=>jc e D .bG;obtain⟨a1,a2,Z,Q,R⟩:=A.pj i j g;refine⟨h.same.put<|h.off _ (h.yA g).2.2.2.2,h.off,?_,by rw[aq a2.symm];exact h.jl,by rw[aq Q.symm];exact h.ql,by rw[fz];exact h.jn,h.pn,λk m e w S=>?_,λk p r hp T=>?_,h.A5,h.AY,h.DT⟩
 ·obtain⟨dx,e⟩:=h.ob;exact⟨dx,by rw[aq<|v _ _ _ _ e];exact e⟩
 ·rcases get_set S with⟨I,J,z3⟩|⟨I,J⟩
  ·subst I J;rw[g] at w;cases w;obtain⟨dx,N,f,U⟩:=F;refine⟨⟨dx,N,by rw[aq<|v _ _ _ _ f];exact f,U.stay u⟩,by rw[aq R];exact G,l++[dA],by rw[ai,fB];rfl,by simp[M],λn t d' x y=>?_⟩;by_cases c:n<l.length
   ·rw[bN c] at x;rw[bN<|by omega] at y;exact(s n t d' x y).stay u
   ·have:n=l.length:=by
     have:=(aB.mp x).1;simp at this;omega
    subst this;have W:dA=t:=by simpa using x
    have X:a=d':=by rw[M] at y;simpa using y
    subst W X;exact E.stay u
  ·have q:=h.js k m e w J;obtain⟨b1,b2,b3,Y⟩:=A.pp k i m j w g I;exact q.stay u (bL (by obtain⟨⟨dx,N,f,_⟩,_⟩:=q;exact v _ _ _ _ f)) (bL b2)<|bL Y
 ·have q:=h.ps k p r hp T;exact q.stay u<|bL (by obtain⟨dx,dA,f,_⟩:=q;exact v _ _ _ _ f)
theorem Raw.YR(h:.bj)(t:cJ≠cP)(v:cJ≠cS){i:Nat}{j:JL}{d:JD}(l:.cq)(F:jd[i]?=.aS){dx n:Addr}{fs:.az}(w:H j.a=some (.ins cJ dx fs))(x':bv)(hp:gn K H n x'.at_):
  Raw K cS cJ cP H0 (upd H j.a<|.ins cJ dx<|iI n x' j) sA L (jd.set i { d with x:=x' }) rs:=by
 obtain⟨G,f,y⟩:=h.js i j d l F;have u:cE H (upd H j.a<|.ins cJ dx<|iI n x' j):=rX w;have c:∀b xs,H b=.aZ->b≠j.a:=λb xs e=>jc e w .bG;have o:∀b C g fs',C≠cJ->H b=some (.ins C g fs')->b≠j.a:=λb C g fs' o e=>jc e w (by intro z;cases z;exact o rfl);refine⟨h.same.put<|h.off _ (h.yA l).2.2.1,h.off,?_,by rw[aq<|c _ _ h.jl];exact h.jl,by rw[aq<|c _ _ h.ql];exact h.ql,by rw[fz];exact h.jn,h.pn,λk m e s I=>?_,λk p r A J=>?_,h.A5,h.AY,h.DT⟩
 ·obtain⟨g,e⟩:=h.ob;exact⟨g,by rw[aq<|o _ _ _ _ v.symm e];exact e⟩
 ·rcases get_set I with⟨B,D,P⟩|⟨B,D⟩
  ·subst B D;rw[l] at s;cases s;exact⟨⟨dx,n,ai,hp.stay u⟩,by rw[aq<|c _ _ f];exact f,y.stay u λxs e=>by rw[aq<|c _ _ e];exact e⟩
  ·have q:=h.js k m e s D;have na:m.a≠j.a:=λz=>B (by
    obtain⟨a1,b1⟩:=aB.mp s;obtain⟨a2,b2⟩:=aB.mp l;have M:(L.js.map (·.a))[k]'(by simpa using a1)=(L.js.map (·.a))[i]'(by simpa using a2):=by
     rw[ET,ET,b1,b2];exact z
    exact(oa h.AY).mp M)
   obtain⟨E,N,Q,O,_⟩:=id q;exact q.stay u (bL na) (bL<|c _ _ N)<|bL<|c _ _ O
 ·have q:=h.ps k p r A J;exact q.stay u<|bL (by obtain⟨g,dA,E,_⟩:=q;exact o _ _ _ _ t.symm E)
theorem IA{α:Type}{l:.aP}{x y:α}{k:Nat}(h:(l++[x])[k]?=.ao):l[k]?=.ao\/(k=l.length/\y=x):=by
 by_cases c:k<l.length
 ·rw[bN c] at h;exact .inl h
 ·have:k=l.length:=by
   have:=(aB.mp h).1;simp at this;omega
  subst this;exact .inr ⟨rfl,by simpa using h.symm⟩
theorem Raw.ac6(h:.bj){j:JL}{x:bv}(n:mP K cJ H ⟨x,[],[]⟩ j)(fr:∀b,b=j.a\/b=j.pL\/b=j.lL->b∉ .a4/\H0 b=none)(ne:j.pL≠j.lL):
  Raw K cS cJ cP H0 (upd H L.jL<|.lst<|(.b9)++[.ref j.a]) sA { L with js:=L.js++[j] } (jd++[⟨x,[],[]⟩]) rs:=by
 have A:=rY h.A5;have f:L.jL∈ .a4:=aV _<|dF _ bf;have u:cE H (upd H L.jL<|.lst<|(.b9)++[.ref j.a]):=jZ h.jl;have i:∀b C dx fs,H b=.ca->b≠L.jL:=λb C dx fs e=>jc e h.jl .bG;have np:j.pL≠L.jL:=λz=>(fr _<|.inr<|.inl rfl).1<|z▸f;have o:j.lL≠L.jL:=λz=>(fr _<|.inr<|.inr rfl).1<|z▸f;refine⟨h.same.put<|h.off _ f,λb c=>?_,?_,by rw[ai,fB];rfl,by rw[aq A.jq.symm];exact h.ql,by simp[h.jn],h.pn,λk m e d s=>?_,λk p r hp t=>?_,?_,?_,h.DT⟩
 ·have:b∈ .a4\/b=j.a\/b=j.pL\/b=j.lL:=by
   unfold foot Lay.lists at c ⊢;simp only[aH,bZ,nZ,fB,uv,List.flatMap_nil,bP,l3,dR,n9,or_false] at c ⊢;rcases c with z|(z|z|z|z|z)|(z|z)|z<;>simp[z]
  rcases this with z|z
  ·exact h.off b z
  ·exact(fr b z).2
 ·obtain⟨dx,e⟩:=h.ob;exact⟨dx,by rw[aq<|i _ _ _ _ e];exact e⟩
 ·rcases IA s with z|⟨v,w⟩
  ·have hk:k<L.js.length:=by rw[h.jn];exact(aB.mp z).1
   have d:L.js[k]?=some m:=by rw[bN hk] at d;exact d
   have q:=h.js k m e d z;obtain⟨b1,b2,_⟩:=A.pj k m d;exact q.stay u (bL (by obtain⟨⟨dx,y,g,_⟩,_⟩:=q;exact i _ _ _ _ g)) (bL b1)<|bL b2
  ·subst v w;have d:m=j:=by rw[<-h.jn] at d;simpa using d.symm
   subst d;exact n.stay u (bL (by obtain⟨⟨dx,y,g,_⟩,_⟩:=n;exact i _ _ _ _ g)) (bL np)<|bL o
 ·have q:=h.ps k p r hp t;exact q.stay u<|bL (by obtain⟨dx,dA,g,_⟩:=q;exact i _ _ _ _ g)
 ·have e:({ L with js:=L.js++[j] }:Lay).lists=L.lists++[j.pL,j.lL]:=by
   unfold Lay.lists;simp[nZ]
  rw[e,n6];refine⟨h.A5,by simp[ne],λa l b c=>?_⟩;have c:b=j.pL\/b=j.lL:=.cC
  intro z;subst z;exact(fr a<|.inr c).1<|aV _<|dF _ l
 ·rw[fB,n6];refine⟨h.AY,.m,λa l b c=>?_⟩;have c:b=j.a:=.cC
  intro z;subst z;exact(fr a<|.inl c).1<|aV _<|eP _<|dF _ l
theorem Raw.ac7(h:.bj){p:Addr}{r:bH}(l:.c7)(fr:p∉ .a4/\H0 p=none):Raw K cS cJ cP H0 (upd H L.qL<|.lst<|L.ps.map V.ref++[.aO]) sA { L with ps:=L.ps++[p] } jd (rs++[r]):=by
 have A:=rY h.A5;have j:L.qL∈ .a4:=aV _<|dF _<|aV _ bf;have u:cE H (upd H L.qL<|.lst<|L.ps.map V.ref++[.aO]):=jZ h.ql;have i:∀b C dx fs,H b=.ca->b≠L.qL:=λb C dx fs e=>jc e h.ql .bG;refine⟨h.same.put<|h.off _ j,λb d=>?_,?_,by rw[aq A.jq];exact h.jl,by rw[ai,fB];rfl,h.jn,by simp[h.pn],λk m e n o=>?_,λk q s c t=>?_,h.A5,h.AY,?_⟩
 ·have:b∈ .a4\/b=p:=by
   unfold foot Lay.lists at d ⊢;simp only[aH,bZ,n9,or_false] at d ⊢;rcases d with z|(z|z|z)|z|z|z<;>simp[z]
  rcases this with z|z
  ·exact h.off b z
  ·rw[z];exact fr.2
 ·obtain⟨dx,e⟩:=h.ob;exact⟨dx,by rw[aq<|i _ _ _ _ e];exact e⟩
 ·have q:=h.js k m e n o;obtain⟨_,_,v,w,_⟩:=A.pj k m n;exact q.stay u (bL (by obtain⟨⟨dx,D,f,_⟩,_⟩:=q;exact i _ _ _ _ f)) (bL v)<|bL w
 ·rcases IA t with z|⟨x,y⟩
  ·have hk:k<L.ps.length:=by rw[h.pn];exact(aB.mp z).1
   have c:L.ps[k]?=some q:=by rw[bN hk] at c;exact c
   have g:=h.ps k q s c z;exact g.stay u<|bL (by obtain⟨dx,dA,f,_⟩:=g;exact i _ _ _ _ f)
  ·subst x y;have c:q=p:=by rw[<-h.pn] at c;simpa using c.symm
   subst c;exact l.stay u<|bL (by obtain⟨dx,dA,f,_⟩:=l;exact i _ _ _ _ f)
 ·rw[n6];refine⟨h.DT,.m,λa B b d=>?_⟩;have d:b=p:=by simpa using d
  intro z;subst z;exact fr.1<|d▸aV _ (eP _<|eP _ B)
theorem Raw.ac8(h:.bj):Raw K cS cJ cP H0 (upd H L.jL<|.lst (.b9).dropLast) sA { L with js:=L.js.dropLast } jd.dropLast rs:=by
 have A:=rY h.A5;have g:L.jL∈ .a4:=aV _<|dF _ bf;have u:cE H (upd H L.jL<|.lst (.b9).dropLast):=jZ h.jl;have i:∀b C dx fs,H b=.ca->b≠L.jL:=λb C dx fs e=>jc e h.jl .bG;have t:∀{α:Type} {l:.aP} {k:Nat} {y:α},l.dropLast[k]?=.ao->l[k]?=.ao:=λ{α l k y} e=>by
  have:=(aB.mp e).1;rw[yH] at this;rw[ul,if_pos this] at e;exact e
 have sub:∀{α:Type} {l:.aP} {a:α},a∈l.dropLast->a∈l:=λh=>(um _).subset h;have n:∀b,b∈(L.js.dropLast.flatMap .cT)->b∈L.js.flatMap .cT:=λb f=>by
  obtain⟨j,o,d⟩:=gP.mp f;exact gP.mpr ⟨j,sub o,d⟩
 refine⟨h.same.put<|h.off _ g,λb f=>?_,?_,by rw[ai,ER],by rw[aq A.jq.symm];exact h.ql,by simp[h.jn],h.pn,λk m e d w=>?_,λk p r hp x=>?_,?_,?_,h.DT⟩
 ·refine h.off b ?_;unfold foot Lay.lists at f ⊢;simp only[aH,bZ] at f ⊢;rcases f with z|(z|z|z)|z|z
  ·exact .inl z
  ·exact .inr<|.inl<|.inl z
  ·exact .inr<|.inl<|.inr<|.inl z
  ·exact .inr<|.inl<|.inr<|.inr<|n b z
  ·obtain⟨j,o,rfl⟩:=b6.mp z;exact .inr<|.inr<|.inl<|b6.mpr ⟨j,sub o,rfl⟩
  ·exact .inr<|.inr<|.inr z
 ·obtain⟨dx,e⟩:=h.ob;exact⟨dx,by rw[aq<|i _ _ _ _ e];exact e⟩
 ·have d:=t d;have q:=h.js k m e d<|t w;obtain⟨b1,b2,_⟩:=A.pj k m d;exact q.stay u (bL (by obtain⟨⟨dx,D,s,_⟩,_⟩:=q;exact i _ _ _ _ s)) (bL b1)<|bL b2
 ·have q:=h.ps k p r hp x;exact q.stay u<|bL (by obtain⟨dx,dA,s,_⟩:=q;exact i _ _ _ _ s)
 ·have v:=h.A5;unfold Lay.lists at v ⊢;have B:(L.js.dropLast.flatMap .cT).Sublist (L.js.flatMap .cT):=by
   have:∀l:List JL,(l.dropLast.flatMap .cT).Sublist (l.flatMap .cT):=λl=>by
    by_cases c:l=[]
    ·subst c;exact Mc _
    ·have e:=Et c;have:(l.flatMap .cT)=(l.dropLast.flatMap .cT)++([l.getLast c].flatMap .cT):=by rw[<-nZ,e]
     rw[this];exact List.sublist_append_left _ _
   exact this L.js
  exact v.sublist<|(B.cons_cons _).cons_cons _
 ·have:=h.AY;exact this.sublist<|(um L.js).map _
theorem Raw.ada(h:.bj)(l:cJ≠cP)(n:cP≠cS){k:Nat}{p:Addr}{r:bH}(hp:L.ps[k]?=some p)(G:rs[k]?=some r){dx dA:Addr}{fs:.az}(o:H p=some (.ins cP dx fs))(c:bH)(w:iL K H dA c.dir):
  Raw K cS cJ cP H0 (upd H p<|.ins cP dx<|mN dA c) sA L jd (rs.set k c):=by
 have u:cE H (upd H p<|.ins cP dx<|mN dA c):=rX o;have d:∀b xs,H b=.aZ->b≠p:=λb xs e=>jc e o .bG;have f:∀b C a fs',C≠cP->H b=some (.ins C a fs')->b≠p:=λb C a fs' f e=>jc e o (by intro z;cases z;exact f rfl);have x:p∈ .a4:=aV _<|eP _<|eP _<|bc hp;refine⟨h.same.put<|h.off _ x,h.off,?_,by rw[aq<|d _ _ h.jl];exact h.jl,by rw[aq<|d _ _ h.ql];exact h.ql,h.jn,by rw[fz];exact h.pn,λi m e y A=>?_,λi q B j s=>?_,h.A5,h.AY,h.DT⟩
 ·obtain⟨a,e⟩:=h.ob;exact⟨a,by rw[aq<|f _ _ _ _ n.symm e];exact e⟩
 ·have q:=h.js i m e y A;obtain⟨⟨a,I,D,_⟩,E,J,F,_⟩:=id q;exact q.stay u (bL<|f _ _ _ _ l D) (bL<|d _ _ E)<|bL<|d _ _ F
 ·rcases get_set s with⟨t,v,_⟩|⟨t,v⟩
  ·subst t v;rw[hp] at j;cases j;exact⟨dx,dA,ai,w.stay u⟩
  ·have g:=h.ps i q B j v;refine g.stay u<|bL λz=>t ?_;subst z;obtain⟨a1,b1⟩:=aB.mp j;obtain⟨a2,b2⟩:=aB.mp hp;exact(oa h.DT).mp<|b1.trans b2.symm
end
end Pr
namespace L2
open PySem PySem.Spec PyProof.Rows
structure Bj(P:Program)(w:World)(K:ah)(mg:.aa)(base:Heap)(k:Nat)(x:Str)(C:Addr)(ps:.L)(sp:Sp)(f:Addr)(fd:FuncData):Prop where
 yc:mg x=some .I
 mk_:Mk K C f
 bd:Binds K fd ps []
 ok:aX P w K mg base bV k f fd ps sp
section
variable{X:Cx}{k n:Nat}{f C:Addr}{fd:FuncData}{ps:.L}{sp:Sp}{x:Str}{p pos:Pos}{e:Expr}{es:.aU}{t:TA}
theorem D9(G:Bj X.prog X.w X.K X.mg X.base k x C ps sp f fd)(c:fK n X.A)(d:.cD)(hk:k+1<=n:=by decide)(g:Gl X x:=by rfl)(a:.bc:=by decide)(h:.cm:=by rfl)
  (b:(.cK).any (·.1)=false:=by rfl):PE X .dF (KJ C sp [] E0 t):=Ua G.mk_ G.ok (c.mono hk) g G.yc G.bd .nil aP d a h b
theorem yB(G:Bj X.prog X.w X.K X.mg X.base k x C ps sp f fd)(b:fK n X.A)(hk:k+1<=n:=by decide)(c:Gl X x:=by rfl)(a:.bc:=by decide):PE X (.Call (.Name x p) [] [] pos) (KJ C sp [] E0 Hq):=PK G.mk_ G.ok (b.mono hk) c G.yc G.bd .nil aP a
end
end L2
namespace Pr
open PySem PySem.Spec PyProof.Rows L2 Pw TL
abbrev abi:Stmt:=inClass (top 74) 0
abbrev abj:Stmt:=inClass (top 75) 0
abbrev abk:Stmt:=inClass qp 0
abbrev WR:Stmt:=inClass qp 1
abbrev WS:Stmt:=inClass qp 2
abbrev abl:Stmt:=inClass qp 3
abbrev WT:Stmt:=inClass qp 4
abbrev Vj:Stmt:=inClass qp 5
abbrev WU:Stmt:=inClass qp 11
theorem abm:az .dA .dA (ao abi):=fscope
theorem abn:az .e0 .e0 (ao abj):=fscope
theorem abo:az .ae .ae (ao abk):=fscope
theorem YS:az .dA .dA (ao WR):=fscope
theorem YT:az ["self","begin","direction","millimetres","radius","finish"] .fN (ao WS):=fscope
theorem abp:az .eO .eO (ao abl):=fscope
theorem YU:az ["self","joint","last"] ["self","joint"] (ao WT):=fscope
abbrev YV:.L:=["self","number","direction","radius","joint","turns","other","angle"]
theorem RR:az YV .ff (ao Vj):=fscope
theorem YW:az .cn .cn (ao WU):=fscope
abbrev But(x:Addr)(H H':Hp):Prop:=∀b o,b≠x->.dU
def WV(cJ:Addr):Sp:=λvs H Q _=>∃(x dx b:Addr),vs=[.aB,.aM]/\H x=some (.ins cJ dx [])/\
 ∀(H':Hp) (j:JL),j.a=x->j.pL≠j.lL->H j.pL=none->H j.lL=none->But x H H'->H' x=some (.ins cJ dx [("place",.aM),("named",.bl false),("valve",.bl false),("ending",.str ""),("pipes",.ref j.pL),("leaving",.ref j.lL)])->
  H' j.pL=some (.lst [])->H' j.lL=some (.lst [])->Q .non H'
def WW(cP:Addr):Sp:=λvs H Q _=>∃(x dx dA:Addr) (b e n r:Int),vs=[.aB,.int b,.int e,.ref dA,.int n,.int r]/\H x=some (.ins cP dx [])/\
 Q .non (upd H x<|.ins cP dx [("begin",.int b),("finish",.int e),("direction",.ref dA),("millimetres",.int n),("radius",.int r)])
def RS(cS:Addr):Sp:=λvs H Q _=>∃(x dx:Addr),vs=[.aB]/\H x=some (.ins cS dx [])/\
 ∀(H':Hp) (a b:Addr),a≠b->H a=none->.aR->But x H H'->H' x=some (.ins cS dx [("joints",.E),("pipes",.aM)])->H' a=some (.lst [])->H' b=some (.lst [])->Q .non H'
section
variable{P:Program}{w:World}{K:ah}{mg:.aa}{base:Heap}{cS cJ cP:Addr}
theorem YX{f:Addr}{fd:FuncData}(F:d8 K "__init__" "Joint.__init__" abi f fd)(c:.aA):aX P w K mg base bV 1 f fd .dA (WV cJ):=by
 refine F.ok1 abm ?_;rintro cdv A outer st H _ Q E n p ⟨x,dx,q,rfl,m,k⟩;refine⟨_,(af (cO .j .o rfl)<|af (cO .j mH rfl)<|af (cO .j mH rfl)<|af (cO .j eU rfl)<|af (cO .j (eW ak) rfl)<|ap<|cO .j (eW ak) rfl),?_⟩;refine⟨_,rfl,_,rfl,x,cJ,dx,_,rfl,m,c.J,c.A3,.O,?_⟩;refine⟨_,rfl,x,cJ,dx,_,rfl,ai,c.J,c.JM,.dJ,?_⟩;refine⟨_,rfl,x,cJ,dx,_,rfl,ai,c.J,c.xg,.d6,?_⟩;refine⟨_,rfl,x,cJ,dx,_,rfl,ai,c.J,c.vO,(by show 3<1000;decide),?_⟩;rw[g9,g9,g9];refine⟨bj _,λi d=>?_⟩;have g:x≠i:=.eT
 rw[aq<|aF g] at d;refine⟨_,rfl,x,cJ,dx,_,rfl,by rw[aq g,ai],c.J,c.pU,(by show 4<1000;decide),?_⟩;refine⟨bj _,λj a=>?_⟩;have h:x≠j:=λz=>by rw[<-z,ai] at a;cases a
 rw[aq<|aF h] at a;have l:i≠j:=λz=>by rw[<-z,ai] at a;cases a
 rw[aq<|aF l,aq<|aF h] at a;refine⟨_,rfl,x,cJ,dx,_,rfl,by rw[aq h,ai],c.J,c.A4,(by show 5<1000;decide),?_⟩;refine k _ ⟨x,i,j⟩ rfl l d a (λb o nb e=>?_) ?_ ?_ ?_
 ·rw[aq nb,aq<|aC e a,aq nb,aq<|aC e d,aq nb];exact e
 ·rw[ai];rfl
 ·rw[aq<|aF g,aq l,aq<|aF g,ai]
 ·rw[aq<|aF h,ai]
theorem YY{f:Addr}{fd:FuncData}(F:d8 K "__init__" "Pipe.__init__" abj f fd)(a:.aA):aX P w K mg base bV 1 f fd .e0 (WW cP):=by
 refine F.ok1 abn ?_;rintro cdv A outer st H _ Q E d g ⟨x,dx,dA,b,e,n,r,rfl,c,k⟩;refine⟨_,(af (cO .j .o rfl)<|af (cO .j .M rfl)<|af (cO .j .aj rfl)<|af (cO .j .ay rfl)<|ap<|cO .j (pv 5) rfl),?_⟩;refine⟨_,rfl,_,rfl,x,cP,dx,_,rfl,c,a.P,a.tL,.O,?_⟩;refine⟨_,rfl,_,rfl,x,cP,dx,_,rfl,ai,a.P,a.pV,.dJ,?_⟩;refine⟨_,rfl,_,rfl,x,cP,dx,_,rfl,ai,a.P,a.kC,.d6,?_⟩;refine⟨_,rfl,_,rfl,x,cP,dx,_,rfl,ai,a.P,a.vP,(by show 3<1000;decide),?_⟩;refine⟨_,rfl,_,rfl,x,cP,dx,_,rfl,ai,a.P,a.vQ,(by show 4<1000;decide),?_⟩;rw[g9,g9,g9,g9];exact k
theorem YZ{f:Addr}{fd:FuncData}(F:d8 K "__init__" "System.__init__" abk f fd)(g:.aA):aX P w K mg base bV 1 f fd .ae (RS cS):=by
 refine F.ok1 abo ?_;rintro cdv A outer st H _ Q E p q ⟨x,dx,rfl,m,k⟩;refine⟨_,(af (cO .j (eW ak) rfl)<|ap<|cO .j (eW ak) rfl),?_⟩;refine⟨bj _,λa h=>?_⟩;have i:x≠a:=aC m h;refine⟨_,rfl,x,cS,dx,_,rfl,by rw[aq i];exact m,g.S,g.b5,.O,?_⟩;refine⟨bj _,λb d=>?_⟩;have j:x≠b:=.eT
 rw[aq<|aF j] at d;have l:a≠b:=.eT
 rw[aq<|aF l] at d;refine⟨_,rfl,x,cS,dx,_,rfl,by rw[aq j,ai],g.S,g.gZ,.dJ,?_⟩;refine k _ a b l h d (λc o n e=>?_) ?_ ?_ ?_
 ·rw[aq n,aq<|aC e d,aq n,aq<|aC e h];exact e
 ·rw[ai];rfl
 ·rw[aq<|aF i,aq l,aq<|aF i,ai]
 ·rw[aq<|aF j,ai]
def xS(p:eM):JD:=⟨⟨p,0,none⟩,[],[]⟩
def xk(k d:Nat)(x:JD):JD:={ x with ends:=x.ends++[k],j9:=x.j9++[d] }
def J6(K:ah)(cS cJ cP:Addr):Sp:=λvs H Q _=>∃(sA a:Addr) (H0:Hp) (L:Lay) (jd:List JD) (rs:List bH) (p:eM),vs=[.al,.E]/\.bj/\gn K H a p/\jd.length<=2000/\
 ∀(H':Hp) (b:Lay),Raw K cS cJ cP H0 H' sA b (jd++[xS p]) rs->Q (.int (jd.length:Nat)) H'
def RT(K:ah)(cS cJ cP:Addr):Sp:=λvs H Q _=>∃(sA dA:Addr) (H0:Hp) (L:Lay) (jd:List JD) (rs:List bH) (i k a:Nat) (d:JD),vs=[.al,.bC,.int (k:Nat),.ref dA]/\.bj/\jd[i]?=.aS/\iL K H dA a/\d.ends.length<=5000/\d.j9.length<=5000/\
 ∀(H':Hp),Raw K cS cJ cP H0 H' sA L (jd.set i<|xk k a d) rs->Q .non H'
theorem Raw.vW{H0 H:Hp}{sA:Addr}{L:Lay}{jd:List JD}{rs:List bH}(h:.bj){b:Addr}(a:.aR):b∉ .a4:=λz=>by
 rcases h.kinds z with⟨xs,q⟩|⟨C,dx,fs,q,_⟩<;>rw[a] at q<;>cases q
theorem Vk{f I:Addr}{fd J:FuncData}(F:d8 K "add_joint" "System.add_joint" WR f fd)(B:nG mg)(q:.aA)(M:Bj P w K mg base 1 "Joint" cJ .dA (WV cJ) I J):aX P w K mg base bV 3 f fd .dA (J6 K cS cJ cP):=by
 refine F.ok1 YS ?_;rintro cdv A outer st H _ Q E N nd ⟨sA,G,H0,L,jd,rs,p,rfl,l,O,hl,k⟩;refine⟨_,(af (aL<|mL fV gz gW fP .V<|ae (D9 M N<|ae .o ak) ak)<|ap<|aJ<|dm pN .eE aD),?_⟩;obtain⟨R,T⟩:=l.ob;have jn:=l.jn;refine⟨_,rfl,sA,cS,R,_,_,rfl,T,q.S,q.b5,rfl,.inl ⟨rfl,_,bh.of l.jl⟩,_,rfl,λx dx r s U=>?_⟩;refine⟨x,dx,G,rfl,ai,λH1 j W X hp g Y t Z u=>⟨rfl,?_⟩⟩;have h:j.a=x:=W;have v:j.pL≠x:=λz=>by rw[z,ai] at hp;cases hp
 have y:j.lL≠x:=λz=>by rw[z,ai] at g;cases g
 rw[aq v] at hp;rw[aq y] at g;have C:j.pL≠dx:=λz=>by rw[z,ai] at hp;cases hp
 have D:j.lL≠dx:=λz=>by rw[z,ai] at g;cases g
 rw[aq C] at hp;rw[aq D] at g;have s1:Same H H1:=λb o e=>Y b o (aC e r) (by rw[aq<|aC e r,aq<|aC e s];exact e);have m:=l.lC s1;have hJ:mP K cJ H1 (xS p) j:=⟨⟨dx,G,by rw[h];exact t,O.same s1⟩,Z,[],u,rfl,λi da d z=>by simp at z⟩;refine⟨L.jL,_,_,rfl,rfl,m.jl,by rw[au,jn,sizeLine_eq];omega,?_⟩;have nf:∀b,b=j.a\/b=j.pL\/b=j.lL->b∉ .a4/\H0 b=none:=λb hb=>by
  have n:.aR:=by
   rcases hb with z|z|z<;>rw[z]
   ·rw[h];exact r
   ·exact hp
   ·exact g
  exact⟨l.vW n,l.same.free n⟩
 rw[<-h];have c:=m.ac6 hJ nf X;generalize upd H1 L.jL (.lst<|(.b9)++[V.ref j.a])=H2 at c;obtain⟨Ti,Tj⟩:=c.ob;refine⟨_,rfl,sA,cS,Ti,_,_,rfl,Tj,q.S,q.b5,rfl,L.jL,_,rfl,.inl<|bh.of c.jl,_,_,rfl,rfl,?_⟩;have el:(((L.js++[j]).map λj=>V.ref j.a).length:Int)-1=(jd.length:Nat):=by simp[jn]
 show Q (.int<|(((L.js++[j]).map λj=>V.ref j.a).length:Int)-1) H2;rw[el];exact k H2 _ c
theorem Y0{f:Addr}{fd:FuncData}(F:d8 K "lay" "System.lay" abl f fd)(b:.aA):aX P w K mg base bV 1 f fd .eO (RT K cS cJ cP):=by
 refine F.ok1 abp ?_;rintro cdv A outer st H _ Q E T U ⟨sA,dA,H0,L,jd,rs,i,c,p,d,rfl,o,q,z,W,l2,k⟩;refine⟨_,(af (aL<|mL fV gz gW fP (aw (bG .V<|pv 1) rfl)<|ae .M ak)<|ap<|aL<|mL fV gz gW fP (aw (bG .V<|pv 1) rfl)<|ae .aj ak),?_⟩;obtain⟨B,C⟩:=o.ob;obtain⟨j,g,⟨D,X,G,I⟩,r,M⟩:=o.joint q;refine⟨_,rfl,sA,cS,B,_,_,rfl,C,b.S,b.b5,rfl,_,rfl,L.jL,_,_,_,rfl,rfl,bh.of o.jl,cv g,j.a,cJ,D,_,_,rfl,G,b.J,b.pU,rfl,.inl ⟨rfl,_,bh.of r⟩,_,rfl,j.pL,_,_,rfl,rfl,r,.et,?_⟩;have N:aW d.ends++[V.int (c:Nat)]=aW (d.ends++[c]):=by simp[aW]
 rw[N];have h:=o.Vh g q<|d.ends++[c];have l:iL K (upd H j.pL<|.lst<|aW<|d.ends++[c]) dA p:=z.stay<|jZ r;generalize upd H j.pL (.lst<|aW<|d.ends++[c])=H1 at h l;have hi:=(aB.mp q).1;have m:(jd.set i { d with ends:=d.ends++[c] })[i]?=some { d with ends:=d.ends++[c] }:=gI hi;obtain⟨s,t⟩:=h.ob;obtain⟨Y,n,⟨u,O,v,_⟩,_,R,e,x,y⟩:=h.joint m;rw[g] at n;cases n;refine⟨_,rfl,sA,cS,s,_,_,rfl,t,b.S,b.b5,rfl,_,rfl,L.jL,_,_,_,rfl,rfl,bh.of h.jl,cv g,j.a,cJ,u,_,_,rfl,v,b.J,b.A4,rfl,.inl ⟨rfl,_,bh.of e⟩,_,rfl,j.lL,_,_,rfl,rfl,e,by rw[au,sizeLine_eq];have:R.length=d.j9.length:=x;omega,?_⟩;have R2:=h.Vi g m e l;rw[List.set_set] at R2;exact k _ R2
def vX(jd:List JD)(q b a:Nat)(d:JD)(p:eM):List JD:=((jd++[xS p]).set b<|xk q a d).set jd.length<|xk q (fT a)<|xS p
def RU(K:ah)(cS cJ cP:Addr):Sp:=λvs H Q _=>∃(sA dA:Addr) (H0:Hp) (L:Lay) (jd:List JD) (rs:List bH) (b n c a:Nat) (d:JD),vs=[.al,.int (b:Nat),.ref dA,.int (n:Nat),.int (c:Nat)]/\.bj/\jd[b]?=.aS/\iL K H dA a/\a<18/\
 jd.length<=2000/\rs.length<=2000/\d.ends.length<=5000/\d.j9.length<=5000/\
 ∀(H':Hp) (e:Lay),Raw K cS cJ cP H0 H' sA e (vX jd rs.length b a d<|d.x.at_.go a n) (rs++[⟨b,jd.length,a,n,c⟩])->Q (.int (jd.length:Nat)) H'
theorem xl{K:ah}{H:Hp}{t a:Nat}(h:a<18)(q:gm K H t [.int<|-(bD a).1,.int<|-(bD a).2.1,.int<|-(bD a).2.2]):iL K H t (fT a):=by
 unfold iL;rw[(D5 a h).2];exact q
theorem Vl{f f1 f2 f3 f4 f5:Addr}{fd eX G qz tM QS:FuncData}(F:d8 K "add_pipe" "System.add_pipe" WS f fd)(B:nG mg)(e:.aA)(G1:iQ P w K mg base bV 3 cS "add_joint" .dA (J6 K cS cJ cP) f1 eX)(G2:dQ P w K mg base bV 2 "gone" ["place","direction","millimetres"] (Ri K) f2 G)
  (G3:Bj P w K mg base 1 "Pipe" cP .e0 (WW cP) f3 qz) (Z:iQ P w K mg base bV 1 cS "lay" .eO (RT K cS cJ cP) f4 tM) (G5:dQ P w K mg base bV 1 "opposite" ["direction"] (Lj K) f5 QS):
  aX P w K mg base bV 4 f fd .fN (RU K cS cJ cP):=by
 refine F.ok1 YT ?_;rintro cdv A outer st H _ Q E i nd ⟨sA,dA,H0,L,jd,rs,b,n,I,c,d,rfl,C,M,hD,ld,lj,lr,l1,l2,k⟩;refine⟨_,(af (bu 5<|bR G1 i .j aP<|ae (dG G2 i aP<|ae (aw (bG .V<|pv 1) rfl)<|ae .M<|ae .aj ak) ak)<|af (aL<|mL fV gz gW fP .V<|ae (D9 G3 i<|ae .o<|ae (pv 5)<|ae .M<|ae .aj<|ae .ay ak) ak)<|af (aL<|bR Z i .j aP<|ae .o<|ae (dm pN .eE aD)<|ae .M ak)<|af (aL<|bR Z i .j aP<|ae (pv 5)<|ae (dm pN .eE aD)<|ae (dG G5 i aP<|ae .M ak) ak)<|ap<|aJ<|pv 5),?_⟩;obtain⟨dS,oS⟩:=C.ob;obtain⟨j,hj,⟨dJ,pA,oJ,N⟩,J5,abq⟩:=C.joint M;have bl:=(aB.mp M).1;refine⟨_,rfl,sA,dS,_,rfl,oS,rfl,?_⟩;refine⟨_,rfl,sA,cS,dS,_,_,rfl,oS,e.S,e.b5,rfl,_,rfl,L.jL,_,_,_,rfl,rfl,bh.of C.jl,cv hj,j.a,cJ,dJ,_,_,rfl,oJ,e.J,e.A3,rfl,_,rfl,_,rfl,pA,dA,d.x.at_,c,(n:Nat),rfl,N,hD,ld,λH1 t ht s1=>?_⟩;have O:=C.lC s1;refine⟨sA,t,_,L,jd,rs,_,rfl,O.seen,ht,lj,λH2 L2 g=>?_⟩;have T2:=O.stay g;have R2:=O.back g;clear g;have l:iL K H2 dA c:=(hD.same s1).stay T2;obtain⟨Ti,Tj⟩:=R2.ob;have m:=R2.pn;refine⟨_,rfl,sA,cS,Ti,_,_,rfl,Tj,e.S,e.gZ,rfl,.inl ⟨rfl,_,bh.of R2.ql⟩,_,rfl,_,rfl,_,rfl,_,rfl,_,rfl,λx dx D R ndx=>?_⟩;refine⟨x,dx,dA,_,_,_,_,rfl,ai,rfl,?_⟩;have T:Same H2 (upd (upd (upd H2 dx<|.own x) x<|.ins cP dx []) x<|.ins cP dx<|mN dA ⟨b,jd.length,c,n,I⟩):=(((Same.refl H2).put R).put D).put D;have U:=R2.lC T;have W:jX K cP (upd (upd (upd H2 dx<|.own x) x<|.ins cP dx []) x<|.ins cP dx<|mN dA ⟨b,jd.length,c,n,I⟩) ⟨b,jd.length,c,n,I⟩ x:=⟨dx,dA,ai,l.same T⟩;have Yp:=l.same T;refine⟨L2.qL,_,_,rfl,rfl,U.ql,by rw[au,m,sizeLine_eq];omega,?_⟩;have p:=U.ac7 W ⟨R2.vW D,R2.same.free D⟩;have q:=Yp.stay<|jZ (o:=.lst<|L2.ps.map V.ref++[.aB]) U.ql;have gj:(jd++[xS<|d.x.at_.go c n])[b]?=.aS:=by rw[bN bl];exact M
 obtain⟨r,s⟩:=p.ob;have u:(((L2.ps++[x]).map V.ref).length:Int)-1=(rs.length:Nat):=by simp[m]
 refine⟨_,rfl,sA,r,_,rfl,s,rfl,_,rfl,_,rfl,sA,cS,r,_,_,rfl,s,e.S,e.gZ,rfl,L2.qL,_,rfl,.inl<|bh.of p.ql,_,_,rfl,rfl,_,rfl,?_⟩;refine⟨sA,dA,_,_,_,_,b,rs.length,c,d,congrArg (λz=>[V.ref sA,V.int (b:Nat),V.int z,V.ref dA]) u,p.seen,gj,q,l1,l2,λH5 h=>?_⟩;have T5:=p.stay h;have X:=p.back h;clear h;have hX:=q.stay T5;have ge:((jd++[xS<|d.x.at_.go c n]).set b<|xk rs.length c d)[jd.length]?=some (xS<|d.x.at_.go c n):=by
  rw[fQ<|by omega];simp
 obtain⟨v,y⟩:=X.ob;refine⟨_,rfl,sA,v,_,rfl,y,rfl,_,rfl,_,rfl,sA,cS,v,_,_,rfl,y,e.S,e.gZ,rfl,L2.qL,_,rfl,.inl<|bh.of X.ql,_,_,rfl,rfl,_,rfl,dA,_,_,_,rfl,hX,λH6 t6 Y hn6 s6=>?_⟩;have R6:=X.lC s6;refine⟨sA,t6,_,_,_,_,jd.length,rs.length,fT c,_,congrArg (λz=>[V.ref sA,V.int (jd.length:Nat),V.int z,V.ref t6]) u,R6,ge,xl ld<|gm.of Y,bj _,bj _,λH7 R7=>?_⟩;exact⟨_,rfl,k H7 _ R7⟩
def RV(K:ah)(cS cJ cP:Addr):Sp:=λvs H Q _=>∃(sA:Addr) (H0:Hp) (L:Lay) (jd:List JD) (rs:List bH) (j:Nat) (d:JD) (r:bH),vs=[.al,.int .aL]/\.bj/\rs[rs.length-1]?=some r/\r.dir<18/\jd≠[]/\jd.dropLast[j]?=.aS/\
 rs.length<=2000/\d.ends.length<=5000/\d.j9.length<=5000/\
 ∀(H':Hp) (a:Lay),Raw K cS cJ cP H0 H' sA a (jd.dropLast.set j<|xk (rs.length-1) (fT r.dir) d) (rs.set (rs.length-1) { r with to_:=j })->Q .non H'
def yd(rs:List bH)(d:JD)(a b:Nat):Bool:=
 if 4<=d.ends.length then false else if(d.j9.all λo=>decide (bT o a∈ .bJ))=false then false else if d.ends.length≠1 then true
 else if d.x.kind=1\/(rs[d.ends.headD 0]?.map λr=>r.radius)≠some b then decide (bT (d.j9.headD 0) a=180) else true
def RW(K:ah)(cS cJ cP:Addr):Sp:=λvs H Q _=>∃(sA dA:Addr) (H0:Hp) (L:Lay) (jd:List JD) (rs:List bH) (i b a:Nat) (d:JD),vs=[.al,.bC,.ref dA,.int (b:Nat)]/\.bj/\jd[i]?=.aS/\iL K H dA a/\a<18/\(∀o,o∈d.j9->o<18)/\
 d.ends.length=d.j9.length/\d.ends.length<=5000/\(∀q,q∈d.ends->q<rs.length)/\∀H',.Q->Q (.bl<|yd rs d a b) H'
theorem AB{xs:.r}{y:V}(h:xs[xs.length-1]?=.ao):AA xs (-1)=.ao:=by
 have a:=(aB.mp h).1;unfold AA N3;rw[.aC,.bX];show xs[(-1+(xs.length:Int)).toNat]?=_;rw[show (-1+(xs.length:Int)).toNat=xs.length-1 by omega];exact h
theorem Vm{f O R:Addr}{fd T U:FuncData}(F:d8 K "lead_last_pipe_to" "System.lead_last_pipe_to" WT f fd)(B:nG mg)(b:.aA)(s:cP≠cS)(W:iQ P w K mg base bV 1 cS "lay" .eO (RT K cS cJ cP) O T)(X:dQ P w K mg base bV 1 "opposite" ["direction"] (Lj K) R U):
  aX P w K mg base bV 2 f fd ["self","joint"] (RV K cS cJ cP):=by
 refine F.ok1 YU ?_;rintro cdv A outer st H _ Q E D nd ⟨sA,H0,L,jd,rs,j,d,r,rfl,c,e,ld,t,Y,lr,Z,l2,k⟩;refine⟨_,(af (bu 2<|bG .V<|KB DA aD)<|af (aL<|PR fV zo FK PV<|aw .j rfl)<|af (cO .M .o rfl)<|ap<|aL<|bR W D .j aP<|ae .o<|ae (dm pN .eE aD)<|ae (dG X D aP<|ae (aw .M rfl) ak) ak),?_⟩;obtain⟨G,I⟩:=c.ob;obtain⟨p,hp,hPA⟩:=c.pipe e;have pn:=c.pn;have jn:=c.jn;have rl:=(aB.mp e).1;have h:(L.ps.map V.ref)[.d7-1]?=some .aO:=by rw[au,pn,b8,hp];rfl
 refine⟨_,rfl,sA,cS,G,_,_,rfl,I,b.S,b.gZ,rfl,_,rfl,L.qL,_,_,_,rfl,rfl,bh.of c.ql,AB h,?_⟩;obtain⟨jx,u⟩:∃x,.b9[(.b9).length-1]?=.v:=⟨_,bo (by
  rw[au,jn];have:0<jd.length:=uq.mpr t;omega)⟩
 refine⟨_,rfl,sA,cS,G,_,_,rfl,I,b.S,b.b5,rfl,.inl ⟨rfl,_,bh.of c.jl⟩,L.jL,_,_,rfl,rfl,c.jl,u,?_⟩;have v:=c.ac8;have T1:cE H (upd H L.jL<|.lst (.b9).dropLast):=jZ c.jl;generalize upd H L.jL (.lst (.b9).dropLast)=H1 at v T1;obtain⟨p1,m,l,g,i,n⟩:=v.pipe e;have e1:p1=p:=by
  have:L.ps[rs.length-1]?=some p1:=m;rw[hp] at this;exact(aI this).symm
 subst e1;refine⟨_,rfl,_,rfl,p1,cP,l,_,rfl,i,b.P,b.pV,(by show 5<1000;decide),?_⟩;have R2:=v.ada b.jp s m e i { r with to_:=j } (dA:=g) n;have o:iL K (upd H1 p1<|.ins cP l<|mN g { r with to_:=j }) g r.dir:=n.stay<|rX i;have q:(upd H1 p1<|.ins cP l<|mN g { r with to_:=j }) p1=some (.ins cP l<|mN g { r with to_:=j }):=ai;have ep:eV "finish" (V.int .aL) (mN g r)=mN g { r with to_:=j }:=rfl;rw[ep];generalize upd H1 p1 (.ins cP l<|mN g { r with to_:=j })=H2 at R2 o q;obtain⟨J,M⟩:=R2.ob;have y:(.d7:Int)-1=((rs.length-1:Nat):Int):=by rw[au,pn];omega
 refine⟨_,rfl,sA,J,_,rfl,M,rfl,_,rfl,_,rfl,sA,cS,J,_,_,rfl,M,b.S,b.gZ,rfl,L.qL,_,rfl,.inl<|bh.of R2.ql,_,_,rfl,rfl,_,rfl,p1,cP,l,_,_,rfl,q,b.P,b.kC,rfl,g,_,_,_,rfl,o,λH6 N C hn6 s6=>?_⟩;have R6:=R2.lC s6;exact⟨sA,N,_,_,_,_,j,rs.length-1,fT r.dir,d,congrArg (λz=>[V.ref sA,V.int .aL,V.int z,V.ref N]) y,R6,Y,xl ld<|gm.of C,Z,l2,λH7 R7=>k H7 _ R7⟩
theorem pD{α:Type}(l:.aP)(g:α->V)(n:Nat)(h:n=l.length):(a8 n).filterMap (λi=>l[i]?.bind λa=>some<|g a)=l.map g:=by
 subst h;rw[jr];induction l with
 |nil=>rfl
 |cons a r ih=>simp[ih]
theorem RY(z:Int)(l:.ak):inV (.int z) (l.map V.int)=decide (z∈l):=by
 unfold inV;induction l with
 |nil=>rfl
 |cons a r ih=>
  rw[bP,lZ,ih];have e:PN (.int a) (.int z)=decide (z=a):=by
   show(a == z)=_;by_cases c:z=a
   ·subst c;simp
   ·have c':¬a=z:=λq=>c q.symm;simp[c,c']
  rw[e];by_cases c:z=a
  ·simp[c]
  ·simp[c]
theorem Y1{f f1 aT:Addr}{fd eX:FuncData}(F:d8 K "may_leave" "System.may_leave" Vj f fd)(B:nG mg)(g:.aA){t1 t2:Tok}(hM:mg "MOST_PIPES_AT_A_JOINT"=some (.int 4 t1))(hSt:mg "STRAIGHT"=some (.int 180 t2))(hA:mg "ALLOWED_TURNS"=some (.ref aT))(hAT:KTup K aT [.int 90,.int 135,.int 180])
  (GT:dQ P w K mg base bV 2 "turn" .bY (Rh K) f1 eX):aX P w K mg base bV 3 f fd .ff (RW K cS cJ cP):=by
 refine F.ok1 RR ?_;rintro cdv A outer st H _ Q E hr nd ⟨sA,dA,H0,L,jd,rs,i,G,b,d,rfl,T,hd,hD,ld,hds,I,l5,hes,k⟩;refine⟨_,(af (bu 4<|bG .V<|pv 1)<|af (cx (a9 KF (dz B.len<|aw .ay rfl) (aR .s hM (v:=.int 4) .Y)<|a0 _) (ap<|aJ mH) bE)<|af (rH (i:=5) rfl RR.nd rfl rfl .s (cB<|aw .ay rfl) ((bO (by(show iP YV (ao Vj) _ _=true);decide +kernel))) (own:=[("other",6)]) (λs H C cl U=>bX 6) (λs H C cl U=>eB) λs H C cl U=>WA GT hr aP<|ae (pv 6)<|ae .M ak)<|af (cx (tF<|ko<|df (wV rfl) .s B.all xf<|ae (gH rfl RR.nd (cB<|pv 5) ((bO (by(show iP YV (ao Vj) _ _=true);decide +kernel))) (own:=[("angle",7)]) (λs H C cl U=>bX 7) (λs H C cl U=>eB) λs H C cl U=>fj (r:=rIn K false) wU (pv 7) (aR .s hA (v:=.ref aT) rfl) rfl) ak) (ap<|aJ mH) bE)<|af (cx (a9 Ap (dz B.len<|aw .ay rfl) aD<|a0 _) (ap<|aJ mH) bE)<|af (cx (Hm (ko<|aw .ay rfl)<|Du<|a9 Ap (aw (bG .V<|bG (aw .ay rfl) aD) rfl) .aj<|a0 _).pt (ap<|aJ<|fj fo (bG (pv 5) aD) (aR .s hSt (v:=.int 180) .Y)<|a0 _) bE)<|ap<|aJ mH),?_⟩;obtain⟨dS,oS⟩:=T.ob;obtain⟨j,hj,⟨W,pA,oJ,hpl⟩,J5,yb,X,M,Y⟩:=T.joint hd;have no:yd rs d b G=false->∀H',.Q->Q (.bl false) H':=.eQ
 have ye:yd rs d b G=true->∀H',.Q->Q (.bl true) H':=.eQ
 refine⟨_,rfl,sA,cS,dS,_,_,rfl,oS,g.S,g.b5,rfl,_,rfl,L.jL,_,_,_,rfl,rfl,bh.of T.jl,cv hj,?_⟩;refine⟨_,rfl,j.a,cJ,W,_,_,rfl,oJ,g.J,g.pU,rfl,j.pL,_,rfl,.inl<|bh.of J5,_,_,rfl,rfl,_,rfl,?_⟩;rw[au];refine c7 (λc=>?_) λc=>?_
 ·have c:4<=d.ends.length:=.en
  exact no (by unfold yd;rw[.au]) _<|Same.refl _
 have c:¬4<=d.ends.length:=λz=>c .cM;refine⟨_,rfl,j.a,cJ,W,_,_,rfl,oJ,g.J,g.A4,rfl,j.lL,rfl,⟨_,bh.of X⟩,λD hD'=>eN (λn=>d.j9[n]?.bind λo=>some<|V.int (bT o b:Nat)) (cQ<|bh.of X) hD' ?_ ?_ ?_⟩
 ·rw[au,M,sizeLine_eq];omega
 ·rintro n y H5 Py Pn hn l Z py pn;rw[b8] at l;cases e1:yb[n]? with
  |none=>rw[e1] at l;cases l
  |some da=>
   rw[e1] at l;have l:V.ref da=y:=aI l;subst l;obtain⟨o,R⟩:∃o,d.j9[n]?=.i:=⟨_,bo (by rw[<-M];exact(aB.mp e1).1)⟩;refine⟨rfl,yes ⟨_,rfl,_,rfl,da,dA,o,b,rfl,(Y n da o e1 R).same Z,hD.same Z,hds o<|bc R,ld,λH6 s6=>?_⟩⟩;exact py _ _ s6 (by rw[R];rfl)
 ·intro H5 Z hX;have eT:(a8 (yb.map V.ref).length).filterMap (λn=>d.j9[n]?.bind λo=>some<|V.int (bT o b:Nat))=aW (d.j9.map λo=>bT o b):=by
   rw[au,M,jr];unfold aW;rw[c8,<-nY];rfl
  rw[eT] at hX;have R5:=T.lC Z;refine⟨_,rfl,D,rfl,⟨_,bh.of hX⟩,λD2 hD2=>eN (λn=>(d.j9.map λo=>bT o b)[n]?.bind λz=>some<|V.bl<|decide (z∈ .bJ)) (cQ<|bh.of hX) hD2 ?_ ?_ ?_⟩
  ·rw[au,au,sizeLine_eq];omega
  ·rintro n y H6 Py Pn hn l s6 py pn;obtain⟨z,hz,rfl⟩:=d9 l;refine⟨rfl,yes ⟨_,rfl,aT,_,rfl,.inr hAT.at_,rfl,rfl,?_⟩⟩;have e:inV (.int (z:Nat)) [.int 90,.int 135,.int 180]=decide (z∈ .bJ):=by
    rw[show ([.int 90,.int 135,.int 180]:.r)=(.bJ:.ak).map V.int from rfl,RY];exact decide_eq_decide.mpr .bq
   exact py _ _ .ax (by rw[hz];show some (V.bl<|decide (z∈ .bJ))=some (V.bl<|inV (.int (z:Nat)) [.int 90,.int 135,.int 180]);rw[e])
  ·intro H6 s6 JP;have eA:(a8 (aW<|d.j9.map λo=>bT o b).length).filterMap (λn=>(d.j9.map λo=>bT o b)[n]?.bind λz=>some<|V.bl<|decide (z∈ .bJ))=((d.j9.map λo=>bT o b).map λz=>decide (z∈ .bJ)).map V.bl:=by
    rw[pD _ (λz=>V.bl<|decide (z∈ .bJ)) _<|by rw[au],c8,c8,c8];rfl
   rw[eA] at JP;have N:=Z.trans s6;have ea:((d.j9.map λo=>bT o b).map λz=>decide (z∈ .bJ)).all id=d.j9.all λo=>decide (bT o b∈ .bJ):=by rw[jG,jG];rfl
   refine⟨D2,_,rfl,bh.of JP,_,rfl,?_⟩;rw[ea];refine c7 (λm=>?_) λm=>?_
   ·have m:(d.j9.all λo=>decide (bT o b∈ .bJ))=false:=by simpa using m
    exact no (by unfold yd;rw[.ag,if_pos m]) _ N
   have m:¬(d.j9.all λo=>decide (bT o b∈ .bJ))=false:=λz=>m (by rw[z];rfl);have O:=N _ _ oJ;have abr:=N _ _ J5;refine⟨_,rfl,j.a,cJ,W,_,_,rfl,O,g.J,g.pU,rfl,j.pL,_,rfl,.inl<|bh.of abr,rfl,_,rfl,?_⟩;rw[au];refine c7 (λh=>?_) λh=>?_
   ·have h:d.ends.length≠1:=λz=>by rw[z] at h;exact absurd h<|by decide
    exact ye (by unfold yd;rw[.ag,if_neg m,if_pos h]) _ N
   have h:d.ends.length=1:=by
    refine eJ λz=>h ?_;rw[decide_eq_false λq=>z (by have:=V.int.inj q;omega)];rfl
   obtain⟨q,hq⟩:∃q,d.ends=[q]:=by
    match hm:d.ends,h with
    |[q],_=>exact⟨q,rfl⟩
   obtain⟨o,R⟩:∃o,d.j9=[o]:=by
    match hm:d.j9,I with
    |[o],_=>exact⟨o,rfl⟩
    |[],I=>rw[h] at I;cases I
    |_::_::_,I=>rw[h] at I;simp at I
   obtain⟨r,hr'⟩:∃r,rs[q]?=some r:=⟨_,bo<|hes q (by rw[hq];simp)⟩;have fin:yd rs d b G=if d.x.kind=1\/r.radius≠G then decide (bT o b=180) else true:=by
    unfold yd;rw[.ag,if_neg m,.aC,hq,R];simp[hr']
   have Y2:H6 D=some (.lst<|aW<|d.j9.map λo=>bT o b):=s6 _ _ hX;rw[R] at Y2;have t:(d.x.kind=1\/r.radius≠G)->Q (.bl<|decide (V.int (bT o b:Nat)=V.int 180)) H6:=λhc=>by
    have kk:=k _ N;rw[fin,if_pos hc] at kk;have e:decide (V.int (bT o b:Nat)=V.int 180)=decide (bT o b=180):=decide_eq_decide.mpr ⟨λz=>by have:=V.int.inj z;omega,λz=>by rw[z];rfl⟩;rw[e];exact kk
   have g0:AA (aW<|[o].map λo=>bT o b) 0=some (.int (bT o b:Nat)):=c6 (j:=0) rfl;refine⟨_,rfl,j.a,cJ,W,_,_,rfl,O,g.J,g.xg,rfl,_,rfl,?_⟩;refine c7 (λc4=>?_) λc4=>?_
   ·refine ph ?_;exact⟨_,rfl,D,_,0,_,rfl,rfl,bh.of Y2,g0,rfl,t<|.inl<|by simpa using c4⟩
   have R6:=T.lC N;obtain⟨dS6,oS6⟩:=R6.ob;obtain⟨p,hp,dx,dA',oP,_⟩:=R6.pipe hr';have gq:AA (aW d.ends) 0=some (.int (q:Nat)):=by rw[hq];exact c6 (j:=0) rfl
   refine⟨_,rfl,sA,cS,dS6,_,_,rfl,oS6,g.S,g.gZ,rfl,_,rfl,j.a,cJ,W,_,_,rfl,O,g.J,g.pU,rfl,j.pL,_,0,_,rfl,rfl,bh.of abr,gq,L.qL,_,_,_,rfl,rfl,bh.of R6.ql,cv hp,p,cP,dx,_,_,rfl,oP,g.P,g.vQ,rfl,_,rfl,rfl,_,rfl,?_⟩;refine c7 (λu=>?_) λu=>?_
   ·have u:r.radius≠G:=λz=>by rw[z] at u;exact absurd u<|by simp
    exact⟨_,rfl,D,_,0,_,rfl,rfl,bh.of Y2,g0,rfl,t<|.inr u⟩
   ·have u:r.radius=G:=by
     refine eJ λz=>u ?_;rw[decide_eq_false λq=>z (by have:=V.int.inj q;omega)];rfl
    refine ye ?_ _ N;rw[fin,if_neg];rintro(z|z)
    ·exact c4 (by rw[z];rfl)
    ·exact z u
end
end Pr
namespace L2
open PySem PySem.Spec PyProof.Rows
def Vo:V->.r->.aD:=λx vs H Q=>∃l xs k y,x=.aH/\vs=[.int (k:Nat),y]/\H l=.aZ/\k<=xs.length/\xs.length<sizeLine/\Q .non (upd H l<|.lst (xs.take k++y::xs.drop k))
theorem NK{X:Cx}:MtM X "list.insert" Vo:=by
 intro pins s σ H x vs v us Q I b c h;obtain⟨l,xs,k,y,rfl,rfl,a,hk,i,q⟩:=h;cases b;obtain⟨z,its,n,r,j,e⟩:=I.Hu a;cases c with
 |cons r1 r2=>
  obtain⟨t,rfl⟩:=r1;obtain⟨u,rfl,d⟩:=Vals.one r2;have hs:=sizeLine_eq;generalize m:((k:Nat):Int)=x at *;have f:¬(!zK x)=true:=by
   unfold zK;simp;omega
  have g:(if x<0 then(x+(its.toArray.size:Int)).toNat else min x.toNat its.toArray.size)=k:=by
   rw[.aC,b9];omega
  refine call_meets FN ⟨_,e,rfl⟩ F.entry_list_insert (F.args_list_insert_3 _ _ _) (Oj l _ n x t u f (by rw[b9];omega)) ⟨e,?_⟩;refine⟨.non,_,I.Ug (its':=its.take k++u::its.drop k) a e ?_ ((r.take k).append<|.cons d<|r.drop k) ?_,rfl,q⟩
  ·show(its.toArray.extract 0<|if x<0 then(x+(its.toArray.size:Int)).toNat else min x.toNat its.toArray.size).push u++its.toArray.extract (if x<0 then(x+(its.toArray.size:Int)).toNat else min x.toNat its.toArray.size)=_
   rw[g];apply Ga.mp;simp;exact qC<|by simp
  ·rw[bS,bB,ie,iS];omega
section
variable{X:Cx}{CX:BD}{k n:Nat}{f C:Addr}{fd:FuncData}{ps:.L}{sp:Sp}{E:XK}{m:Str}{pos apos:Pos}{e o:Expr}{es:.aU}{ta:TE}{t:TA}
theorem RZ{pl:Sem Bool}{K:ah}{P:Program}{w:World}{mg:.aa}{base:Heap}(G:iQ P w K mg base CX k C m ps sp f fd)(d:fK n X.A)(h:PE X o ta)(i:fM CX X E)(j:.cD)(hk:k<=n:=by decide)(l:X.K=K:=by rfl)(p:X.prog=P:=by rfl)(q:X.w=w:=by rfl)(a:X.mg=mg:=by rfl)(r:X.base=base:=by rfl)
  (b:.cm:=by rfl) (c:(.cK).any (·.1)=false:=by rfl)
  (ht:eval .ei X.env=(do
   let ov <-eval o X.env
   .ed
   let (g,first) <-holding [ov] (getMethod ov m pl)
   callWith pos g first (backTo pos .ey) .d1):=by rfl):PE X .ei (Cw C m sp [] E ta t):=by
 subst l p q a r;exact bR G d h i j hk b c ht
theorem Vp{pl:Sem Bool}{K:ah}{P:Program}{w:World}{mg:.aa}{base:Heap}(G:iQ P w K mg base CX k C m ps sp f fd)(b:fK n X.A)(c:PE X o ta)(d:fM CX X E)(hk:k<=n:=by decide)(e:X.K=K:=by rfl)(h:X.prog=P:=by rfl)(i:X.w=w:=by rfl)(a:X.mg=mg:=by rfl)(j:X.base=base:=by rfl)
  (ht:eval .em X.env=(do
   let ov <-eval o X.env
   .ed
   let (g,first) <-holding [ov] (getMethod ov m pl)
   callWith pos g first (backTo pos (starEach [] X.env)) .d1):=by rfl):PE X .em (Cw C m sp [] E ta Hq):=by
 subst e h i a j;exact eI G b c d hk ht
end
end L2
namespace Pr
open PySem PySem.Spec PyProof.Rows L2 Pw
abbrev Lu:Stmt:=inClass (top 74) 1
abbrev R0:Stmt:=inClass qp 9
abbrev Vq:Stmt:=inClass qp 10
theorem R8:az .ae .ae (ao Lu):=fscope
theorem R9:az xP .ae (ao R0):=fscope
abbrev Y3:.L:=["self","number","there","pipe"]
theorem Sb:az Y3 .cn (ao Vq):=fscope
def Bl(K:ah)(cJ:Addr):Sp:=λvs H Q _=>∃a dx fs b p,vs=[.E]/\H a=some (.ins cJ dx fs)/\fs.lookup ("place":Str)=some (V.ref b)/\gn K H b p/\∀z,eO K H z p.z->Q (.ref z) H
def Tn(s:aM)(n k:Nat):Nat:=(s.runs[k]?.bind λr=>r.across n).getD 0
def BM(s:aM)(n:Nat):.e:=(endsAt s n).map<|Tn s n
theorem IB{s:aM}{n m:Nat}:m∈BM s n↔Adj s n m:=by
 unfold BM;rw[b6];constructor
 ·rintro⟨k,hk,rfl⟩;obtain⟨r,a,c⟩:=dq.mp hk;refine⟨k,r,a,?_⟩;unfold Tn;rw[a];show _=some ((r.across n).getD 0);unfold zV;rcases c with e|e
  ·rw[if_pos e.symm];rfl
  ·split
   ·rfl
   ·rw[if_pos e.symm];rfl
 ·rintro⟨k,r,a,b⟩;refine⟨k,dq.mpr ⟨r,a,?_⟩,?_⟩
  ·rcases oZ b with⟨e,_⟩|⟨e,_⟩
   ·exact .inl e.symm
   ·exact .inr e.symm
  ·unfold Tn;rw[a];show(r.across n).getD 0=m;rw[b];rfl
def WX(K:ah)(cS cJ cP:Addr):Sp:=λvs H Q _=>∃(sA:Addr) (n:Nat) (s:aM) (L:Lay),vs=[.al,.int (n:Nat)]/\.bF/\iM s/\n<s.joints.length/\
 ∀(H':Hp) (l:Addr),H' l=some (.lst<|aW<|BM s n)->.d8
def Sd(K:ah)(cS cJ cP:Addr):Sp:=λvs H Q _=>∃(sA:Addr) (n:Nat) (s:aM) (L:Lay),vs=[.al,.int (n:Nat)]/\.bF/\Q (.bl<|s.kind n == 1) H
section
variable{P:Program}{w:World}{K:ah}{mg:.aa}{base:Heap}{cS cJ cP:Addr}
theorem NL{f:Addr}{fd:FuncData}(F:d8 K "height" "Joint.height" Lu f fd)(a:.aA):aX P w K mg base bV 1 f fd .ae (Bl K cJ):=by
 refine F.ok1 R8 ?_;rintro cdv A outer st H _ Q E h i ⟨b,dx,fs,c,p,rfl,d,e,⟨x,y,z,hp,_,_,g⟩,k⟩;exact⟨_,(ap<|aJ<|hG .V aD),_,rfl,b,cJ,dx,_,_,rfl,d,a.J,a.A3,e,c,_,_,_,rfl,rfl,hp,rfl,k z g⟩
theorem Vr{f:Addr}{fd:FuncData}(F:d8 K "has_valve" "System.has_valve" WU f fd)(B:nG mg)(b:.aA):aX P w K mg base bV 1 f fd .cn (Sd K cS cJ cP):=by
 refine F.ok1 YW ?_;rintro cdv A outer st H _ Q E m o ⟨sA,n,s,L,rfl,hS,k⟩;refine⟨_,(ap<|aJ<|wO (fj ny .o .eE<|a0 _)<|wN<|aw (bG .V<|pv 1) rfl),?_⟩;obtain⟨d,e⟩:=hS.ob;refine⟨_,rfl,_,rfl,sA,cS,d,_,_,rfl,e,b.S,b.b5,rfl,L.jL,_,rfl,.inl<|bh.of hS.jl,_,_,rfl,rfl,_,rfl,?_⟩;rw[au,hS.jn];refine c7 (λc=>?_) λc=>?_
 ·have c:n<s.joints.length:=.en
  obtain⟨j,x,g,h,⟨i,p,l,_⟩,_⟩:=hS.joint c;rw[iC h] at k;exact⟨_,rfl,sA,cS,d,_,_,rfl,e,b.S,b.b5,rfl,_,rfl,L.jL,_,_,_,rfl,rfl,bh.of hS.jl,cv g,j.a,cJ,i,_,_,rfl,l,b.J,b.xg,rfl,k⟩
 ·have c:¬n<s.joints.length:=λz=>c .cM;rw[lg<|by omega] at k;exact k
theorem Vs{k:Nat}(h:k<=5):inV (.str<|iH k) [.str "drain",.str "open"]=(k == 4||k == 2):=by
 match k,h with
 |0,_=>decide +kernel
 |1,_=>decide +kernel
 |2,_=>decide +kernel
 |3,_=>decide +kernel
 |4,_=>decide +kernel
 |5,_=>decide +kernel
theorem Vt{f b:Addr}{fd:FuncData}(F:d8 K "outlets" "System.outlets" R0 f fd)(B:nG mg)(c:.aA)(u:mg "OUTLETS"=some .aM)(d:KTup K b [.str "drain",.str "open"]):aX P w K mg base bV 1 f fd .ae (lQ K cS cJ cP λk=>k == 4||k == 2):=by
 refine F.ok1 R9 ?_;rintro cdv A outer st H _ Q E Y Z ⟨sA,s,L,rfl,hS,hl,G,k⟩;refine⟨_,(ap (aJ (gH rfl R9.nd (sE .s B.enumerate (ae .V ak)) ((bO (by(show iP xP (ao R0) _ _=true);decide +kernel))) (own:=[("number",1),("joint",2)]) (λs H C cl h=>.e3)
  (λs H C cl h=>lJ (a9 (r:=rIn K false) wU (jj (K:=K) rfl .M rfl) (aR .s u (v:=.aM) rfl) rfl)) (λs H C cl h=>pv 1)))),?_⟩
 obtain⟨I,M⟩:=hS.ob;refine⟨_,rfl,sA,cS,I,_,_,rfl,M,c.S,c.b5,rfl,L.jL,_,rfl,bh.of hS.jl,λD l=>eN (λi=>if(s.kind i == 4||s.kind i == 2)=true then .dP else none) (mM<|bh.of hS.jl) l ?_ ?_ ?_⟩
 ·rw[au,hS.jn,sizeLine_eq];omega
 ·rintro i y m Py Pn hi ⟨T,z,rfl,N,o⟩ g O pn;rw[au,hS.jn] at hi;obtain⟨j,x,R,p,⟨U,pA,W,_⟩,_⟩:=(hS.same g).joint hi;have X:z=.ref j.a:=by rw[b8,R] at o;exact(aI o).symm
  subst X;have q:=G i;rw[iC p] at q;refine⟨T,_,rfl,gm.of N,rfl,_,_,rfl,_,_,rfl,rfl,rfl,_,rfl,j.a,cJ,U,_,_,rfl,W,c.J,c.vO,rfl,b,_,rfl,.inr d.at_,rfl,rfl,_,rfl,?_⟩;rw[Vs q,<-iC p];show if(s.kind i == 4||s.kind i == 2)=true then _ else _
  refine c7 (λe=>?_) λe=>?_
  ·exact⟨_,rfl,O _ _ .ax<|by rw[if_pos e]⟩
  ·exact pn _ .ax<|by rw[.bo]
 ·intro m g t;rw[jY s (λk=>k == 4||k == 2) _<|by rw[au,hS.jn]] at t;exact k m D t l g
theorem Y4{f:Addr}{fd:FuncData}(F:d8 K "neighbours" "System.neighbours" Vq f fd)(b:.aA):aX P w K mg base bV 1 f fd .cn (WX K cS cJ cP):=by
 refine F.ok1 Sb ?_;rintro cdv A outer st H _ Q E hr nd ⟨sA,n,s,L,rfl,hS,O,W,k⟩;refine⟨_,(af (rH (i:=2) rfl Sb.nd rfl rfl .s (cB (aw (bG .V .o) rfl)) ((bO (by(show iP Y3 (ao Vq) _ _=true);decide +kernel))) (own:=[("pipe",3)]) (λs H C cl h=>bX 3) (λs H C cl h=>eB) (λs H C cl h=>nz (r:=AC K) kE (jj (K:=K) rfl .j rfl) .aj .aX)) (ap (aJ (gH rfl Sb.nd (cB .M) ((bO (by(show iP Y3 (ao Vq) _ _=true);decide +kernel))) (own:=[("pipe",3)]) (λs H C cl h=>bX 3) (λs H C cl h=>eB)
   (λs H C cl h=>rB (a9 fo (jj (K:=K) rfl .aj rfl) .o .aN) (jj (K:=K) rfl .aj rfl) (jj (K:=K) rfl .aj rfl)))))),?_⟩
 obtain⟨u,v⟩:=hS.ob;obtain⟨j,x,X,hx,⟨Y,pA,Z,_⟩,l,_⟩:=hS.joint W;have el:=mO s n;have nr:=O.nr;refine⟨_,rfl,sA,cS,u,_,_,rfl,v,b.S,b.b5,rfl,_,rfl,L.jL,_,_,_,rfl,rfl,bh.of hS.jl,cv X,j.a,cJ,Y,_,_,rfl,Z,b.J,b.pU,rfl,j.pL,rfl,⟨_,bh.of l⟩,λD hD=>eN (λi=>(endsAt s n)[i]?.bind λk=>some<|V.ref<|L.ps.getD k 0) (cQ<|bh.of l) hD ?_ ?_ ?_⟩
 ·rw[au,sizeLine_eq];omega
 ·rintro i y H5 Py Pn hi g m t pn;obtain⟨q,e,rfl⟩:=d9 g;obtain⟨r,d,_⟩:=dq.mp<|bc e;have B:=hS.same m;obtain⟨u,v⟩:=B.ob;obtain⟨p,hp,_⟩:=B.pipe d;exact⟨rfl,yes ⟨_,rfl,sA,cS,u,_,_,rfl,v,b.S,b.gZ,rfl,_,rfl,L.qL,_,_,_,rfl,rfl,bh.of B.ql,cv hp,t _ _ .ax (by rw[e];simp[cM,hp])⟩⟩
 ·intro H5 m G;rw[pD (endsAt s n) (λk=>V.ref<|L.ps.getD k 0) _<|au _] at G;refine⟨_,rfl,D,rfl,⟨_,bh.of G⟩,λD2 o=>eN (λi=>(endsAt s n)[i]?.bind λk=>some<|V.int (Tn s n k:Nat)) (cQ<|bh.of G) o ?_ ?_ ?_⟩
  ·rw[au,sizeLine_eq];omega
  ·rintro i y R Py Pn hi g I t pn;rw[b8] at g;cases e:(endsAt s n)[i]? with
   |none=>rw[e] at g;cases g
   |some q=>
    rw[e] at g;obtain rfl:V.ref (L.ps.getD q 0)=y:=aI g;obtain⟨r,d,_⟩:=dq.mp<|bc e;obtain⟨p,hp,M,dA,N,_⟩:=(hS.same<|m.trans I).pipe d;have ep:L.ps.getD q 0=p:=by simp[cM,hp]
    obtain⟨_,_,hr2,ha⟩:=IB.mp<|List.mem_map_of_mem (f:=Tn s n)<|bc e;have T:Tn s n q=if r.from_=n then r.to_ else r.from_:=by
     obtain⟨r',h1,h2⟩:=dq.mp<|bc e;rw[d] at h1;cases h1;unfold Tn;rw[d];show(r.across n).getD 0=_;unfold zV;by_cases c:r.from_=n
     ·rw[.au,.au];rfl
     ·rw[.ag,.ag,if_pos (h2.resolve_left λz=>c z.symm).symm];rfl
    rw[ep];refine⟨rfl,yes ⟨_,rfl,p,cP,M,_,_,rfl,N,b.P,b.tL,rfl,_,rfl,rfl,_,rfl,?_⟩⟩;refine c7 (λc=>?_) λc=>?_
    ·have c:r.from_=n:=by have:=V.int.inj<|of_decide_eq_true c;omega
     exact⟨_,rfl,p,cP,M,_,_,rfl,N,b.P,b.pV,rfl,t _ _ .ax (by rw[e];show some (V.int (Tn s n q:Nat))=_;rw[T,.au])⟩
    ·have c:¬r.from_=n:=λz=>c (by rw[z];exact decide_eq_true rfl);exact⟨_,rfl,p,cP,M,_,_,rfl,N,b.P,b.tL,rfl,t _ _ .ax (by rw[e];show some (V.int (Tn s n q:Nat))=_;rw[T,.ag])⟩
  ·intro R I U;rw[pD (endsAt s n) (λk=>V.int (Tn s n k:Nat)) _<|au _] at U;exact k R D2 (by rw[U];unfold BM aW;rw[c8];rfl) (m.free o)<|m.trans I
end
end Pr
namespace Pw
open Pipe PipeWater
def j6(R:List Len)(h:Len):Nat:=R.countP λx=>decide (x.order h<0)
theorem Se{R:List Len}{h:Len}{k:Nat}(r:Dq R h k):j6 R h=k:=by
 have e:=uo k R;unfold j6;rw[<-e,List.countP_append,List.countP_eq_length.mpr,EI.mpr,ie]
 ·have:=r.le;omega
 ·intro x a z;obtain⟨i,hi⟩:=fh a;rw[EK] at hi;exact r.hi _ x hi .h<|of_decide_eq_true z
 ·intro x a;obtain⟨i,hi⟩:=fh a;have b:=.ch;rw[ie] at b;rw[EM,.bX] at hi;exact decide_eq_true<|r.lo i x hi<|by omega
theorem Ea{h:Len}:∀{R:List Len},Up R->Dq R h (j6 R h)
 |[],_=>⟨aG _,.m,.m⟩
 |x::R,u=>by
  obtain⟨b,d⟩:=EL.mp u;have r:=Ea (h:=h) d;by_cases c:x.order h<0
  ·have e:j6 (x::R) h=j6 R h+1:=by unfold j6;rw[List.countP_cons_of_pos<|by simpa using c]
   rw[e];refine⟨Nat.succ_le_succ r.le,λi y a hi=>?_,λi y a hi=>?_⟩
   ·cases i with
    |zero=>cases a;exact c
    |succ i=>exact r.lo i y a<|by omega
   ·cases i with
    |zero=>omega
    |succ i=>exact r.hi i y a<|by omega
  ·have z:∀y,y∈x::R->¬y.order h<0:=λy a w=>by
    rcases aH.mp a with q|q
    ·rw[q] at w;exact c w
    ·exact c<|Pd (b y q) w
   have e:j6 (x::R) h=0:=EI.mpr λy a w=>z y a<|of_decide_eq_true w;rw[e];exact⟨bj _,λi y _ hi=>absurd hi<|ig _,λi y a _=>z y<|bc a⟩
end Pw
namespace Pr
open PySem PySem.Spec PyProof.Rows L2 Pw TL
theorem Sf{α β:Type}{F:α->β->Prop}:∀{a c:.aP} {b d:List β},Paired F a b->Paired F c d->Paired F (a++c) (b++d)
 |_,_,_,_,.nil,s=>s
 |_,_,_,_,.cons r t,s=>.cons r<|Sf t s
theorem Eb{α β:Type}{F:α->β->Prop}:∀{a:.aP} {b:List β} (n:Nat),Paired F a b->Paired F (a.take n) (b.take n)/\Paired F (a.drop n) (b.drop n)
 |_,_,0,r=>⟨.nil,r⟩
 |_,_,_+1,.nil=>⟨.nil,.nil⟩
 |_,_,n+1,.cons r t=>⟨.cons r (Eb n t).1,(Eb n t).2⟩
theorem xn{α β:Type}{F:α->β->Prop}:∀{a:.aP} {b:List β} {i:Nat} {y:β},Paired F a b->b[i]?=.ao->∃x,a[i]?=.v/\F x y
 |_,_,_,_,.nil,e=>by simp at e
 |_,_,0,_,.cons r _,e=>by cases e;exact⟨_,rfl,r⟩
 |_,_,i+1,y,.cons _ t,e=>xn (i:=i) t e
theorem Ec{α β:Type}{F:α->β->Prop}{a:.aP}{b:List β}(r:Paired F a b):a.length=b.length:=ve r
def pZ(K:ah)(H:Hp)(a:Addr)(R:List bz):Prop:=∃as:.B,H a=some (.lst<|as.map V.ref)/\Paired (λb x=>eO K H b x) as R
theorem pZ.same{K:ah}{H H':Hp}{a:Addr}{R:List bz}(h:pZ K H a R)(s:.Q):pZ K H' a R:=by
 obtain⟨as,h1,h2⟩:=h;exact⟨as,s _ _ h1,Paired.wK h2 λb x q=>q.same s⟩
structure BN(K:ah)(cH:Addr)(H:Hp)(hA:Addr)(s:aM)(rL kL:Addr)(R:List bz)(ks:.e):Prop where
 ob:∃dx,H hA=some (.ins cH dx [("rising",.ref rL),("ranks",.ref kL)])
 rs:pZ K H rL R
 kl:H kL=some (.lst<|aW ks)
 ok:Tz s R ks
theorem BN.same{K:ah}{cH:Addr}{H H':Hp}{hA:Addr}{s:aM}{a b:Addr}{R:List bz}{ks:.e}(h:BN K cH H hA s a b R ks)(e:.Q):BN K cH H' hA s a b R ks:=by
 obtain⟨dx,o⟩:=h.ob;exact⟨⟨dx,e _ _ o⟩,h.rs.same e,e _ _ h.kl,h.ok⟩
structure WY(K:ah)(cH:Addr):Prop where
 cl:x6 K cH
 Y5:bM K cH "rising"
 rnk:bM K cH "ranks"
abbrev Y6:Stmt:=inClass (top 31) 0
abbrev WZ:Stmt:=inClass (top 31) 1
abbrev abt:.L:=["self","system","joint"]
theorem W0:az abt .dV (ao Y6):=fscope
theorem Y7:az ["self","height","least","most","middle"] ["self","height"] (ao WZ):=fscope
def Sg(K:ah)(cH:Addr):Sp:=λvs H Q _=>∃hA dx fs a R b h,vs=[.ref hA,.aM]/\H hA=some (.ins cH dx fs)/\fs.lookup ("rising":Str)=some (V.ref a)/\pZ K H a R/\Up R/\(∀x,x∈R->Small x)/\R.length<=2000/\eO K H b h/\Small h/\
 ∀H',.Q->Q (.int (j6 R h:Nat)) H'
def W1(K:ah)(cS cJ cP cH:Addr):Sp:=λvs H Q _=>∃x dx sA s L H0,vs=[.aB,.al]/\Same H0 H/\H0 x=none/\H x=some (.ins cH dx [])/\eZ K cS cJ cP H0 sA s L/\iM s/\
 ∀H' a b R ks,BN K cH H' x s a b R ks->H0 a=none->H0 b=none->Same H0 H'->Q .non H'
section
variable{P:Program}{w:World}{K:ah}{mg:.aa}{base:Heap}{cS cJ cP cH:Addr}
theorem Vu{f S:Addr}{fd T:FuncData}(F:d8 K "rank_of" "Heights.rank_of" WZ f fd)(B:nG mg)(p:WY K cH)(U:dQ P w K mg base bV 2 "is_less" .bY (D4 K) S T):aX P w K mg base bV 3 f fd ["self","height"] (Sg K cH):=by
 refine F.ok1 Y7 ?_;rintro cdv A outer st H _ Q E W nd ⟨hA,dx,fs,G,R,t,h,rfl,I,J,X,up,Y,rl,Z,sh,k⟩;refine⟨_,(af (bu 2 aD) (af (bu 3 (dz B.len .V)) (af (mJ dc (a9 ny .M .aj .aN)
   (af (bu 4 (dm T6 (dm mK .M .aj) aD)) (ap (cx (ko (dG U W aP (ae (bG .V .ay) .cw)))
    (ap (bu 2 (dm mK .ay aD))) (ap (bu 3 .ay)))))) (ap (aJ .M))))),?_⟩
 have u:=X;obtain⟨as,L,hp⟩:=u;have el:=Ec hp;refine AV ?_;refine⟨_,rfl,hA,cH,dx,_,_,rfl,I,p.cl,p.Y5,J,G,_,rfl,.inl (bh.of L),?_⟩;rw[au,el];refine⟨λc σ H2=>∃(lo hi:Nat) (r:.aw),c=hi-lo/\σ=[some (.ref hA),some (.ref t),some (.int (lo:Nat)),some (.int (hi:Nat)),r]/\Same H H2/\lo<=hi/\hi<=R.length/\(∀(i:Nat) x,R[i]?=.v->i<lo->x.order h<0)/\∀(i:Nat) x,R[i]?=.v->hi<=i->¬x.order h<0,
  ⟨_,0,R.length,none,rfl,rfl,.ax,bj _,aG _,λi x _ hi=>absurd hi (ig _),λi x n hi=>absurd (aB.mp n).1 .h⟩,?_⟩
 rintro c σ H2 ⟨lo,hi,r,rfl,rfl,l,le,M,h1,h2⟩;refine⟨_,rfl,_,rfl,_,_,rfl,rfl,_,rfl,?_⟩;refine c7 (λo=>?_) λo=>?_
 ·have o:lo<hi:=by have:=of_decide_eq_true o;omega
  have s:((lo:Int)+(hi:Int)) / 2=(((lo+hi) / 2:Nat):Int):=.h
  have N:(lo+hi) / 2<R.length:=.h
  generalize hm:(lo+hi) / 2=m at s N;obtain⟨x,n⟩:∃x,R[m]?=.v:=⟨_,bo N⟩;obtain⟨xa,v,C⟩:=xn hp n;refine⟨_,λσ' H' (z:∃(j g:Nat) (r:Option V),g-j<hi-lo/\σ'=[some<|.ref hA,some<|.ref t,some<|.int (j:Nat),some<|.int (g:Nat),r]/\Same H H'/\j<=g/\g<=R.length/\(∀(i:Nat) x,R[i]?=some x->i<j->x.order h<0)/\∀(i:Nat) x,R[i]?=some x->g<=i->¬x.order h<0)=>let ⟨a,b,c,d,e⟩:=z;⟨_,d,a,b,c,rfl,e⟩,?_⟩;refine⟨_,rfl,_,rfl,_,_,rfl,rfl,_,_,rfl,rfl,⟨ .O,.O⟩,?_⟩;refine⟨_,rfl,hA,cH,dx,_,_,rfl,l _ _ I,p.cl,p.Y5,J,_,rfl,G,_,_,_,rfl,rfl,bh.of<|l _ _ L,(by show AA _ (((lo:Int)+(hi:Int)) / 2)=_;rw[s];exact cv v),_,rfl,xa,t,x,h,rfl,C.same l,Z.same l,Y x<|bc n,sh,λH3 O=>⟨_,rfl,?_⟩⟩;refine c7 (λd=>?_) λd=>?_
  ·have d:=of_decide_eq_true d;refine⟨_,rfl,_,_,rfl,rfl,m+1,hi,some<|.int (m:Nat),.h,?_,l.trans O,.h,M,λi y D hi=>Pd (up.get D n<|by omega) d,h2⟩;show [_,_,some<|V.int<|((lo:Int)+(hi:Int)) / 2+1,_,some<|V.int<|((lo:Int)+(hi:Int)) / 2]=_;rw[s];rfl
  ·have d:¬x.order h<0:=λz=>d<|decide_eq_true z;refine⟨_,rfl,lo,m,some<|.int (m:Nat),.h,?_,l.trans O,.h,.h,h1,λi y D hi z=>d<|Pd (up.get n D hi) z⟩;show [_,_,_,some<|V.int<|((lo:Int)+(hi:Int)) / 2,some<|V.int<|((lo:Int)+(hi:Int)) / 2]=_;rw[s]
 ·have o:¬lo<hi:=λz=>o .cM;have e:lo=hi:=.h
  subst e;refine⟨_,rfl,?_⟩;have q:=k H2 l;rw[Se ⟨M,h1,h2⟩] at q;exact q
theorem pZ.put{K:ah}{H:Hp}{a b:Addr}{R:List bz}{as:.B}{h:bz}(k:Nat)(f:H a=some (.lst<|as.map V.ref))(hp:Paired (λb x=>eO K H b x) as R)(g:eO K H b h):
  pZ K (upd H a<|.lst ((as.map V.ref).take k++V.ref b::(as.map V.ref).drop k)) a (R.take k++h::R.drop k):=by
 have u:∀c o,c≠a->H c=.i->(upd H a<|.lst ((as.map V.ref).take k++V.ref b::(as.map V.ref).drop k)) c=.i:=λc o i e=>by rw[aq i];exact e
 have d:=Paired.wK hp λb x (q:eO K H b x)=>(gm.off f u q:eO K _ b x);refine⟨as.take k++b::as.drop k,by rw[ai,fB,bP,List.map_take,E2],Sf (Eb k d).1<|.cons (gm.off f u g) (Eb k d).2⟩
theorem Y8{f f1 f2:Addr}{fd eX fd2:FuncData}(F:d8 K "__init__" "Heights.__init__" Y6 f fd)(W:.aA)(B:WY K cH)(GR:iQ P w K mg base bV 3 cH "rank_of" ["self","height"] (Sg K cH) f1 eX)(GH:iQ P w K mg base bV 1 cJ "height" .ae (Bl K cJ) f2 fd2):
  aX P w K mg base bV 4 f fd .dV (W1 K cS cJ cP cH):=by
 refine F.ok1 W0 ?_;rintro cdv A outer st H _ Q E I nd ⟨x,dx,sA,s,L,H0,rfl,s0,J,hx,hS,O,k⟩;refine⟨_,(af (cO .j (eW ak) rfl) (af (iO dc rfl (cB (aw .o rfl)) (bX 2)
   (ap (aL (mL fV FN PySem.F.type_list_insert NK .V (ae (bR GR I .j aP (ae (eI GH I .M aP) ak)) (ae (eI GH I .M aP) ak)))))) (ap (cO .j (gH rfl W0.nd (cB (aw .o rfl)) ((bO (by(show iP abt (ao Y6) _ _=true);decide +kernel))) (own:=[("joint",2)]) (λs H C cl fp=>bX 2) (λs H C cl fp=>eB)
   (λs H C cl fp=>RZ GR I .j aP (ae (Vp GH I .M aP) ak))) rfl)))),?_⟩
 have nj:=O.nj;refine⟨bj _,λd M=>?_⟩;have X:x≠d:=aC hx M;have r:H0 d=none:=s0.free M;refine⟨_,rfl,x,cH,dx,_,rfl,by rw[aq X];exact hx,B.cl,B.Y5,.O,?_⟩;have s1:Same H0 .fB:=((s0.put r).put J);have x1:(.fB) x=some (.ins cH dx [("rising",.ref d)]):=ai;have l1:(.fB) d=some (.lst []):=by rw[aq<|aF X,ai]
 generalize upd (upd H d (.lst [])) x (.ins cH dx (eV "rising" (.ref d) []))=H1 at s1 x1 l1;obtain⟨dS,oS⟩:=(.cf).ob;refine⟨_,rfl,sA,cS,dS,_,_,rfl,oS,W.S,W.b5,rfl,L.jL,rfl,⟨_,bh.of (.cf).jl⟩,iB (K:=K) (a:=L.jL) (xs:=.b9) (λi σ H'=>∃(v2:.aw) (R:List bz),σ=[some .aB,some .al,v2]/\Same H0 H'/\
   H' x=some (.ins cH dx [("rising",.ref d)])/\pZ K H' d R/\Up R/\R.length=i/\(∀y,y∈R->Small y)/\∀j,j<i->.cv∈R)
  ⟨none,[],rfl,s1,x1,⟨[],l1,.nil⟩,.nil,rfl,.m,.m⟩ (λi σ H' _ ⟨_,_,_,m,_⟩=>bh.of (hS.same m).jl) ?_ ?_⟩
 ·rintro i y σ H2 n ⟨v2,R,rfl,m,x2,⟨as,G,hp⟩,up,rl,N,Y⟩;have hi:.dW:=by have:=(aB.mp n).1;rwa[au,hS.jn] at this
  have e:=hS.same m;obtain⟨j,jx,o,t,⟨u,Z,v,g⟩,_⟩:=e.joint hi;obtain rfl:V.ref j.a=y:=by rw[b8,o] at n;exact aI n
  have eh:=kg t;have hs:=O.ht i;refine⟨_,rfl,x,cH,dx,_,_,rfl,x2,B.cl,B.Y5,rfl,.inl ⟨rfl,_,bh.of G⟩,_,rfl,x,dx,_,rfl,x2,rfl,_,rfl,j.a,u,_,rfl,v,rfl,j.a,u,_,Z,_,rfl,v,rfl,g,λz T=>?_⟩;rw[<-eh] at T;refine⟨x,dx,_,d,R,z,.b1,rfl,x2,rfl,⟨as,G,hp⟩,up,N,.h,T,hs,λH3 p=>?_⟩;refine⟨_,rfl,j.a,u,_,rfl,p _ _ v,rfl,j.a,u,_,Z,_,rfl,p _ _ v,rfl,g.same p,λz2 U=>?_⟩;rw[<-eh] at U;have rk:=Ea (h:=.b1) up;have el:=Ec hp;refine⟨d,_,j6 R<|s.height i,_,rfl,rfl,p _ _ G,by rw[au,el];exact rk.le,by rw[au,el,sizeLine_eq];omega,?_⟩;have tl:(R.take<|j6 R<|s.height i).length+(R.drop<|j6 R<|s.height i).length=R.length:=by rw[<-bS,uo]
  have mm:∀y,y∈R.take (j6 R<|s.height i)++.b1::R.drop (j6 R<|s.height i)↔y=.b1\/y∈R:=λy=>by
   rw[bZ,aH];conv=>rhs;rw[<-uo (j6 R<|s.height i) R,bZ]
   constructor
   ·rintro(a|a|a)
    ·exact .inr<|.inl a
    ·exact .inl a
    ·exact .inr<|.inr a
   ·rintro(a|a|a)
    ·exact .inr<|.inl a
    ·exact .inl a
    ·exact .inr<|.inr a
  refine⟨_,_,rfl,(m.trans p).put r,by rw[aq X];exact p _ _ x2,pZ.put _ (p _ _ G) (Paired.wK hp λb y q=>q.same p) U,up.put rk,by rw[bS,bB];omega,λy n=>?_,λq hq=>(mm _).mpr ?_⟩
  ·rcases (mm y).mp n with z|z
   ·rw[z];exact hs
   ·exact N y z
  ·by_cases c:q=i
   ·rw[c];exact .ar
   ·exact .inr<|Y q<|by omega
 ·rintro σ H2 ⟨v2,R,rfl,m,x2,hR,up,rl,N,Y⟩;rw[au,hS.jn] at rl Y;have e:=hS.same m;obtain⟨dS,oS⟩:=e.ob;refine⟨_,rfl,sA,cS,dS,_,_,rfl,oS,W.S,W.b5,rfl,L.jL,rfl,⟨_,bh.of e.jl⟩,λD hD=>eN (λi=>some<|V.int (j6 R .b1:Nat)) (cQ<|bh.of e.jl) hD ?_ ?_ ?_⟩
  ·rw[au,hS.jn,sizeLine_eq];omega
  ·rintro i y H5 Py Pn hi n l py pn;rw[au,hS.jn] at hi;have UI:=e.same l;obtain⟨j,jx,o,t,⟨u,Z,v,g⟩,_⟩:=UI.joint hi;obtain rfl:V.ref j.a=y:=by rw[b8,o] at n;exact aI n
   have eh:=kg t;refine⟨rfl,yes ⟨_,rfl,x,dx,_,rfl,l _ _ x2,rfl,_,rfl,j.a,u,_,rfl,v,rfl,j.a,u,_,Z,_,rfl,v,rfl,g,λz T=>?_⟩⟩;rw[<-eh] at T;exact⟨x,dx,_,d,R,z,.b1,rfl,l _ _ x2,rfl,hR.same l,up,N,.h,T,O.ht i,λH6 s6=>py _ _ s6 rfl⟩
  ·intro H5 l hX;have ek:(a8 (.b9).length).filterMap (λi=>some<|V.int (j6 R .b1:Nat))=aW ((a8 s.joints.length).map λi=>j6 R<|s.height i):=by
    rw[au,hS.jn];unfold aW;rw[c8,<-nY];rfl
   rw[ek] at hX;have x5:=l _ _ x2;have nD:D≠x:=λz=>by rw[z,x2] at hD;cases hD
   refine⟨_,rfl,x,cH,dx,_,rfl,x5,B.cl,B.rnk,.dJ,?_⟩;have kd:∀j,.a7->((a8 s.joints.length).map λi=>j6 R<|s.height i).getD j 0=j6 R .cv:=λj o=>by simp[cM,o]
   obtain⟨as,G,hp⟩:=hR;refine k _ d D R _ ⟨⟨dx,ai⟩,⟨as,by rw[aq<|aF X];exact l _ _ G,Paired.wK hp λb y q=>(q.same l).stay<|rX x5⟩,by rw[aq nD];exact hX,⟨up,rl,.m,λj o=>?_,N⟩⟩ r (m.free hD)<|(m.trans l).put J;rw[kd j o];exact up.at_ (Ea up)<|Y j o
theorem Y9:bootBuiltins "max"=some (.builtin "max"):=.aq
abbrev Za:Stmt:=top 34
abbrev abu:.L:=["system","joint","barred","other"]
theorem W2:az abu ["system","joint","barred"] (ao Za):=fscope
def nbW(s:aM)(shut:.e)(n:Nat):.e:=(BM s n).filter λu=>decide (u∉shut)
def W4(K:ah)(cS cJ cP:Addr):Sp:=λvs H Q _=>∃(sA:Addr) (n:Nat) (a:Addr) (s:aM) (L:Lay) (shut:.e) (kvs:.an),vs=[.al,.int (n:Nat),.E]/\.bF/\iM s/\n<s.joints.length/\H a=.bg/\Ii kvs shut/\
 ∀(H':Hp) (l:Addr),H' l=some (.lst<|aW<|nbW s shut n)->.d8
abbrev Zb:Stmt:=top 33
abbrev abv:.L:=["system","heights","barred","levels","waiting","outlet","rank","done","joint","other","height"]
theorem Sh:az abv ["system","heights","barred"] (ao Zb):=fscope
def W5(K:ah)(cS cJ cP cH:Addr):Sp:=λvs H Q _=>∃(sA hA a:Addr) (s:aM) (L:Lay) (shut:.e) (kvs:.an) (b c:Addr) (R:List bz) (ks:.e),vs=[.al,.ref hA,.E]/\.bF/\iM s/\BN K cH H hA s b c R ks/\H a=.bg/\Ii kvs shut/\(∀j,j∈shut->.aF=1)/\
 ∀(H':Hp) (l:Addr) (M:.as) (W:Nat->.e),H' l=some (.lst<|bW M)->Lv s shut R ks M W s.joints.length 0->.Q->Q .aH H'
theorem IC(p:Nat->Bool)(m:Nat):[m].filter p=if p m=true then [m] else []:=by cases h:p m<;>simp[h]
def Bk(H:Hp)(b:.B)(W:Nat->.e):Prop:=∀(q:Nat) a,b[q]?=some a->H a=some (.lst<|aW<|W q)
theorem Bk.put{H:Hp}{d:.B}{W f:Nat->.e}{k m:Nat}{a:Addr}(B:Bk H d W)(h:d.Nodup)(g:d[k]?=some a)(i:∀q,f q=if q=k then W q++[m] else W q):Bk (upd H a<|.lst<|aW (W k)++[.int (m:Nat)]) d f:=λq b e=>by
 rw[i q];by_cases c:q=k
 ·subst c;rw[g] at e;cases e;rw[ai,.ah];simp[aW]
 ·rw[.ag,aq λz=>?_]
  ·exact B q b e
  ·subst z;obtain⟨h1,j⟩:=aB.mp g;obtain⟨h2,l⟩:=aB.mp e;exact c<|(oa h).mp<|l.trans j.symm
theorem Zc{f o:Addr}{fd p:FuncData}(F:d8 K "neighbours_without" "neighbours_without" Za f fd)(r:iQ P w K mg base bV 1 cS "neighbours" .cn (WX K cS cJ cP) o p):aX P w K mg base bV 2 f fd ["system","joint","barred"] (W4 K cS cJ cP):=by
 refine F.ok1 W2 ?_;rintro cdv A outer st H _ Q E e S ⟨sA,n,t,s,L,shut,kvs,rfl,hS,O,v,x,g,k⟩;have B:=rM e;refine⟨_,(ap<|aJ<|gH rfl W2.nd (cB<|bR r e .j aP<|ae .o ak) ((bO (by(show iP abu (ao Za) _ _=true);decide +kernel))) (own:=[("other",3)]) (λs H C cl h=>bX 3) (λs H C cl h=>lJ<|iA<|kz B .aj<|pv 2) λs H C cl h=>pv 3),?_⟩;obtain⟨G,I⟩:=hS.ob;have T:=mO s n;have U:=O.nr;have W:(BM s n).length<=2048:=by unfold BM;rw[au];omega
 refine⟨_,rfl,sA,G,_,rfl,I,rfl,_,rfl,sA,n,s,L,rfl,hS,O,v,λH1 J a M s1=>?_⟩;refine⟨J,rfl,⟨_,bh.of a⟩,λD j=>eN (λi=>(BM s n)[i]?.bind λu=>if u∉shut then some (V.int (u:Nat)) else none) (cQ<|bh.of a) j ?_ ?_ ?_⟩
 ·rw[au,sizeLine_eq];omega
 ·rintro i y l X Y hi N c R pn;obtain⟨u,b,rfl⟩:=d9 N;refine⟨rfl,_,rfl,_,rfl,t,_,rfl,ky.k (k:=aU (u:Int))<|(s1.trans c) _ _ x,_,rfl,?_⟩;refine c7 (λd=>?_) λd=>?_
  ·have d:u∉shut:=λz=>by rw[(g u).mpr z] at d;cases d
   exact⟨_,rfl,R _ _ .ax (by rw[b];simp[d])⟩
  ·have d:u∈shut:=(g u).mp (by cases q:cG kvs (aU (u:Int)) with|none=>rw[q] at d;exact absurd rfl d|some _=>rfl);exact pn _ .ax (by rw[b];simp[d])
 ·intro l c m;rw[A6 (BM s n) λu=>u∉shut] at m;exact k l D m (s1.free j)<|s1.trans c
theorem Zd{f f1 f2:Addr}{fd eX fd2:FuncData}(F:d8 K "level_ranks" "level_ranks" Zb f fd)(B:nG mg)(hmx:mg "max"=none)(KL:.aA)(Z:WY K cH)(GO:iQ P w K mg base bV 1 cS "outlets" .ae (lQ K cS cJ cP λk=>k == 4||k == 2) f1 eX)
  (GW:dQ P w K mg base bV 2 "neighbours_without" ["system","joint","barred"] (W4 K cS cJ cP) f2 fd2):aX P w K mg base bV 3 f fd ["system","heights","barred"] (W5 K cS cJ cP cH):=by
 refine F.ok1 Sh ?_;rintro cdv A outer st H _ Q E hr X ⟨sA,hA,bA,s,L,shut,kvs,rL,kL,R,ks,rfl,hS,O,Y,hB,JO,hk1,k⟩;refine⟨_,(af (bu 3 (dm AF (eW (ae rq ak)) (dz B.len .V))) (af (rH (i:=4) rfl Sh.nd rfl rfl .s (cB (aw .o rfl)) ((bO (by(show iP abv (ao Zb) _ _=true);decide +kernel))) (own:=[("height",10)]) (λs H C cl fp=>bX 10) (λs H C cl fp=>eB) (λs H C cl fp=>eW ak)) (af (iO dc rfl (cB (eI GO hr .j aP)) (bX 5)
   (ap (aL (mL fV gz gW fP (bG .ay (bG (aw .o rfl) (pv 5))) (ae (pv 5) ak))))) (af (iO dc rfl (wQ .s B.range (ae (dz B.len (aw .o rfl)) ak)) (bX 6)
   (af (bu 7 aD) (ap (mJ dc (a9 ny (pv 7) (dz B.len (bG .ay (pv 6))) .aN)
    (af (bu 8 (bG (bG .ay (pv 6)) (pv 7))) (af (Dy (i:=7) Sh.nd rfl (kX rfl) aD An) (ap (cx (iA (mI (bG .aj (pv 8))))
     (af (Dx (pv 6) (Dv .aj (pv 8) set_list)) (ap (iO dc rfl (cB (dG GW hr aP (ae .j (ae (pv 8) .cG)))) (bX 9)
      (ap (aL (mL fV gz gW fP (bG .ay (df (M0 rfl) .s hmx Y9 (ae (pv 6) (ae (bG (aw .o rfl) (pv 9)) ak)))) (ae (pv 9) ak))))))) bE)))))))) (ap (aJ .aj)))))),?_⟩
 have nj:=O.nj;have T:=Y.ok;refine⟨ .cL,λN Ig=>?_⟩;have s1:Same H (upd H N<|.lst [.non]):=Same.new Ig;obtain⟨dS,oS⟩:=(.cf).ob;refine⟨_,rfl,sA,cS,dS,_,_,rfl,oS,KL.S,KL.b5,rfl,L.jL,_,rfl,.inl<|bh.of (.cf).jl,N,_,_,rfl,rfl,ai,?_,?_,?_,λl Ze=>?_⟩
 ·rw[au,hS.jn];omega
 ·rw[au,hS.jn];omega
 ·rw[au,hS.jn,sizeLine_eq];show 1*(s.joints.length:Int).toNat<=_;omega
 rw[show ((.b9).length:Int).toNat=s.joints.length by rw[au,hS.jn];omega,DZ];have s2:Same H (upd (upd H N<|.lst [.non]) l<|.lst<|bW<|bq s.joints.length none):=s1.trans<|Same.new Ze;have hl0:H l=none:=s1.free Ze;have Ij:(upd (upd H N<|.lst [.non]) l<|.lst<|bW<|bq s.joints.length none) l=some (.lst<|bW<|bq s.joints.length none):=ai;generalize upd (upd H N<|.lst [.non]) l (.lst<|bW<|bq s.joints.length none)=H2 at s2 Ij;obtain⟨dH,oH⟩:=(Y.same s2).ob;obtain⟨as,ha,hp⟩:=(Y.same s2).rs;have al:as.length=s.joints.length:=by rw[Ec hp,T.rl]
 refine⟨_,rfl,hA,cH,dH,_,_,rfl,oH,Z.cl,Z.Y5,rfl,rL,rfl,⟨_,bh.of ha⟩,λwA Jf=>QC (λys H'=>∃g:.B,ys=g.map V.ref/\g.Nodup/\∀a,a∈g->H' a=some (.lst [])/\H2 a=none/\a≠wA)
  (λys H3 H4 ⟨g,e,X,h⟩ s=>⟨g,e,X,λa m=>⟨s _ _ (h a m).1,(h a m).2⟩⟩) (λys zs H3 _ ⟨g,e,X,h⟩=>⟨g,e,X,λa m=>⟨by rw[aq (h a m).2.2];exact(h a m).1,(h a m).2⟩⟩) ⟨[],rfl,.nil,.m⟩ (cQ (bh.of ha)) Jf ?_ ?_ ?_⟩
 ·rw[au,al,sizeLine_eq];omega
 ·rintro i x H3 ys Py hi hx s3 ⟨Yp,_⟩ ⟨g,rfl,X,hw⟩ py;refine⟨rfl,bj _,λa t=>py _ _ (Same.new t) ⟨g++[a],.m,?_,λb u=>?_⟩⟩
  ·refine n6.mpr ⟨X,.m,λb u c hc z=>?_⟩;obtain rfl:c=a:=by simpa using hc
   rw[z] at u;rw[(hw _ u).1] at t;cases t
  ·rcases bZ.mp u with z|z
   ·exact⟨Same.new t _ _ (hw b z).1,(hw b z).2⟩
   ·obtain rfl:b=a:=.c3
    exact⟨ai,s3.free t,λz=>by rw[z,Yp] at t;cases t⟩
 intro H3 ys s3 hw3 yl ⟨g,eys,X,v⟩;subst eys;have wl:g.length=s.joints.length:=by rw[au,au] at yl;rw[yl,al]
 have JK:=s2.trans s3;have fw:∀a,a∈g->H a=none:=λa m=>s2.free (v a m).2.1;have nlw:∀a,a∈g->l≠a:=λa m z=>by have q:=(v a m).2.1;rw[<-z,Ij] at q;cases q
 have hw0:H wA=none:=s2.free Jf;have nlA:l≠wA:=λz=>by rw[<-z,Ij] at Jf;cases Jf
 have B3:Bk H3 g λ_=>[]:=λq a o=>(v a<|bc o).1;have len:∀m:.as,(bW m).length=m.length:=λm=>au _;have setM:∀(m:.as) (q:Nat) (r:Int),(bW m).set q (.int r)=bW (m.set q<|some r):=λm q r=>by show(m.map markV).set q (markV<|some r)=(m.set q<|some r).map markV;rw[uC]
 have Zf:∀q,q<s.joints.length->∃a,g[q]?=some a/\a∈g:=λq hq=>⟨_,bo<|by omega,ux _⟩;have abw:∀j,.a7->ks[j]?=some (ks.getD j 0)/\ks.getD j 0<s.joints.length:=λj U=>by
  have e:ks[j]?=some (ks.getD j 0):=by
   rw[cM,bo (by rw[T.kl];exact U)];rfl
  exact⟨e,by rw[<-T.rl];exact(aB.mp<|T.at_ j U).1⟩
 obtain⟨dS,oS⟩:=(hS.same JK).ob;refine⟨_,rfl,sA,dS,_,rfl,oS,rfl,sA,s,L,rfl,hS.same JK,.h,O.kd,λH4 N ho4 hon s4=>?_⟩;generalize hos:(gf s λk=>k == 4||k == 2)=os at ho4;have ol:os.length<=s.joints.length:=by
  rw[<-hos];refine bK (ft _ _) ?_;rw[kH];exact aG _
 have om:∀j,j∈os↔ .a7/\(.aF=4\/.aF=2):=λj=>by
  rw[<-hos];unfold gf;rw[bJ,dU];simp
 have noa:∀a,a∈g->N≠a:=λa m z=>by rw[z,(v a m).1] at hon;cases hon
 have N5:=JK.trans s4;refine⟨N,rfl,⟨_,bh.of ho4⟩,iB (K:=K) (a:=N) (xs:=aW os) (λi σ H'=>∃D:.aw,σ=[some .al,some (.ref hA),.dm,some .aH,.cV,D,none,none,none,none,none]/\.Q/\H' N=some (.lst (aW os))/\
   H' l=some (.lst (bW (bq s.joints.length none)))/\H' wA=some (.lst (g.map V.ref))/\Bk H' g λq=>(os.take i).filter λj=>ks.getD j 0 == q)
  ⟨none,rfl,N5,ho4,s4 _ _ (s3 _ _ Ij),s4 _ _ hw3,λq a o=>s4 _ _ (B3 q a o)⟩ (λi σ H' _ ⟨_,_,_,h4,_⟩=>bh.of h4) ?_ ?_⟩
 ·rintro i x σ H5 hx ⟨D,rfl,s5,ho5,Z1,Yo,B5⟩;obtain⟨j,U,rfl⟩:=d9 hx;obtain⟨jl,_⟩:=(om j).mp<|bc U;obtain⟨kj,kl⟩:=abw j jl;obtain⟨a,o,ma⟩:=Zf _ kl;obtain⟨dH,oH⟩:=(Y.same s5).ob;have ba:=B5 _ a o;refine⟨_,rfl,_,rfl,hA,cH,dH,_,_,rfl,oH,Z.cl,Z.rnk,rfl,_,rfl,kL,_,_,_,rfl,rfl,bh.of (Y.same s5).kl,cv kj,wA,_,_,_,rfl,rfl,bh.of Yo,cv o,.inl ⟨rfl,_,bh.of ba⟩,_,rfl,a,_,_,rfl,rfl,ba,?_,?_⟩
  ·have:=ft (λj'=>ks.getD j' 0 == ks.getD j 0)<|os.take i;rw[ie] at this;rw[au,sizeLine_eq];dsimp only;omega
  ·refine⟨_,rfl,s5.put<|fw a ma,by rw[aq<|noa a ma];exact ho5,by rw[aq<|nlw a ma];exact Z1,by rw[aq<|aF (v a ma).2.2];exact Yo,B5.put X o λq=>?_⟩;rw[take_snoc U,lU,IC];by_cases c:q=ks.getD j 0
   ·rw[.au,if_pos (by rw[c];exact beq_self_eq_true _)]
   ·rw[.ag,if_neg λz=>c (eq_of_beq z).symm,dR]
 ·rintro σ H5 ⟨D,rfl,s5,ho5,Z1,Yo,B5⟩;rw[au,gr] at B5;have V5:=Lv.start (shut:=shut) T hk1 om ol;obtain⟨dH,oH⟩:=(Y.same s5).ob;obtain⟨as5,ha5,hp5⟩:=(Y.same s5).rs;have al5:as5.length=s.joints.length:=by rw[Ec hp5,T.rl]
  refine⟨_,rfl,hA,cH,dH,_,_,rfl,oH,Z.cl,Z.Y5,rfl,rL,_,rfl,.inl<|bh.of ha5,_,rfl,?_,?_,?_⟩
  ·rw[au,al5];omega
  ·rw[au,al5];omega
  rw[show ((as5.map V.ref).length:Int).toNat=s.joints.length by rw[au,al5];omega];refine Cs (lo:=0) (n:=s.joints.length) (λi σ H'=>∃(M:.as) (W:Nat->.e) (D v6 v7 G p:.aw),σ=[some .al,some (.ref hA),.dm,some .aH,.cV,D,v6,v7,G,p,none]/\.Q/\
    H' l=some (.lst (bW M))/\H' wA=some (.lst (g.map V.ref))/\Bk H' g W/\Lv s shut R ks M W i 0)
   ⟨_,_,D,none,none,none,none,rfl,s5,Z1,Yo,B5,V5⟩ ?_ ?_
  ·rintro n σ H6 hn ⟨M,W,D,v6,v7,G,p,rfl,s6,Tg,hw6,B6,V6⟩;rw[show (0:Int)+(n:Nat)=(n:Nat) by omega];refine AV ?_;refine⟨λc σ H'=>∃(M:.as) (W:Nat->.e) (d:Nat) (G p:.aw),c=2049*s.joints.length-d/\σ=[some .al,some (.ref hA),.dm,some .aH,.cV,D,some (.int (n:Nat)),some (.int (d:Nat)),G,p,none]/\.Q/\
     H' l=some (.lst<|bW M)/\H' wA=some (.lst<|g.map V.ref)/\Bk H' g W/\Lv s shut R ks M W n d,
    ⟨_,M,W,0,G,p,rfl,rfl,s6,Tg,hw6,B6,V6⟩,?_⟩
   rintro c σ H7 ⟨M,W,d,G,p,rfl,rfl,s7,QQ,I,B7,V7⟩;obtain⟨a,o,ma⟩:=Zf n hn;have ba:=B7 n a o;refine⟨_,rfl,_,rfl,_,rfl,wA,_,_,_,rfl,rfl,bh.of I,cv o,a,_,rfl,.inl<|bh.of ba,_,_,rfl,rfl,_,rfl,?_⟩;rw[au];refine c7 (λcc=>?_) λcc=>?_
   ·have cc:d<(W n).length:=by have:=of_decide_eq_true cc;omega
    obtain⟨j,U⟩:∃j,(W n)[d]?=some j:=⟨_,bo cc⟩;obtain⟨_,_,oj⟩:=V7.wt n j (bc U);have jl:=oj.lt O.inr;obtain⟨x,hx⟩:∃x,M[j]?=.v:=⟨_,bo (by rw[V7.ll];exact jl)⟩;refine⟨λσ H'=>∃(M:.as) (W:Nat->.e) (G p:.aw),σ=[some .al,some (.ref hA),.dm,some .aH,.cV,D,some (.int (n:Nat)),some (.int ((d+1:Nat):Int)),G,p,none]/\.Q/\
     H' l=some (.lst (bW M))/\H' wA=some (.lst (g.map V.ref))/\Bk H' g W/\Lv s shut R ks M W n (d+1),λσ' H' ⟨M',W',G,p,e,h'⟩=>⟨_,?_,M',W',d+1,G,p,rfl,e,h'⟩,?_⟩
    ·have:=V7.cnt n;omega
    refine⟨_,rfl,_,rfl,wA,_,_,_,rfl,rfl,bh.of I,cv o,_,rfl,a,_,_,_,rfl,rfl,bh.of ba,cv U,?_⟩;refine⟨_,rfl,_,_,rfl,rfl,?_⟩;refine⟨_,rfl,_,rfl,l,_,_,_,rfl,rfl,bh.of QQ,cv hx,_,rfl,?_⟩;refine c7 (λe=>?_) λe=>?_
    ·have e:x=none:=by
      cases x with
      |none=>rfl
      |some a=>exact absurd (of_decide_eq_true e) .bG
     subst e;refine⟨_,rfl,_,rfl,_,rfl,l,_,_,j,rfl,rfl,QQ,sG (by rw[len,V7.ll];exact jl),?_⟩;rw[setM];have s8:Same H .e8:=s7.put hl0;have hw8:(.e8) wA=some (.lst<|g.map V.ref):=by rw[aq<|aF nlA];exact I
     have hM8:(.e8) l=some (.lst<|bW<|M.set j<|some (n:Nat)):=ai;have B8:Bk .e8 g W:=λq b u=>by rw[aq<|aF<|nlw b<|bc u];exact B7 q b u
     generalize upd H7 l (.lst<|bW<|M.set j<|some (n:Nat))=H8 at s8 hw8 hM8 B8;refine⟨_,rfl,_,rfl,_,rfl,sA,j,bA,s,L,shut,kvs,rfl,hS.same s8,O,jl,s8 _ _ hB,JO,λH9 nA hn9 hnn s9=>?_⟩;have nna:∀a,a∈g->nA≠a:=λa m z=>by
      obtain⟨q,hq⟩:=fh m;rw[z,B8 q a hq] at hnn;cases hnn
     have nl:(nbW s shut j).length<=2048:=by
      refine bK (ft _ _) ?_;have:=mO s j;have:=O.nr;unfold BM;rw[au];omega
     have nm:∀m,m∈nbW s shut j↔Adj s j m/\m∉shut:=λm=>by
      unfold nbW;rw[bJ,IB];simp
     generalize nbW s shut j=ns at hn9 nl nm;refine⟨nA,rfl,⟨_,bh.of hn9⟩,iB (K:=K) (a:=nA) (xs:=aW ns) (λi σ H'=>∃p:.aw,σ=[some .al,some (.ref hA),.dm,some .aH,.cV,D,some (.int (n:Nat)),some (.int ((d:Int)+1)),some (.int .aL),p,none]/\.Q/\H' nA=some (.lst (aW ns))/\
       H' l=some (.lst (bW (M.set j (some (n:Nat)))))/\H' wA=some (.lst (g.map V.ref))/\Bk H' g λq=>W q++(ns.take i).filter λm=>.dh == q)
      ⟨p,rfl,s8.trans s9,hn9,s9 _ _ hM8,s9 _ _ hw8,λq b u=>by show H9 b=some (.lst (aW (W q++[])));rw[dR];exact s9 _ _ (B8 q b u)⟩ (λi σ H' _ ⟨_,_,_,h4,_⟩=>bh.of h4) ?_ ?_⟩
     ·rintro i y σ H10 hy ⟨p,rfl,ZY,abx,Zg,Vv,J⟩;obtain⟨m,hm,rfl⟩:=d9 hy;have ml:m<s.joints.length:=by
       obtain⟨⟨q,r,hr',hac⟩,ms⟩:=(nm m).mp<|bc hm;exact Off.lt O.inr<|.step (oj.mono<|xE _<|s.height m) hr' hac ms<|vk _ _
      obtain⟨km,kl⟩:=abw m ml;have kx:.dh<s.joints.length:=.h
      obtain⟨b,u,mb⟩:=Zf _ kx;have bb:=J _ b u;obtain⟨dH,oH⟩:=(Y.same ZY).ob;have emax:(if((ks.getD m 0:Nat):Int)>((n:Nat):Int) then((ks.getD m 0:Nat):Int) else((n:Nat):Int))=((.dh:Nat):Int):=by split<;>omega
      have hat:AA (g.map V.ref) (if((ks.getD m 0:Nat):Int)>((n:Nat):Int) then((ks.getD m 0:Nat):Int) else((n:Nat):Int))=some (V.ref b):=by rw[emax];exact cv u
      refine⟨_,rfl,_,rfl,_,rfl,hA,cH,dH,_,_,rfl,oH,Z.cl,Z.rnk,rfl,_,rfl,kL,_,_,_,rfl,rfl,bh.of (Y.same ZY).kl,cv km,_,_,rfl,wA,_,_,_,rfl,rfl,bh.of Vv,hat,.inl ⟨rfl,_,bh.of bb⟩,_,rfl,b,_,_,rfl,rfl,bb,?_,?_⟩
      ·have:=ft (λm'=>max n (ks.getD m' 0) == .dh)<|ns.take i;rw[ie] at this;have:=V7.cnt<|max n<|ks.getD m 0;rw[au,sizeLine_eq];dsimp only;rw[bS];omega
      ·refine⟨_,rfl,ZY.put<|fw b mb,by rw[aq<|nna b mb];exact abx,by rw[aq<|nlw b mb];exact Zg,by rw[aq<|aF (v b mb).2.2];exact Vv,J.put X u λq=>?_⟩;rw[take_snoc hm,lU,IC,<-iR];by_cases c:q=.dh
       ·rw[.au,if_pos (by rw[c];exact beq_self_eq_true _)]
       ·rw[.ag,if_neg λz=>c (eq_of_beq z).symm,dR]
     ·rintro σ H10 ⟨p,rfl,ZY,abx,Zg,Vv,J⟩;rw[au,gr] at J;exact⟨_,_,_,_,rfl,ZY,Zg,Vv,J,V7.turn T O.inr U hx nm nl⟩
    ·cases x with
     |none=>exact absurd rfl e
     |some a=>exact⟨M,W,_,_,rfl,s7,QQ,I,B7,V7.skip U hx⟩
   ·exact⟨M,W,_,_,_,_,_,rfl,s7,QQ,I,B7,V7.next<|kN λz=>cc<|decide_eq_true<|by omega⟩
  ·rintro σ H6 ⟨M,W,D,v6,v7,G,p,rfl,s6,Tg,hw6,B6,V6⟩;exact⟨_,rfl,k H6 l M W Tg V6 s6⟩
theorem W6{α β:Type}{F:α->β->Prop}:∀{a:.aP} {b:List β},a.length=b.length->(∀(i:Nat) x y,a[i]?=.v->b[i]?=.ao->F x y)->Paired F a b
 |[],[],_,_=>.nil
 |x::a,y::b,e,h=>.cons (h 0 x y rfl rfl)<|W6 (MF e) λi u v c hv=>h (i+1) u v c hv
def vY(K:ah)(H:Hp)(v:V):Option bz->Prop
 |none=>v=.non
 |some x=>∃a,v=.E/\eO K H a x
theorem vY.same{K:ah}{H H':Hp}{v:V}{o:Option bz}(h:vY K H v o)(s:.Q):vY K H' v o:=by
 cases o with
 |none=>exact h
 |some x=>obtain⟨a,e,q⟩:=h;exact⟨a,e,q.same s⟩
structure Ed(K:ah)(H:Hp)(a:Addr)(s:aM)(lv:List (Option bz)):Prop where
 at_:∃vs,H a=some (.lst vs)/\Paired (vY K H) vs lv
 len:lv.length=s.joints.length
 sm:∀x,.v∈lv->Small x
theorem Ed.same{K:ah}{H H':Hp}{a:Addr}{s:aM}{b:List (Option bz)}(h:Ed K H a s b)(e:.Q):Ed K H' a s b:=by
 obtain⟨vs,h1,h2⟩:=h.at_;exact⟨⟨vs,e _ _ h1,Paired.wK h2 λv o q=>q.same e⟩,h.len,h.sm⟩
theorem Ed.get{K:ah}{H:Hp}{a:Addr}{s:aM}{b:List (Option bz)}(h:Ed K H a s b){j:Nat}(c:.a7):∃vs v,H a=some (.lst vs)/\vs[j]?=.av/\vY K H v (b.getD j none)/\∀x,b.getD j none=.v->Small x:=by
 obtain⟨vs,h1,h2⟩:=h.at_;have e:b[j]?=some (b.getD j none):=by rw[cM,bo (by rw[h.len];exact c)];rfl
 obtain⟨v,d,f⟩:=xn h2 e;exact⟨vs,v,h1,d,f,λx g=>h.sm x (by rw[<-g];exact bc e)⟩
abbrev Zh:Stmt:=top 32
abbrev aby:.L:=["system","heights","shut","ranks","rank"]
theorem W7:az aby .eW (ao Zh):=fscope
def Lw(K:ah)(cS cJ cP cH:Addr):Sp:=λvs H Q _=>∃(sA hA a:Addr) (s:aM) (L:Lay) (shut:.e) (b c:Addr) (R:List bz) (ks:.e),vs=[.al,.ref hA,.E]/\.bF/\iM s/\BN K cH H hA s b c R ks/\bh K H a (aW shut)/\shut.length<=sizeLine/\(∀j,j∈shut->.aF=1)/\
 ∀(H':Hp) (l:Addr),Ed K H' l s (s.levels shut)->.Q->Q .aH H'
theorem Zi{f f1 f2:Addr}{fd eX z:FuncData}(F:d8 K "joint_levels" "joint_levels" Zh f fd)(N:WY K cH)(GD:dQ P w K mg base bV 1 "dict_of" ["joints"] (DY K) f1 eX)(GR:dQ P w K mg base bV 3 "level_ranks" ["system","heights","barred"] (W5 K cS cJ cP cH) f2 z):aX P w K mg base bV 4 f fd .eW (Lw K cS cJ cP cH):=by
 refine F.ok1 W7 ?_;rintro cdv A outer st H _ Q E S nd ⟨sA,hA,qr,s,L,shut,U,kL,R,ks,rfl,hS,O,B,G,sl,I,k⟩;refine⟨_,(af (bu 3 (dG GR S aP (ae .j (ae .o (ae (dG GD S aP .cG) ak))))) (ap (aJ (gH rfl W7.nd (cB .aj) ((bO (by(show iP aby (ao Zh) _ _=true);decide +kernel))) (own:=[("rank",4)]) (λs H C cl X=>bX 4) (λs H C cl X=>eB)
   (λs H C cl X=>rB (iA (mI .ay)) rq (nz (r:=AC K) kE (jj (K:=K) rfl .o rfl) .ay .aX)))))),?_⟩
 have nj:=O.nj;have T:=B.ok;refine⟨_,rfl,_,rfl,_,rfl,qr,shut,rfl,G,sl,λH1 bA kvs J h hbn s1=>?_⟩;refine⟨sA,hA,bA,s,L,shut,kvs,U,kL,R,ks,rfl,.cf,O,B.same s1,J,h,I,λH2 mA M W Y l Z=>?_⟩;have m:=B.same<|s1.trans Z;obtain⟨as,ha,hp⟩:=m.rs;have ov:=λ{j:Nat} (hj:j<s.joints.length)=>l.over T O.inr hj;have out:∀(j:Nat) o,M[j]?=.i->∃v,vY K H2 v (o.bind λa=>R[a.toNat]?)/\(∀x,(o.bind λa=>R[a.toNat]?)=.v->Small x)/\v=(match o with|none=>.non|some a=>.ref<|as.getD a.toNat 0):=λj o c=>by
  cases o with
  |none=>exact⟨.non,rfl,.m,rfl⟩
  |some a=>
   obtain⟨q,x,rfl,_,d,_⟩:=l.lv j a c;obtain⟨b,J,lb⟩:=xn hp d;refine⟨ .aM,?_,?_,by simp[cM,J]⟩
   ·show vY K H2 _ R[((q:Nat):Int).toNat]?;rw[iU,d];exact⟨b,rfl,lb⟩
   ·show ∀y,R[((q:Nat):Int).toNat]?=.ao->_;rw[iU,d];rintro y ⟨⟩;exact T.sm x<|bc d
 refine⟨_,rfl,mA,rfl,⟨_,bh.of Y⟩,λD hD=>eN (λi=>M[i]?.bind λo=>some (match o with|none=>V.non|some a=>V.ref<|as.getD a.toNat 0)) (cQ<|bh.of Y) hD ?_ ?_ ?_⟩
 ·rw[au,l.ll,sizeLine_eq];omega
 ·rintro i y H5 Py Pn hi g n py pn;rw[b8] at g;cases c:M[i]? with
  |none=>rw[c] at g;cases g
  |some o=>
   rw[c] at g;obtain rfl:markV o=y:=aI g;refine⟨rfl,yes ⟨_,rfl,_,rfl,?_⟩⟩;cases o with
   |none=>exact ph<|py _ _ .ax (by rw[c];rfl)
   |some a=>
    obtain⟨q,x,rfl,_,d,_⟩:=l.lv i a c;obtain⟨b,p,lb⟩:=xn hp d;obtain⟨dH,oH⟩:=(m.same n).ob;exact jW ⟨_,rfl,hA,cH,dH,_,_,rfl,oH,N.cl,N.Y5,rfl,_,rfl,U,_,_,_,rfl,rfl,bh.of<|n _ _ ha,cv p,py _ _ .ax (by rw[c];simp[cM,p])⟩
 ·intro H5 n hX;rw[pD M (λo=>match o with|none=>V.non|some a=>V.ref<|as.getD a.toNat 0) _<|au _] at hX
  obtain⟨u,_⟩:=Cj O.inr shut;refine k H5 D ⟨⟨_,hX,W6 (by rw[au,l.ll,u]) λi x y d g=>?_⟩,u,λx d=>?_⟩<|(s1.trans Z).trans n
  ·have t:=(aB.mp g).1;rw[u] at t;obtain⟨o,c,e⟩:=ov t;rw[b8,c] at d;obtain rfl:=aI d;obtain⟨v,h1,_,rfl⟩:=out i o c;rw[cM,g] at e;have e:y=_:=e;rw[e];exact h1.same n
  ·obtain⟨i,hi⟩:=fh d;have t:=.ch;rw[u] at t;obtain⟨o,c,e⟩:=ov t;obtain⟨v,_,h2,_⟩:=out i o c;rw[cM,hi] at e;exact h2 x e.symm
abbrev W8:Stmt:=top 92
abbrev W9:Stmt:=top 93
abbrev abz:Stmt:=top 94
abbrev Si:Stmt:=top 95
abbrev abA:Stmt:=top 96
abbrev abB:Stmt:=top 97
abbrev Xa:Stmt:=top 98
theorem Zj:az ["system","pipe","levels"] ["system","pipe","levels"] (ao W8):=fscope
theorem Zk:az ["system","levels","total","pipe"] ["system","levels"] (ao W9):=fscope
theorem abC:az ["pipe","levels","one","other"] ["pipe","levels"] (ao abz):=fscope
theorem Vw:az ["system","pipe","level","whole","lowest"] ["system","pipe","level"] (ao Si):=fscope
theorem abD:az ["pipe"] ["pipe"] (ao abA):=fscope
theorem abE:az ["pipe"] ["pipe"] (ao abB):=fscope
theorem Zl:az ["pipe","rise"] ["pipe","rise"] (ao Xa):=fscope
def Lx(K:ah)(H:Hp)(Q:VK)(x:bz):Prop:=∀H' t,eO K H' t x->.Q->Q (.ref t) H'
def Ly(K:ah)(cP:Addr)(a:bH->Nat):Sp:=λvs H Q _=>∃p r,vs=[.aO]/\.c7/\Q (.int (a r:Nat)) H
def loE(r:bH):Nat:=if(bD r.dir).2.2<0 then r.to_ else r.from_
def upE(r:bH):Nat:=if(bD r.dir).2.2<0 then r.from_ else r.to_
def Sj(K:ah)(cP:Addr):Sp:=λvs H Q _=>∃p r a x,vs=[.aO,.E]/\.c7/\r.dir<18/\eO K H a x/\Lx K H Q (if mq (bD r.dir) (bD r.dir)=1 then x else⟨2*x.q,x.p⟩)
def Xb(K:ah)(cP:Addr):Sp:=λvs H Q _=>∃p r b s a,vs=[.aO,.aM]/\.c7/\Ed K H b s a/\r.from_<s.joints.length/\r.to_<s.joints.length/\
 ∀H' v,vY K H' v (s.levelOf a r)->(∀x,s.levelOf a r=.v->Small x)->.Q->Q v H'
def Lz(K:ah)(cS cJ cP:Addr):Sp:=λvs H Q _=>∃sA p v s L r o,vs=[.al,.aO,v]/\.bF/\iM s/\r∈s.runs/\.c7/\vY K H v o/\(∀x,o=.v->Small x)/\Lx K H Q (s.wetBy r o)
def J7(K:ah)(cS cJ cP:Addr):Sp:=λvs H Q _=>∃sA p a s L r b,vs=[.al,.aO,.E]/\.bF/\iM s/\r∈s.runs/\.c7/\Ed K H a s b/\Lx K H Q (s.wetBy r<|s.levelOf b r)
def Bm(s:aM)(b:List (Option bz))(rs:List bH):bz:=rs.foldl (λ(a:bz) (r:bH)=>a.add<|(s.wetBy r<|s.levelOf b r).times (r.radius*r.radius:Nat)) ⟨0,0⟩
def Sk(K:ah)(cS cJ cP:Addr):Sp:=λvs H Q _=>∃sA a s L b,vs=[.al,.E]/\.bF/\iM s/\Ed K H a s b/\Lx K H Q (Bm s b s.runs)
theorem Zm{f:Addr}{fd:FuncData}(F:d8 K "lower_end" "lower_end" abA f fd)(a:.aA):aX P w K mg base bV 1 f fd ["pipe"] (Ly K cP loE):=by
 refine F.ok1 abD ?_;rintro cdv A outer st H _ Q E g h ⟨p,r,rfl,⟨b,dA,d,e⟩,k⟩;refine⟨_,(ap<|aJ<|rB (a9 ny (hG .V aD) aD<|a0 _) .V<|aw .j rfl),?_⟩;refine⟨_,rfl,p,cP,b,_,_,rfl,d,a.P,a.kC,rfl,dA,_,_,_,rfl,rfl,e,rfl,_,_,rfl,rfl,_,rfl,?_⟩;unfold loE at k;refine c7 (λc=>?_) λc=>?_
 ·rw[if_pos<|of_decide_eq_true c] at k;exact⟨_,rfl,p,cP,b,_,_,rfl,d,a.P,a.pV,rfl,k⟩
 ·rw[if_neg λz=>c<|decide_eq_true z] at k;exact⟨_,rfl,p,cP,b,_,_,rfl,d,a.P,a.tL,rfl,k⟩
theorem Zn{f:Addr}{fd:FuncData}(F:d8 K "upper_end" "upper_end" abB f fd)(a:.aA):aX P w K mg base bV 1 f fd ["pipe"] (Ly K cP upE):=by
 refine F.ok1 abE ?_;rintro cdv A outer st H _ Q E g h ⟨p,r,rfl,⟨b,dA,d,e⟩,k⟩;refine⟨_,(ap<|aJ<|rB (a9 ny (hG .V aD) aD<|a0 _) .V<|aw .j rfl),?_⟩;refine⟨_,rfl,p,cP,b,_,_,rfl,d,a.P,a.kC,rfl,dA,_,_,_,rfl,rfl,e,rfl,_,_,rfl,rfl,_,rfl,?_⟩;unfold upE at k;refine c7 (λc=>?_) λc=>?_
 ·rw[if_pos<|of_decide_eq_true c] at k;exact⟨_,rfl,p,cP,b,_,_,rfl,d,a.P,a.tL,rfl,k⟩
 ·rw[if_neg λz=>c<|decide_eq_true z] at k;exact⟨_,rfl,p,cP,b,_,_,rfl,d,a.P,a.pV,rfl,k⟩
theorem Vx{f i j:Addr}{fd l b:FuncData}(F:d8 K "length_of_rise" "length_of_rise" Xa f fd)(d:.aA)(m:dQ P w K mg base bV 1 "axes" ["direction"] (D1 K) i l)(n:dQ P w K mg base bV 1 "times_root" ["length"] (Rb K) j b):aX P w K mg base bV 2 f fd ["pipe","rise"] (Sj K cP):=by
 refine F.ok1 Zl ?_;rintro cdv A outer st H _ Q E e u ⟨p,r,a,x,rfl,⟨o,dA,q,s⟩,g,h,k⟩;refine⟨_,(ap<|aJ<|rB (a9 fo (dG m e aP<|ae .V ak) aD<|a0 _) .o<|dG n e aP<|ae .o ak),?_⟩;refine⟨_,rfl,p,cP,o,_,_,rfl,q,d.P,d.kC,rfl,dA,_,_,_,rfl,s,λH1 s1=>⟨rfl,_,rfl,?_⟩⟩;refine c7 (λc=>?_) λc=>?_
 ·rw[if_pos<|(Bb r.dir g).mp<|V.int.inj<|of_decide_eq_true c] at k;exact⟨_,rfl,k H1 a (h.same s1) s1⟩
 ·rw[if_neg λz=>c<|decide_eq_true<|congrArg V.int<|(Bb r.dir g).mpr z] at k;exact⟨_,rfl,a,x,rfl,h.same s1,λt ht=>k _ t eO.new<|s1.trans<|Same.new ht⟩
theorem Zo{f v:Addr}{fd B:FuncData}(F:d8 K "pipe_level" "pipe_level" abz f fd)(d:.aA)(C:dQ P w K mg base bV 2 "is_less" .bY (D4 K) v B):aX P w K mg base bV 3 f fd ["pipe","levels"] (Xb K cP):=by
 refine F.ok1 abC ?_;rintro cdv A outer st H _ Q E D M ⟨p,r,i,s,j,rfl,⟨l,dA,m,N⟩,n,h1,h2,k⟩;refine⟨_,(af (bu 2<|bG .o<|aw .j rfl)<|af (bu 3<|bG .o<|aw .j rfl)<|af (cx (iA<|mI<|pv 2) (ap<|aJ<|pv 3) bE)<|af (cx (Hm (iA<|mI<|pv 3)<|Du<|ko<|dG C D aP<|ae .M<|ae .aj ak).pt (ap<|aJ<|pv 2) bE)<|ap<|aJ<|pv 3),?_⟩;obtain⟨vs,G,e,I,o1,m1⟩:=n.get h1;obtain⟨J,o,q,L,o2,m2⟩:=n.get h2;rw[e] at q;cases q;unfold L8 at k;refine⟨_,rfl,_,rfl,p,cP,l,_,_,rfl,m,d.P,d.tL,rfl,i,_,_,_,rfl,rfl,bh.of e,c6 I,?_⟩;refine⟨_,rfl,_,rfl,p,cP,l,_,_,rfl,m,d.P,d.pV,rfl,i,_,_,_,rfl,rfl,bh.of e,c6 L,?_⟩;generalize j.getD r.from_ none=a at *;generalize j.getD r.to_ none=b at *;refine⟨_,rfl,_,rfl,?_⟩;cases a with
 |none=>
  obtain rfl:G=.non:=o1;exact ph ⟨_,rfl,k H o (by cases b<;>exact o2) (by cases b<;>exact m2)<|Same.refl _⟩
 |some x=>
  obtain⟨g,rfl,h⟩:=o1;refine jW ?_;refine⟨_,rfl,_,rfl,?_⟩;cases b with
  |none=>
   obtain rfl:o=.non:=o2;exact ph<|ph ⟨_,rfl,k H _ ⟨g,rfl,h⟩ m1<|Same.refl _⟩
  |some y=>
   obtain⟨t,rfl,u⟩:=o2;rw[Jo] at k;refine jW ⟨_,rfl,_,rfl,g,t,x,y,rfl,h,u,m1 x rfl,m2 y rfl,λH1 s1=>⟨_,rfl,?_⟩⟩;refine c7 (λc=>?_) λc=>?_
   ·rw[if_pos<|of_decide_eq_true c] at k;exact⟨_,rfl,k H1 _ ⟨g,rfl,h.same s1⟩ m1 s1⟩
   ·rw[if_neg λz=>c<|decide_eq_true z] at k;exact⟨_,rfl,k H1 _ ⟨t,rfl,u.same s1⟩ m2 s1⟩
theorem Sl{f f1 f2 f3 f4 f5 f6 G:Addr}{fd eX N qz tM QS R:FuncData}(F:d8 K "length_below" "length_below" Si f fd)(x:.aA){tU:Tok}(hU:mg "UNITS_ALONG_AN_AXIS"=some (.int 2000 tU))(hN:mg "NO_LENGTH"=some (.ref G))(T:KTup K G [.int 0,.int 0])
  (G1:dQ P w K mg base bV 1 "lower_end" ["pipe"] (Ly K cP loE) f1 eX) (G2:dQ P w K mg base bV 1 "upper_end" ["pipe"] (Ly K cP upE) f2 N) (G3:dQ P w K mg base bV 2 "is_less" .bY (D4 K) f3 qz) (G4:dQ P w K mg base bV 2 "length_of_rise" ["pipe","rise"] (Sj K cP) f4 tM)
  (G5:dQ P w K mg base bV 1 "minus" .bY (Ba K zX) f5 QS) (G6:iQ P w K mg base bV 1 cJ "height" .ae (Bl K cJ) f6 R):aX P w K mg base bV 3 f fd ["system","pipe","level"] (Lz K cS cJ cP):=by
 refine F.ok1 Vw ?_;rintro cdv A outer st H _ Q E e nd ⟨sA,p,v,s,L,r,o,rfl,hS,O,rm,hP,ho,hm,k⟩;refine⟨_,(af (bu 3<|kq<|ae (dm jV (aR .s hU (v:=.int 2000) .Y)<|aw .o rfl)<|ae aD ak)<|af (cx (iA<|mI<|pv 2) (ap<|aJ<|pv 3) bE)<|af (bu 4<|eI G6 e (bG .V<|dG G1 e aP<|ae .o ak) aP)<|af (cx (tF<|ko<|dG G3 e aP<|ae .ay<|ae .M ak) (ap<|aJ<|aR .s hN (v:=.ref G) rfl) bE)<|af (cx (tF<|ko<|dG G3 e aP<|ae .M<|ae (eI G6 e (bG .V<|dG G2 e aP<|ae .o ak) aP) ak) (ap<|aJ<|pv 3) bE)<|ap<|aJ<|dG G4 e aP<|ae .o<|ae (dG G5 e aP<|ae .M<|ae .ay ak) ak),?_⟩;have RO:=O.ro r rm;obtain⟨f1l,t1l⟩:=O.inr r rm;have U:=hP;obtain⟨I,dA,J,V⟩:=U;refine⟨_,rfl,p,cP,I,_,_,rfl,J,x.P,x.vP,rfl,_,_,rfl,rfl,.inl<|by decide,.b8,λwA Jf=>?_⟩;have s1:Same H (upd H wA<|.tup [.int<|2000*(r.n:Nat),.int 0]):=Same.new Jf;have W:eO K (upd H wA<|.tup [.int<|2000*(r.n:Nat),.int 0]) wA ⟨2000*(r.n:Int),0⟩:=gm.of ai;generalize upd H wA (.tup [.int<|2000*(r.n:Nat),.int 0])=H1 at s1 W;refine⟨_,rfl,_,rfl,?_⟩;cases o with
 |none=>
  obtain rfl:v=.non:=ho;exact ph ⟨_,rfl,k H1 wA W s1⟩
 |some h=>
  obtain⟨hA,rfl,X⟩:=ho;rw[Xs RO] at k;refine jW ?_;have b:=.cf;obtain⟨Y,Z⟩:=b.ob;obtain⟨j,jx,hj,g,⟨y,pA,B,l⟩,_⟩:=b.joint (i:=loE r) (by unfold loE;split<;>assumption);have el:jx.at_.z=low s r:=(kg g).symm;refine⟨_,rfl,sA,cS,Y,_,_,rfl,Z,x.S,x.b5,rfl,_,rfl,p,r,rfl,(hS.same s1 |> λ_=>⟨I,dA,s1 _ _ J,V.same s1⟩),L.jL,_,_,_,rfl,rfl,bh.of b.jl,cv hj,j.a,y,_,rfl,B,rfl,j.a,y,_,pA,_,rfl,B,rfl,l,λz hz=>?_⟩;rw[el] at hz;refine⟨_,rfl,_,rfl,z,hA,low s r,h,rfl,hz,X.same s1,O.ht _,hm h rfl,λH2 C=>⟨_,rfl,?_⟩⟩;refine c7 (λc=>?_) λc=>?_
  ·rw[if_neg (λq=>by rw[decide_eq_true q] at c;cases c)] at k;exact k H2 G T.at_<|s1.trans C
  have c:(low s r).order h<0:=by
   refine eJ λq=>c ?_;rw[decide_eq_false q];rfl
  rw[.au] at k;have m:=b.same C;obtain⟨Y,Z⟩:=m.ob;obtain⟨j,jx,hj,g,⟨y,pA,B,l⟩,_⟩:=m.joint (i:=upE r) (by unfold upE;split<;>assumption);have eu:jx.at_.z=high s r:=(kg g).symm;have M:=s1.trans C;refine⟨_,rfl,_,rfl,sA,cS,Y,_,_,rfl,Z,x.S,x.b5,rfl,_,rfl,p,r,rfl,⟨I,dA,M _ _ J,V.same M⟩,L.jL,_,_,_,rfl,rfl,bh.of m.jl,cv hj,j.a,y,_,rfl,B,rfl,j.a,y,_,pA,_,rfl,B,rfl,l,λu hu=>?_⟩;rw[eu] at hu;refine⟨hA,u,h,high s r,rfl,X.same M,hu,hm h rfl,O.ht _,λH3 s3=>⟨_,rfl,?_⟩⟩;have D:=M.trans s3;refine c7 (λd=>?_) λd=>?_
  ·rw[if_neg (λq=>by rw[decide_eq_true q] at d;cases d)] at k;exact⟨_,rfl,k H3 wA (W.same<|C.trans s3) D⟩
  have d:h.order (high s r)<0:=by
   refine eJ λq=>d ?_;rw[decide_eq_false q];rfl
  rw[if_pos d] at k;refine⟨_,rfl,_,rfl,_,rfl,hA,z,h,low s r,rfl,X.same D,hz.same<|C.trans s3,λt ht=>?_⟩;exact⟨p,r,t,h.sub<|low s r,rfl,⟨I,dA,Same.new ht _ _<|D _ _ J,(V.same D).same<|Same.new ht⟩,RO.dir,eO.new,λH4 t4 h4 s4=>k H4 t4 h4<|D.trans<|(Same.new ht).trans s4⟩
theorem Vy{f g h:Addr}{fd i c:FuncData}(F:d8 K "wet_length" "wet_length" W8 f fd)(j:dQ P w K mg base bV 3 "pipe_level" ["pipe","levels"] (Xb K cP) g i)(l:dQ P w K mg base bV 3 "length_below" ["system","pipe","level"] (Lz K cS cJ cP) h c):aX P w K mg base bV 4 f fd ["system","pipe","levels"] (J7 K cS cJ cP):=by
 refine F.ok1 Zj ?_;rintro cdv A outer st H _ Q E d B ⟨sA,p,m,s,L,r,n,rfl,hS,O,rm,e,o,k⟩;refine⟨_,(ap<|aJ<|dG l d aP<|ae .j<|ae .o<|ae (dG j d aP<|ae .o<|ae .M ak) ak),?_⟩;obtain⟨a,b⟩:=O.inr r rm;refine⟨_,rfl,_,rfl,_,rfl,_,rfl,p,r,m,s,n,rfl,e,o,a,b,λH1 v hv q s1=>?_⟩;obtain⟨u,dA,x,y⟩:=e;exact⟨sA,p,v,s,L,r,_,rfl,.cf,O,rm,⟨u,dA,s1 _ _ x,y.same s1⟩,hv,q,λH2 t ht z=>k H2 t ht<|s1.trans z⟩
theorem Vz{f J M N j:Addr}{fd R l T:FuncData}(F:d8 K "length_left" "length_left" W9 f fd)(c:.aA)(U:mg "NO_LENGTH"=some (.ref j))(m:KTup K j [.int 0,.int 0])(W:dQ P w K mg base bV 1 "plus" .bY (Ba K GG) J R)(X:dQ P w K mg base bV 1 "times" ["length","number"] (Lk K) M l)
  (Y:dQ P w K mg base bV 4 "wet_length" ["system","pipe","levels"] (J7 K cS cJ cP) N T):aX P w K mg base bV 5 f fd ["system","levels"] (Sk K cS cJ cP):=by
 refine F.ok1 Zk ?_;rintro cdv A outer st H _ Q E n nd ⟨sA,B,s,L,d,rfl,hS,O,Z,k⟩;refine⟨_,(af (bu 2 (aR .s U (v:=.ref j) rfl)) (af (iO dc rfl (cB .V) (bX 3)
   (ap (bu 2 (dG W n aP (ae .M (ae (dG X n aP (ae (dG Y n aP (ae .j (ae .aj .cw))) (ae (dm jV (aw .aj rfl) (aw .aj rfl)) ak))) ak)))))) (ap (aJ .M)))),?_⟩
 obtain⟨dS,oS⟩:=hS.ob;refine⟨_,rfl,sA,cS,dS,_,_,rfl,oS,c.S,c.gZ,rfl,L.qL,rfl,⟨_,bh.of hS.ql⟩,iB (K:=K) (a:=L.qL) (xs:=L.ps.map V.ref) (λi σ H'=>∃(t:Addr) (o:.aw),σ=[some .al,some (.ref B),some (.ref t),o]/\.Q/\eO K H' t (Bm s d (s.runs.take i)))
  ⟨j,none,rfl,.ax,m.at_⟩ (λi σ H' _ ⟨_,_,_,e,_⟩=>bh.of (hS.same e).ql) ?_ ?_⟩
 ·rintro i x σ H1 q ⟨t,o,rfl,s1,ht⟩;have C:=(aB.mp q).1;rw[au,hS.pn] at C;obtain⟨r,b⟩:∃r,s.runs[i]?=some r:=⟨_,bo C⟩;have rm:=bc b;obtain⟨p,hp,D⟩:=(.cf).pipe b;obtain rfl:V.ref p=x:=by rw[b8,hp] at q;exact aI q
  have G:=(O.ro r rm).lB;refine⟨_,rfl,_,rfl,_,rfl,_,rfl,sA,p,B,s,L,r,d,rfl,.cf,O,rm,D,Z.same s1,λH2 u hu e=>?_⟩;obtain⟨I,dA,oP,hD⟩:=D;have g:=e _ _ oP;refine⟨_,rfl,p,cP,I,_,_,rfl,g,c.P,c.vQ,rfl,_,rfl,p,cP,I,_,_,rfl,g,c.P,c.vQ,rfl,_,_,rfl,rfl,.inl ⟨ .h,.h⟩,?_⟩;have rr:r.radius*r.radius<=2000*2000:=Fj G G;have er:((r.radius:Nat):Int)*((r.radius:Nat):Int)=((r.radius*r.radius:Nat):Int):=.m
  refine⟨u,_,_,congrArg (λz=>[V.ref u,V.int z]) er,hu,⟨ .h,.h⟩,λt2 h=>?_⟩;refine⟨t,t2,_,_,rfl,(ht.same e).same<|Same.new h,eO.new,λt3 y=>?_⟩;refine⟨t3,_,rfl,(s1.trans e).trans<|(Same.new h).trans<|Same.new y,?_⟩;rw[take_snoc b,show Bm s d (s.runs.take i++[r])=(Bm s d<|s.runs.take i).add ((s.wetBy r<|s.levelOf d r).times (r.radius*r.radius:Nat)) by unfold Bm;rw[yO];rfl];exact eO.new
 ·rintro σ H1 ⟨t,o,rfl,s1,ht⟩;rw[au,hS.pn,gr] at ht;exact⟨_,rfl,k H1 t ht s1⟩
end
structure C8(K:ah)(cR cS cJ cP:Addr):Prop where
 R:x6 K cR
 gg:bM K cR "system"
 tW:bM K cR "joint_names"
 J8:bM K cR "valve_names"
 yC:bM K cR "radius"
 gM:bM K cR "stand"
 Sm:bM K cR "line"
 rs:cR≠cS
 rj:cR≠cJ
 rp:cR≠cP
 js:cJ≠cS
 ps:cP≠cS
def jt:Option (Nat×Bool)->V
 |none=>.non
 |some (j,_)=>.int .aL
def mQ(sA di dE:Addr)(h:bg)(i:Nat):.az:=[("system",.al),("joint_names",.ref di),("valve_names",.ref dE),("radius",.int (h.radius:Nat)),("stand",jt h.here),("line",.bC)]
def mS(s:aM)(kvs:.an):Prop:=∀n,cZ n=true->cG kvs .a2=match s.find n with
 |some j=>if .aF=0 then some (.int .aL) else none
 |none=>none
def nU(s:aM)(kvs:.an):Prop:=∀n,cZ n=true->(cG kvs<|aK<|T<|sg n).isSome=match s.find n with
 |some j=>decide (.aF=1)
 |none=>false
structure gN(K:ah)(cR cS cJ cP:Addr)(H0 H:Hp)(rA sA di dE:Addr)(L:Lay)(h:bg)(i c:Nat):Prop where
 ob:∃dx,H rA=some (.ins cR dx<|mQ sA di dE h i)
 jn:∃kvs,H di=.bg/\mS h.sys kvs/\kvs.length<=c
 vn:∃kvs,H dE=.bg/\nU h.sys kvs/\kvs.length<=c
 raw:Raw K cS cJ cP H0 H sA L (kD h.sys) h.sys.runs
 ne:di≠dE
 o1:H0 rA=none
 o2:H0 di=none
 o3:H0 dE=none
 li:c<=140000
def Faults(E:XK)(H0:Hp)(cF:Addr)(k i:Nat):Prop:=∀H' d,Same H0 H'->H' d=some (qv d [("kind",.int (k:Nat)),("line",.bC)])->E (.ref cF) .aS H'
abbrev vZ:Stmt:=top 89
abbrev Xc:Stmt:=inClass vZ 1
abbrev ID:Stmt:=inClass vZ 11
abbrev Sn:Stmt:=inClass vZ 12
abbrev So:Stmt:=inClass vZ 13
theorem Zp:az .cZ .cZ (ao Xc):=fscope
theorem NM:az .bb .bb (ao ID):=fscope
theorem VA:az ["self","joint"] .ae (ao Sn):=fscope
theorem VB:az ["self","name","joint"] .bb (ao So):=fscope
structure kF(mg:.aa):Prop where
 k1:∃t,mg "NO_FORM"=some (.int 1 t)
 k2:∃t,mg "OUT_OF_BOUNDS"=some (.int 2 t)
 k3:∃t,mg "WRONG_NAME"=some (.int 3 t)
 k4:∃t,mg "NOT_NOW"=some (.int 4 t)
 k5:∃t,mg "WRONG_JOINT"=some (.int 5 t)
 k6:∃t,mg "WRONG_PLACE"=some (.int 6 t)
 k8:∃t,mg "TOO_LARGE"=some (.int 8 t)
 k9:∃t,mg "NOT_ENDED"=some (.int 9 t)
 mj:∃t,mg "MOST_JOINTS"=some (.int 1024 t)
 mp:∃t,mg "MOST_PIPES"=some (.int 1024 t)
 fr:∃t,mg "FIRST_RADIUS"=some (.int 50 t)
def mT(cR cF:Addr):Sp:=λvs H Q E=>∃(rA dx:Addr) (fs:.az) (b:Bool) (k i:Nat),vs=[.ref rA,.bl b,.int (k:Nat)]/\H rA=some (.ins cR dx fs)/\fs.lookup ("line":Str)=.dP/\(b=true->Q .non H)/\(b=false->Faults E H cF k i)
section
variable{P:Program}{w:World}{K:ah}{mg:.aa}{base:Heap}{cR cS cJ cP cF:Addr}
theorem VC{f g:Addr}{fd j:FuncData}{cd:ClassData}(F:d8 K "need" "Reader.need" Xc f fd)(c:.by)(l:UO P w K mg base "Fault" cF g j cd):aX P w K mg base .aK 3 f fd .cZ (mT cR cF):=by
 refine F.lK Zp ?_;rintro cdv A outer st H _ Q E m G ⟨rA,dx,fs,b,k,i,rfl,n,o,p,q⟩;refine⟨_,(ap (cx (tF (ko .o)) (ap (Ny l m .O .s rfl bU (ae .M (ae .V ak)) (λσ H Q I r h=>by
  obtain⟨v,h1,s,h2,a,C,dx,fs,t,u,x,y,z,B,D⟩:=h;exact⟨v,h1,s,h2,a,C,dx,fs,t,u,x,y,z,B,r _ _ D⟩))) bE)),?_⟩
 refine⟨_,rfl,b,rfl,?_⟩;cases b with
 |true=>exact p rfl
 |false=>exact⟨_,rfl,_,rfl,rA,cR,dx,fs,_,rfl,n,c.R,c.Sm,o,_,_,rfl,λH' d h e=>q rfl H' d h e⟩
end
abbrev MX(P:Program)(w:World)(K:ah)(mg:.aa)(base:Heap):=iQ P w K mg base<|pG P w
section
variable{P:Program}{w:World}{K:ah}{mg:.aa}{base:Heap}{cR cS cJ cP cF:Addr}{H0 H:Hp}{rA sA di dE:Addr}{L:Lay}{h:bg}{i c:Nat}
theorem gN.faults(R:.bD){E:XK}{k:Nat}(a:Faults E H0 cF k i):Faults E H cF k i:=λH' d s e=>a H' d (R.raw.same.trans s) e
theorem gN.lC{H':Hp}(R:.bD)(e:.Q):gN K cR cS cJ cP H0 H' rA sA di dE L h i c where
 ob:=let ⟨dx,x⟩:=R.ob;⟨dx,e _ _ x⟩
 jn:=let ⟨k,x,y⟩:=R.jn;⟨k,e _ _ x,y⟩
 vn:=let ⟨k,x,y⟩:=R.vn;⟨k,e _ _ x,y⟩
 raw:=R.raw.lC e
 ne:=R.ne
 o1:=R.o1
 o2:=R.o2
 o3:=R.o3
 li:=R.li
theorem gN.VD(a:.by)(R:.bD):rA∉ .a4/\di∉ .a4/\dE∉ .a4:=by
 obtain⟨dx,e⟩:=R.ob;obtain⟨j,f,_⟩:=R.jn;obtain⟨k,g,_⟩:=R.vn;refine⟨λz=>?_,λz=>?_,λz=>?_⟩
 ·rcases R.raw.kinds z with⟨xs,q⟩|⟨C,d,fs,q,b⟩
  ·rw[e] at q;cases q
  ·rw[e] at q;cases q;rcases b with w|w|w
   ·exact a.rs w
   ·exact a.rj w
   ·exact a.rp w
 ·rcases R.raw.kinds z with⟨xs,q⟩|⟨C,d,fs,q,b⟩<;>rw[f] at q<;>cases q
 ·rcases R.raw.kinds z with⟨xs,q⟩|⟨C,d,fs,q,b⟩<;>rw[g] at q<;>cases q
theorem gN.kept(d:.by){H1:Hp}{f:Lay}{g:List JD}{a:List bH}(R:.bD)(h':Raw K cS cJ cP (hide H .a4) H1 sA f g a):∀b o,b=rA\/b=di\/b=dE->H b=.i->H1 b=.i:=λb o j e=>h'.same _ _ (by
 obtain⟨a1,a2,k⟩:=R.VD d;rw[vV]
 ·exact e
 ·rcases j with z|z|z<;>rw[z]<;>assumption)
def j7(s:aM)(n:aE):Bool:=(s.find n).isSome
def gh(s:aM)(n:aE):Bool:=match s.find n with
 |some j=>(s.joints[j]?.map λ(x:bv)=>x.kind) == some 0
 |none=>false
theorem xU{n:aE}(a:cZ n=true){kvs:.an}(b:mS h.sys kvs):(cG kvs<|aK<|T<|sg n).isSome=gh h.sys n:=by
 rw[b n a];unfold gh;cases e:.a3 with
 |none=>rfl
 |some j=>
  obtain⟨x,h1,h2⟩:=find_some e;have k:=fX h1;show(if .cW=0 then some (V.int .aL) else none).isSome=((h.sys.joints[j]?.map λ(x:bv)=>x.kind) == some 0)
  rw[h1];by_cases c:.cW=0
  ·rw[.au];rw[k] at c;simp[c]
  ·rw[.ag];rw[k] at c;simp[c]
theorem IE(O:bw h){n:aE}(a:cZ n=true){b d:.an}(f:mS h.sys b)(hv:nU h.sys d):
  j7 h.sys n=((cG b<|aK<|T<|sg n).isSome||(cG d<|aK<|T<|sg n).isSome):=by
 rw[f n a,hv n a];unfold j7;cases e:.a3 with
 |none=>rfl
 |some j=>
  obtain⟨x,h1,h2⟩:=find_some e;have k:=fX h1;have:=(O.nm j x n h1 h2).2;show true=((if .cW=0 then some (V.int .aL) else none).isSome||decide (.cW=1))
  rcases uI x.kind 1 with z|z
  ·have c:.cW=0:=.h
   rw[.au];rfl
  ·have c:.cW=1:=.h
   rw[c];rfl
def sL(K:ah)(cR cS cJ cP cF:Addr):Sp:=λvs H Q E=>∃(rA sA di dE:Addr) (H0:Hp) (L:Lay) (h:bg) (i c:Nat) (n:aE),.ew/\.bD/\bw h/\cZ n=true/\
 (j7 h.sys n=false->Q .non H)/\(j7 h.sys n=true->Faults E H0 cF 3 i)
theorem J9{f o:Addr}{fd p:FuncData}(F:d8 K "need_new_name" "Reader.need_new_name" ID f fd)(d:.by)(N:kF mg)(q:MX P w K mg base 3 cR "need" .cZ (mT cR cF) o p):aX P w K mg base .aK 4 f fd .bb (sL K cR cS cJ cP cF):=by
 refine F.lK NM ?_;rintro cdv A outer st H _ Q E j C ⟨rA,sA,di,dE,H0,L,h,i,D,n,rfl,R,O,r,s,t⟩;have l:=rM j;obtain⟨G,u⟩:=N.k3;refine⟨_,(ap<|aL<|bR q j .j bU<|ae (wO (nM<|kz l .o<|aw .j rfl)<|wN<|nM<|kz l .o<|aw .j rfl)<|ae (aR .s u (v:=.int 3) .Y) ak),?_⟩;obtain⟨dx,e⟩:=R.ob;obtain⟨g,x,y,_⟩:=R.jn;obtain⟨I,B,hv,_⟩:=R.vn;have th:=IE O r y hv;have a:∀b:Bool,b=!j7 h.sys n->mT cR cF [.ref rA,.bl b,.int 3] H (λv H2=>Q .non H2) E:=λb m=>⟨rA,dx,_,b,3,i,rfl,e,rfl,λz=>s (by rw[m] at z;simpa using z),λz=>R.faults<|t (by rw[m] at z;simpa using z)⟩;refine⟨_,rfl,rA,dx,_,rfl,e,rfl,?_⟩;refine⟨_,rfl,_,rfl,rA,cR,dx,_,_,rfl,e,d.R,d.tW,rfl,di,_,rfl,ky.k (k:=.a2) x,_,rfl,?_⟩;refine c7 (λc=>?_) λc=>?_
 ·refine⟨_,rfl,_,rfl,rA,cR,dx,_,_,rfl,e,d.R,d.J8,rfl,dE,_,rfl,ky.k (k:=.a2) B,?_⟩;refine a _ ?_;have c:(cG g<|aK<|T<|sg n).isSome=false:=.cC
  rw[th,c,qR]
 ·refine a _ ?_;have c:(cG g<|aK<|T<|sg n).isSome=true:=by
   cases z:(cG g<|aK<|T<|sg n).isSome with
   |true=>rfl
   |false=>rw[z] at c;exact absurd rfl c
  rw[th,c];rfl
end
open Pipe (Sys)
theorem xo(s:Sys)(j:Nat)(f:bv->bv){x:bv}(b:s.joints[j]?=.v):kD (s.with_ j f)=(kD s).set j ⟨f x,.bT,(s.leaves j).map (·.1)⟩:=by
 apply uw;intro i;by_cases c:.dW
 ·obtain⟨y,a⟩:∃y,s.joints[i]?=.ao:=⟨_,bo c⟩;by_cases d:j=i
  ·subst d;rw[b] at a;cases a;rw[gI (by rw[cg];exact c)];have:(s.with_ j f).joints[j]?=some (f x):=by
    show(s.joints.modify j f)[j]?=_;rw[jC,b];simp
   exact dh this
  ·rw[fQ d];have:(s.with_ j f).joints[i]?=.ao:=by
    show(s.joints.modify j f)[i]?=_;rw[jC,a];simp[d]
   rw[dh this,dh a];rfl
 ·rw[fu (by rw[cg];show(s.joints.modify j f).length<=i;simp;omega),fu (by rw[fz,cg];omega)]
theorem Bn{s t:Sys}{l:List JD}(b:l.length=t.joints.length)(h:∀(i:Nat) x,t.joints[i]?=.v->l[i]?=some ⟨x,endsAt t i,(t.leaves i).map (·.1)⟩):kD t=l:=by
 apply uw;intro i;by_cases c:i<t.joints.length
 ·obtain⟨y,a⟩:∃y,t.joints[i]?=.ao:=⟨_,bo c⟩;rw[dh a,h i y a]
 ·rw[fu (by rw[cg];omega),fu<|by omega]
theorem NN{h:bg}(O:bw h)(x:bv):kD { h.sys with joints:=h.sys.joints++[x] }=kD h.sys++[⟨x,[],[]⟩]:=by
 refine Bn (s:=h.sys) (by simp[cg]) λi y a=>?_;rcases gC a with z|⟨b,c⟩
 ·have d:=(aB.mp z).1;rw[bN (by rw[cg];exact d)];exact dh z
 ·subst b c;have e:=rh O<|aG h.sys.joints.length;rw[show h.sys.joints.length=(kD h.sys).length from(cg _).symm,Eu,cg];show some _=some (⟨y,endsAt h.sys h.sys.joints.length,(h.sys.leaves h.sys.joints.length).map (·.1)⟩:JD);rw[e.1,e.2];rfl
theorem VE{h:bg}(O:bw h){j d n:Nat}{a:eM}{x:bv}(b:.cA):
  kD .dq=vX (kD h.sys) h.sys.runs.length j d ⟨x,.bI,(.dk).map (·.1)⟩ a:=by
 have jl:=(aB.mp b).1;refine Bn (s:=h.sys) (by unfold vX;simp[cg]) λi y f=>?_;have es:.fT:=jm _ _ i
 have ls:(.dq:Sys).leaves i=h.sys.leaves i++((if j=i then [(d,h.radius)] else [])++(if .eb then [(fT d,h.radius)] else [])):=fW _ _ i
 rw[es,ls];unfold vX;rw[cg];rcases gC f with z|⟨g,k⟩
 ·have l:=(aB.mp z).1;rw[fQ<|by omega,if_neg<|show ¬ .eb by omega,if_neg<|show ¬ .eb by omega,dR,dR];by_cases c:j=i
  ·subst c;rw[b] at z;cases z;rw[gI (by simp[cg];omega),.ah,.ah,fB];rfl
  ·rw[fQ c,.ag,.ag,dR,dR,bN (by rw[cg];exact l)];exact dh z
 ·subst g k;have e:=rh O<|aG h.sys.joints.length;rw[gI<|by simp[cg],if_neg<|show ¬j=h.sys.joints.length by omega,if_neg<|show ¬j=h.sys.joints.length by omega,.ah,.ah,e.1,e.2];rfl
theorem VF{h:bg}{j k:Nat}{y:bv}{rs:List bH}{r:bH}(d:h.sys.runs=rs++[r])(e:r.to_=j)(jl:j+1=h.sys.joints.length)(f:h.sys.joints[k]?=.ao)(m:k<j):
  kD ⟨h.sys.joints.dropLast,h.sys.runs.modify .cz λ(r:bH)=>.bW⟩=(kD h.sys).dropLast.set k (xk .cz (fT r.dir) ⟨y,endsAt h.sys k,(h.sys.leaves k).map (·.1)⟩):=by
 have te:=Dn (k:=k) d trivial;refine Bn (s:=h.sys) (by simp[cg]) λi z g=>?_;obtain⟨a,l⟩:=tE g;have b:i≠r.to_:=by rw[e];omega
 rw[(te i b).1,(te i b).2];by_cases c:k=i
 ·subst c;rw[f] at a;cases a;rw[gI (by simp[cg];omega),.ah,.ah,fB];rfl
 ·rw[fQ c,.ag,.ag,dR,dR];exact vq (dh a) (by rw[cg];exact l)
theorem find_eq{s:Sys}{n:aE}{o:Option Nat}(h:match o with
  |some k=>(∃x,s.joints[k]?=.v/\x.name=some n)/\∀(i:Nat) x,.dB->x.name=some n->i=k
  |none=>∀(i:Nat) x,.dB->x.name≠some n):s.find n=o:=by
 cases e:s.find n with
 |none=>
  cases o with
  |none=>rfl
  |some k=>
   obtain⟨⟨x,h1,h2⟩,_⟩:=h;exact absurd h2<|find_none e h1
 |some j=>
  obtain⟨x,h1,h2⟩:=find_some e;cases o with
  |none=>exact absurd h2<|h j x h1
  |some k=>rw[h.2 j x h1 h2]
theorem C9{h:bg}(O:bw h){j:Nat}{x:bv}{f:bv->bv}{n:aE}(g:.cA)(p:x.name=none)(l:(f x).name=some n)(r:.a3=none)(m:aE):(.cU).find m=if m=n then some j else .bQ:=by
 have s:(.cU).joints[j]?=some (f x):=by
  show(h.sys.joints.modify j f)[j]?=_;rw[jC,g];simp
 apply find_eq;by_cases c:m=n
 ·subst c;rw[.ah];refine⟨⟨_,s,l⟩,λi y b d=>?_⟩;rcases gk b with⟨z,_⟩|⟨z,b⟩
  ·exact z
  ·exact absurd d<|find_none r b
 ·rw[.ag];cases e:.bQ with
  |none=>
   show ∀(i:Nat) x,(.cU).joints[i]?=.v->x.name≠some m;intro i y b;rcases gk b with⟨z,t,a,rfl⟩|⟨z,b⟩
   ·subst z;rw[g] at a;cases a;rw[l];exact λq=>c (aI q).symm
   ·exact find_none e b
  |some k=>
   obtain⟨y,h1,h2⟩:=find_some e;have u:k≠j:=λz=>by rw[z,g] at h1;cases h1;rw[p] at h2;cases h2
   refine⟨⟨y,?_,h2⟩,λi z o d=>?_⟩
   ·show(h.sys.joints.modify j f)[k]?=_;rw[jC,h1];simp[aF u]
   ·rcases gk o with⟨w,t,a,rfl⟩|⟨w,o⟩
    ·subst w;rw[g] at a;cases a;rw[l] at d;exact absurd (aI d).symm c
    ·exact O.uniq i k z y m o h1 d h2
theorem IG{a b:aE}(c:cZ a=true)(h:T (sg a)=T (sg b)):a=b:=RG c<|Ir h
theorem Ka{s s':Sys}{j:Nat}{n:aE}{kvs:.an}(d:cZ n=true)(h:mS s kvs)(b:.e5)(hk:s'.kind j=0)(hi:.eM):mS s' (putK kvs .a2<|.int .aL):=by
 intro m a;rw[pd,b];by_cases c:m=n
 ·subst c;rw[.ah,.ah];show _=if s'.kind j=0 then _ else _
  rw[if_pos hk]
 ·rw[.ag,if_neg λz=>c<|IG a<|qY z,h m a];cases e:s.find m with
  |none=>rfl
  |some i=>
   show .fH
   rw[hi i m e]
theorem Kb{s s':Sys}{j:Nat}{n:aE}{kvs:.an}{v:V}(d:cZ n=true)(h:nU s kvs)(b:.e5)(hk:s'.kind j=1)(hi:.eM):nU s' (putK kvs .a2 v):=by
 intro m a;rw[pd,b];by_cases c:m=n
 ·subst c;rw[.ah,.ah];show _=decide (s'.kind j=1);rw[hk];rfl
 ·rw[.ag,if_neg λz=>c<|IG a<|qY z,h m a];cases e:s.find m with
  |none=>rfl
  |some i=>
   show decide (s.kind i=1)=decide (s'.kind i=1);rw[hi i m e]
theorem IH{s s':Sys}{j:Nat}{n:aE}{kvs:.an}(h:mS s kvs)(a:s.find n=none)(b:.e5)(hk:s'.kind j≠0)(hi:.eM):mS s' kvs:=by
 intro m d;rw[h m d,b];by_cases c:m=n
 ·subst c;rw[.ah,a];show none=if s'.kind j=0 then _ else _
  rw[if_neg hk]
 ·rw[.ag];cases e:s.find m with
  |none=>rfl
  |some i=>
   show .fH
   rw[hi i m e]
theorem II{s s':Sys}{j:Nat}{n:aE}{kvs:.an}(h:nU s kvs)(a:s.find n=none)(b:.e5)(hk:s'.kind j≠1)(hi:.eM):nU s' kvs:=by
 intro m d;rw[h m d,b];by_cases c:m=n
 ·subst c;rw[.ah,a];show false=decide (s'.kind j=1);rw[decide_eq_false hk]
 ·rw[.ag];cases e:s.find m with
  |none=>rfl
  |some i=>
   show decide (s.kind i=1)=decide (s'.kind i=1);rw[hi i m e]
theorem p9{s s':Sys}{b c:.an}(h1:mS s b)(h2:nU s c)(d:∀m,s'.find m=s.find m)(hi:.eM):mS s' b/\nU s' c:=by
 refine⟨λm a=>?_,λm a=>?_⟩
 ·rw[h1 m a,d];cases e:s.find m with
  |none=>rfl
  |some i=>
   show .fH
   rw[hi i m e]
 ·rw[h2 m a,d];cases e:s.find m with
  |none=>rfl
  |some i=>
   show decide (s.kind i=1)=decide (s'.kind i=1);rw[hi i m e]
def v0(K:ah)(cR cS cJ cP cF:Addr):Sp:=λvs H Q E=>∃(rA sA di dE:Addr) (H0:Hp) (L:Lay) (h:bg) (i c:Nat),vs=[.ref rA]/\.bD/\bw h/\
 (∀j x,.b3->Q .non H)/\((∀j x,¬ .b3)->Faults E H0 cF 4 i)
def lx(n:aE)(x:bv):bv:={ x with name:=some n }
def Ee(K:ah)(cR cS cJ cP:Addr):Sp:=λvs H Q _=>∃(rA sA di dE:Addr) (H0:Hp) (L:Lay) (h:bg) (i c j:Nat) (st:Bool) (n:aE) (x:bv),.ew/\.bD/\h.here=some (j,st)/\.cA/\x.kind=0/\x.name=none/\
 cZ n=true/\.a3=none/\(∀m,(h.sys.with_ j<|lx n).find m=if m=n then some j else .bQ)/\c<140000/\
 ∀H',gN K cR cS cJ cP H0 H' rA sA di dE L { h with sys:=h.sys.with_ j (lx n) } i (c+1)->Q .non H'
section
variable{P:Program}{w:World}{K:ah}{mg:.aa}{base:Heap}{cR cS cJ cP cF:Addr}
theorem Sr{f f1:Addr}{fd eX:FuncData}(F:d8 K "need_bare_joint" "Reader.need_bare_joint" Sn f fd)(g:.aA)(l:.by)(N:kF mg)(B:MX P w K mg base 3 cR "need" .cZ (mT cR cF) f1 eX):aX P w K mg base .aK 4 f fd .ae (v0 K cR cS cJ cP cF):=by
 refine F.lK VA ?_;rintro cdv A outer st H _ Q E C nd ⟨rA,sA,di,dE,H0,L,h,i,c,rfl,R,O,k1,D⟩;obtain⟨t4,G⟩:=N.k4;refine⟨_,(af (aL<|bR B C .j bU<|ae (nM<|yn<|aw .j rfl)<|ae (aR .s G (v:=.int 4) .Y) ak)<|af (bu 1<|bG (aw .V rfl)<|aw .j rfl)<|ap<|aL<|bR B C .j bU<|ae (wO (Pk<|aw .o rfl)<|wN<|Pk<|aw .o rfl)<|ae (aR .s G (v:=.int 4) .Y) ak),?_⟩;obtain⟨dx,d⟩:=R.ob;refine⟨_,rfl,rA,dx,_,rfl,d,rfl,_,rfl,rA,cR,dx,_,_,rfl,d,l.R,l.gM,rfl,?_⟩;refine⟨rA,dx,_,_,4,i,rfl,d,rfl,λz=>?_,λz=>R.faults<|D λj x b=>?_⟩
 ·cases m:h.here with
  |none=>rw[m] at z;exact absurd z<|by decide
  |some p=>
   obtain⟨j,o⟩:=p;obtain⟨jl,jk,j3,j4⟩:=O.here j o m;obtain⟨x,r⟩:∃x,.cA:=⟨_,bo jl⟩;have eR:∃fs,mQ sA di dE h i=fs:=.Y;obtain⟨dS,oS⟩:=R.raw.ob;obtain⟨I,Tq,⟨M,pA,T,_⟩,_⟩:=R.raw.joint<|dh r;have u:.fJ:=by
    show some (jt h.here)=_;rw[m];rfl
   refine⟨_,rfl,rA,cR,dx,_,_,rfl,d,l.R,l.gg,rfl,sA,cS,dS,_,_,rfl,oS,g.S,g.b5,rfl,_,rfl,rA,cR,dx,_,_,rfl,d,l.R,l.gM,u,L.jL,_,_,_,rfl,rfl,bh.of R.raw.jl,cv Tq,?_⟩;refine⟨_,rfl,rA,dx,_,rfl,d,rfl,_,rfl,I.a,cJ,M,_,_,rfl,T,g.J,g.JM,rfl,_,rfl,_,rfl,?_⟩;have s:∀b:Bool,(b=true↔x.name=none/\x.kind≠1)->mT cR cF [.ref rA,.bl b,.int 4] H (λv H2=>Q .non H2) E:=λb U=>by
    refine⟨rA,dx,_,b,4,i,rfl,d,rfl,λz=>?_,λz=>R.faults<|D λj' x' t=>?_⟩
    ·obtain⟨W,n1⟩:=U.mp z;rw[fX r] at jk;refine k1 j x ⟨?_,r,.h,W⟩;cases o with
     |true=>exact m
     |false=>
      obtain⟨y,n,X,Y,_⟩:=j3 rfl;rw[r] at X;cases X;rw[W] at Y;cases Y
    ·have e:=t.he;rw[m] at e;cases e;have Z:=t.hx;rw[r] at Z;cases Z;have:=U.mpr ⟨t.nn,by rw[t.k0];decide⟩;rw[z] at this;cases this
   refine c7 (λq=>?_) λq=>?_
   ·refine⟨_,rfl,I.a,cJ,M,_,_,rfl,T,g.J,g.xg,rfl,_,rfl,?_⟩;refine s _ ?_;have q:.du=false:=by
     cases z:.du with
     |false=>rfl
     |true=>
      have:(!(.du))=false:=by rw[z];rfl
      rw[this] at q;cases q
    show(!(x.kind == 1))=true↔_;by_cases k:x.kind=1
    ·simp[k]
    ·rw[show (x.kind != 1)=true by simpa using k,oq] at q;have:x.name=none:=by cases e:x.name with|none=>rfl|some _=>rw[e] at q;cases q
     simp[k,this]
   ·refine s _ ?_;have q:.du=true:=by
     cases z:.du with
     |true=>rfl
     |false=>
      have:(!(.du))=true:=by rw[z];rfl
      exact absurd this q
    have q:=(uK.mp q).1;constructor
    ·intro z;cases z
    ·rintro⟨z,_⟩;rw[z] at q;cases q
 ·have e:=b.he;have:jt h.here≠V.non:=by rw[e];intro y;cases y
  have z:(!decide .di)=false:=z;rw[decide_eq_false this] at z;cases z
theorem Ss{f:Addr}{fd:FuncData}(F:d8 K "name_joint" "Reader.name_joint" So f fd)(r:.aA)(b:.by):aX P w K mg base bV 1 f fd .bb (Ee K cR cS cJ cP):=by
 refine F.ok1 VB ?_;rintro cdv A outer st H _ Q E hr nd ⟨rA,sA,di,dE,H0,L,h,i,c,j,st',n,x,rfl,R,hh,g,hk,hxn,hn,h0,s,hc,k⟩;have hu:=rM hr;refine⟨_,(af (yo hu .V .o .V rfl)<|af (bu 2<|bG (aw .V rfl)<|aw .j rfl)<|ap<|cO .M mH rfl),?_⟩;obtain⟨dx,y⟩:=R.ob;obtain⟨l,D,nj,lj⟩:=R.jn;obtain⟨X,e2,nv,lv⟩:=R.vn;have t:.fJ:=by
  show some (jt h.here)=_;rw[hh];rfl
 refine⟨_,rfl,rA,cR,dx,_,_,rfl,y,b.R,b.gM,t,_,rfl,rA,cR,dx,_,_,rfl,y,b.R,b.tW,rfl,_,rfl,di,_,rfl,BJ.k (k:=.a2) D .da,?_⟩;have G:rA≠di:=jc y D .bG;have p:upd H di (.dK<|putK l .a2<|.int .aL) rA=_:=(aq G).trans y;obtain⟨or_,oj,ov⟩:=R.VD b;have u:=R.raw.away (o:=.dK<|putK l .a2<|.int .aL) oj R.o2<|Ls D;have I:(upd H di<|.dK<|putK l .a2<|.int .aL) di=some (.dK<|putK l .a2<|.int .aL):=ai;have M:(upd H di<|.dK<|putK l .a2<|.int .aL) dE=some (.dK X):=(aq R.ne.symm).trans e2;generalize upd H di (.dK<|putK l .a2<|.int .aL)=H1 at p u I M;obtain⟨dS,oS⟩:=u.ob;obtain⟨d,Y,⟨dJ,B,v,N⟩,_⟩:=u.joint<|dh g;refine⟨_,rfl,rA,cR,dx,_,_,rfl,p,b.R,b.gg,rfl,sA,cS,dS,_,_,rfl,oS,r.S,r.b5,rfl,_,rfl,rA,cR,dx,_,_,rfl,p,b.R,b.gM,t,L.jL,_,_,_,rfl,rfl,bh.of u.jl,cv Y,?_⟩;refine⟨_,rfl,d.a,cJ,dJ,_,rfl,v,r.J,r.JM,.dc,?_⟩;have ef:eV "named" (V.bl true) (iI B x d)=iI B (lx n x) d:=by
  have e:iI B (lx n x) d=eV "named" (V.bl<|true&&x.kind != 1) (iI B x d):=rfl;rw[e,hk];rfl
 rw[ef];have Z:=u.YR r.jp b.js Y (dh g) v (lx n x) N;rw[<-xo h.sys j (lx n) g] at Z;have O:rA≠d.a:=λz=>by rw[z,v] at p;cases p
 have U:di≠d.a:=jc I v .bG;have W:dE≠d.a:=jc M v .bG;have C:∀a,(h.sys.with_ j<|lx n).kind a=h.sys.kind a:=λa=>by
  rw[lP];by_cases q:a=j
  ·subst q;rw[.ah,g,fX g];rfl
  ·rw[if_neg q]
 refine k _ ⟨⟨dx,(aq O).trans p⟩,⟨_,(aq U).trans I,Ka hn nj s (by rw[C,fX g];exact hk) λa m _=>C a,?_⟩,⟨X,(aq W).trans M,II nv h0 s (by rw[C,fX g,hk];decide) λa m _=>C a,.h⟩,Z,R.ne,R.o1,R.o2,R.o3,.h⟩;have:=jy l .a2<|V.int .aL;omega
end
section
variable{P:Program}{w:World}{K:ah}{mg:.aa}{base:Heap}{cR cS cJ cP cF:Addr}{H0 H:Hp}{rA sA di dE:Addr}{L:Lay}{h:bg}{i c:Nat}
theorem gN.Kc(g:.by)(R:.bD){dx:Addr}{fs:.az}(a:H rA=some (.ins cR dx fs))(h':bg)(hs:h'.sys=h.sys)(d:Nat):gN K cR cS cJ cP H0 (upd H rA<|.ins cR dx<|mQ sA di dE h' d) rA sA di dE L h' d c:=by
 obtain⟨b,r,s⟩:=R.VD g;obtain⟨j,e,k,l⟩:=R.jn;obtain⟨m,f,n,o⟩:=R.vn;have p:di≠rA:=jc e a .bG;have q:dE≠rA:=jc f a .bG;refine⟨⟨dx,ai⟩,⟨j,(aq p).trans e,by rw[hs];exact k,l⟩,⟨m,(aq q).trans f,by rw[hs];exact n,o⟩,?_,R.ne,R.o1,R.o2,R.o3,R.li⟩;rw[hs];exact R.raw.away b R.o1<|rX a
theorem gN.VH(f:.by){H1:Hp}{e:Lay}(R:.bD)(s':aM)(h':Raw K cS cJ cP (hide H<|foot sA L) H1 sA e (kD s') s'.runs)(g:∀a b,mS h.sys a->nU h.sys b->mS s' a/\nU s' b):
  gN K cR cS cJ cP H0 H1 rA sA di dE e { h with sys:=s' } i c:=by
 have d:=R.kept f h';obtain⟨dx,j⟩:=R.ob;obtain⟨a,k,l,m⟩:=R.jn;obtain⟨b,n,o,p⟩:=R.vn;obtain⟨m1,m2⟩:=g a b l o;exact⟨⟨dx,d _ _ .ar j⟩,⟨a,d _ _ (.inr<|.inl rfl) k,m1,m⟩,⟨b,d _ _ (.inr<|.inr rfl) n,m2,p⟩,R.raw.back h',R.ne,R.o1,R.o2,R.o3,R.li⟩
theorem gN.cap{c':Nat}(R:.bD)(a:c<=c')(b:c'<=140000):gN K cR cS cJ cP H0 H rA sA di dE L h i c':=
 { R with jn:=let ⟨k,x,y,z⟩:=R.jn;⟨k,x,y,bK z a⟩,vn:=let ⟨k,x,y,z⟩:=R.vn;⟨k,x,y,bK z a⟩,li:=b }
def Does(K:ah)(cR cS cJ cP cF:Addr)(E:XK)(Q:VK)(H0:Hp)(rA sA di dE:Addr)(i c:Nat):Except Nat bg->Prop
 |.error k=>Faults E H0 cF k i
 |.ok u=>∀H' a,gN K cR cS cJ cP H0 H' rA sA di dE a u i (c+1)->Q .non H'
theorem xp(s:aM)(x:bv)(m:aE)(rs:List bH):(⟨s.joints++[x],rs⟩:aM).find m=match s.find m with
  |some k=>some k
  |none=>if x.name=some m then some s.joints.length else none:=by
 unfold u7;rw[List.findIdx?_append];cases e:s.joints.findIdx? λ(x:bv)=>x.name == some m with
 |some k=>rfl
 |none=>
  rw[EO];by_cases c:x.name=some m
  ·simp[c]
  ·simp[c]
theorem mU{j:Nat}{x:bv}(b:.b3):h.here.isNone=false/\.cX=j/\(h.here.map λ(x:Nat×Bool)=>x.2).getD false=true/\h.sys.bare j=true:=by
 rw[b.he];refine⟨rfl,rfl,rfl,?_⟩;unfold zN;rw[b.hx,];show(x.kind == 0&&x.name.isNone)=true;rw[b.k0,b.nn];rfl
theorem Ef(O:bw h)(nb:∀j x,¬ .b3):(h.here.isNone||!h.sys.bare .cX)=true:=by
 cases e:h.here with
 |none=>rfl
 |some p=>
  obtain⟨j,st⟩:=p;obtain⟨jl,i,f,_⟩:=O.here j st e;obtain⟨x,a⟩:∃x,.cA:=⟨_,bo jl⟩;show(false||!h.sys.bare j)=true;cases q:h.sys.bare j with
  |false=>rfl
  |true=>
   exfalso;unfold zN at q;rw[a] at q;have q:(x.kind == 0&&x.name.isNone)=true:=q;rw[cn] at q;have g:x.kind=0:=by simpa using q.1
   have b:x.name=none:=by simpa using q.2
   cases st with
   |true=>exact nb j x ⟨e,a,g,b⟩
   |false=>
    obtain⟨y,n,c,d,_⟩:=f rfl;rw[a] at c;cases c;rw[b] at d;cases d
theorem pE(O:bw h)(nb:∀j x,¬ .b3):.fp=true:=by
 have:=Ef O nb;cases e:h.here.isNone with
 |true=>rfl
 |false=>
  rw[e,qR] at this;rw[this];rfl
abbrev Sv:Stmt:=inClass vZ 4
abbrev abF:Stmt:=inClass vZ 5
abbrev abG:Stmt:=inClass vZ 6
abbrev Sw:Stmt:=inClass vZ 7
abbrev LA:Stmt:=inClass vZ 8
abbrev abH:Stmt:=inClass vZ 9
abbrev Xd:Stmt:=inClass vZ 10
theorem VI:az ["self","name","place"] ["self","name","place"] (ao Sv):=fscope
theorem abI:az .bb .bb (ao abF):=fscope
theorem abJ:az ["self","direction","millimetres"] ["self","direction","millimetres"] (ao abG):=fscope
theorem VJ:az .bb .bb (ao Sw):=fscope
theorem Sx:az ["self","name","joint"] .bb (ao LA):=fscope
theorem abK:az ["self","name","joint","last"] .bb (ao abH):=fscope
theorem Zs:az ["self","ending","joint"] ["self","ending"] (ao Xd):=fscope
def IJ(h:bg)(n:aE):Except Nat bg:=mn [(j7 h.sys n,3),(h.here.isNone||!h.sys.bare .cX,4)] { h with sys:=h.sys.with_ .cX (lx n) }
def LB(K:ah)(cR cS cJ cP cF:Addr):Sp:=λvs H Q E=>∃(rA sA di dE:Addr) (H0:Hp) (L:Lay) (h:bg) (i c:Nat) (n:aE),.ew/\.bD/\bw h/\cZ n=true/\c<140000/\Does K cR cS cJ cP cF E Q H0 rA sA di dE i c (IJ h n)
theorem Sy{f o p q:Addr}{fd r a s:FuncData}(F:d8 K "take_node" "Reader.take_node" Sw f fd)(t:MX P w K mg base 4 cR "need_new_name" .bb (sL K cR cS cJ cP cF) o r)(u:MX P w K mg base 4 cR "need_bare_joint" .ae (v0 K cR cS cJ cP cF) p a)
  (v:iQ P w K mg base bV 1 cR "name_joint" .bb (Ee K cR cS cJ cP) q s):aX P w K mg base .aK 5 f fd .bb (LB K cR cS cJ cP cF):=by
 refine F.lK VJ ?_;rintro cdv A outer st H _ Q E d C ⟨rA,sA,di,dE,H0,L,h,i,c,n,rfl,R,O,l,y,k⟩;refine⟨_,(af (aL<|bR t d .j bU<|ae .o ak)<|af (aL<|eI u d .j bU)<|ap<|aL<|bR v d .j aP<|ae .o ak),?_⟩;obtain⟨dx,g⟩:=R.ob;unfold IJ at k;rw[aQ] at k;refine⟨_,rfl,rA,dx,_,rfl,g,rfl,_,rfl,rA,sA,di,dE,H0,L,h,i,c,n,rfl,R,O,l,λth=>?_,λth=>?_⟩
 ·rw[th,.be,aQ] at k;refine⟨_,rfl,rA,dx,_,rfl,g,rfl,rA,sA,di,dE,H0,L,h,i,c,rfl,R,O,λj x b=>?_,λnb=>?_⟩
  ·obtain⟨b1,b2,D,z⟩:=mU b;rw[b1,b2,z,.be,dY] at k;have m:.a3=none:=by
    unfold j7 at th;cases e:.a3 with
    |none=>rfl
    |some _=>rw[e] at th;cases th
   exact⟨_,rfl,rA,dx,_,rfl,g,rfl,_,rfl,rA,sA,di,dE,H0,L,h,i,c,j,true,n,x,rfl,R,b.he,b.hx,b.k0,b.nn,l,m,C9 O b.hx b.nn rfl m,y,λH' B=>k H' L B⟩
  ·rw[Ef O nb,.ah] at k;exact k
 ·rw[th,.ah] at k;exact k
def jfB(a:Addr)(nm b:Bool)(c:Str)(j:JL):.az:=[("place",.E),("named",.bl nm),("valve",.bl b),("ending",.str c),("pipes",.ref j.pL),("leaving",.ref j.lL)]
theorem VL(a:Addr)(x:bv)(j:JL):iI a x j=jfB a .du (x.kind == 1) (iH x.kind) j:=rfl
theorem NO(O:bw h){j:Nat}{f:bv->bv}(d:∀x,(f x).name=x.name)(m:aE):(.cU).find m=.bQ:=by
 apply find_eq;have back:∀(i:Nat) y,(.cU).joints[i]?=.ao->∃x,h.sys.joints[i]?=.v/\x.name=y.name:=λi y a=>by
  rcases gk a with⟨_,x,g,rfl⟩|⟨_,a⟩
  ·exact⟨x,g,(d x).symm⟩
  ·exact⟨y,a,rfl⟩
 cases e:.bQ with
 |none=>
  show ∀(i:Nat) x,(.cU).joints[i]?=.v->x.name≠some m;intro i y a;obtain⟨x,b,c⟩:=back i y a;rw[<-c];exact find_none e b
 |some k=>
  obtain⟨y,h1,h2⟩:=find_some e;refine⟨⟨if j=k then f y else y,?_,?_⟩,λi z l n=>?_⟩
  ·show(h.sys.joints.modify j f)[k]?=_;rw[jC,h1];rfl
  ·split
   ·rw[d];exact h2
   ·exact h2
  ·obtain⟨x,b,c⟩:=back i z l;exact O.uniq i k x y m b h1 (c.trans n) h2
def nI(n:aE)(x:bv):bv:={ x with kind:=1,name:=some n }
def qa(k:Nat)(x:bv):bv:={ x with kind:=k }
def Bo(h:bg)(n:aE):Except Nat bg:=mn [(j7 h.sys n,3),(.fp,4)] { h with sys:=h.sys.with_ .cX (nI n) }
def Sz(h:bg)(k:Nat):Except Nat bg:=mn [(.fp,4)] ⟨h.sys.with_ .cX<|qa k,h.radius,none⟩
def IK(K:ah)(cR cS cJ cP cF:Addr):Sp:=λvs H Q E=>∃(rA sA di dE:Addr) (H0:Hp) (L:Lay) (h:bg) (i c:Nat) (n:aE),.ew/\.bD/\bw h/\cZ n=true/\c<140000/\Does K cR cS cJ cP cF E Q H0 rA sA di dE i c (Bo h n)
def SA(K:ah)(cR cS cJ cP cF:Addr):Sp:=λvs H Q E=>∃(rA sA di dE:Addr) (H0:Hp) (L:Lay) (h:bg) (i c e:Nat),vs=[.ref rA,.str<|iH e]/\.bD/\bw h/\2<=e/\e<=5/\c<140000/\Does K cR cS cJ cP cF E Q H0 rA sA di dE i c (Sz h e)
theorem rZ{j:Nat}{st:Bool}(a:h.here=some (j,st)):.fJ:=by
 show some (jt h.here)=_;rw[a];rfl
theorem NP{f f1 f2:Addr}{fd eX v:FuncData}(F:d8 K "take_valve" "Reader.take_valve" LA f fd)(q:.aA)(d:.by)(G1:MX P w K mg base 4 cR "need_new_name" .bb (sL K cR cS cJ cP cF) f1 eX)(G2:MX P w K mg base 4 cR "need_bare_joint" .ae (v0 K cR cS cJ cP cF) f2 v):
  aX P w K mg base .aK 5 f fd .bb (IK K cR cS cJ cP cF):=by
 refine F.lK Sx ?_;rintro cdv A outer st H _ Q E B nd ⟨rA,sA,di,dE,H0,L,h,i,c,n,rfl,R,O,X,hc,k⟩;have hu:=rM B;refine⟨_,(af (aL<|bR G1 B .j bU<|ae .o ak)<|af (aL<|eI G2 B .j bU)<|af (yo hu .V .o mH rfl)<|af (bu 2<|bG (aw .V rfl)<|aw .j rfl)<|ap<|cO .M mH rfl),?_⟩;obtain⟨dx,r⟩:=R.ob;unfold Bo at k;rw[aQ] at k;refine⟨_,rfl,rA,dx,_,rfl,r,rfl,_,rfl,rA,sA,di,dE,H0,L,h,i,c,n,rfl,R,O,X,λth=>?_,λth=>?_⟩
 ·rw[th,.be,aQ] at k;refine⟨_,rfl,rA,dx,_,rfl,r,rfl,rA,sA,di,dE,H0,L,h,i,c,rfl,R,O,λj x b=>?_,λnb=>?_⟩
  ·obtain⟨b1,b2,b3,b4⟩:=mU b;rw[b1,b2,b3,b4,.be,dY] at k;have Y:.a3=none:=by
    unfold j7 at th;cases e:.a3 with
    |none=>rfl
    |some _=>rw[e] at th;cases th
   obtain⟨Z,e1,nj,lj⟩:=R.jn;obtain⟨l,C,nv,lv⟩:=R.vn;obtain⟨or_,oj,ov⟩:=R.VD d;refine⟨_,rfl,rA,cR,dx,_,_,rfl,r,d.R,d.J8,rfl,_,rfl,dE,_,rfl,BJ.k (k:=.a2) C .da,?_⟩;have D:rA≠dE:=jc r C .bG;have p:upd H dE (.dK<|putK l .a2<|.bl true) rA=_:=(aq D).trans r;have s:=R.raw.away (o:=.dK<|putK l .a2<|.bl true) ov R.o3<|Ls C;have G:(upd H dE<|.dK<|putK l .a2<|.bl true) di=some (.dK Z):=(aq R.ne).trans e1;have I:(upd H dE<|.dK<|putK l .a2<|.bl true) dE=some (.dK<|putK l .a2<|.bl true):=ai;generalize upd H dE (.dK<|putK l .a2<|.bl true)=H1 at p s G I;obtain⟨dS,oS⟩:=s.ob;obtain⟨g,Tq,⟨dJ,u,t,M⟩,_⟩:=s.joint<|dh b.hx;refine⟨_,rfl,rA,cR,dx,_,_,rfl,p,d.R,d.gg,rfl,sA,cS,dS,_,_,rfl,oS,q.S,q.b5,rfl,_,rfl,rA,cR,dx,_,_,rfl,p,d.R,d.gM,rZ b.he,L.jL,_,_,_,rfl,rfl,bh.of s.jl,cv Tq,?_⟩;refine⟨_,rfl,g.a,cJ,dJ,_,rfl,t,q.J,q.xg,.dc,?_⟩;have ef:eV "valve" (V.bl true) (iI u x g)=iI u (nI n x) g:=by
    rw[VL,VL];show eV "valve" (V.bl true) (jfB u .du (x.kind == 1) (iH x.kind) g)=jfB u false true (iH 1) g;rw[b.nn,b.k0];rfl
   rw[ef];have BO:=s.YR q.jp d.js Tq (dh b.hx) t (nI n x) M;rw[<-xo h.sys j (nI n) b.hx] at BO;have N:rA≠g.a:=λz=>by rw[z,t] at p;cases p
   have U:di≠g.a:=jc G t .bG;have W:dE≠g.a:=jc I t .bG;have fw:=C9 O b.hx b.nn (f:=nI n) rfl Y;have ZT:(h.sys.with_ j<|nI n).kind j=1:=by rw[lP,.ah,b.hx];rfl
   have VG:∀a m,.bQ=some a->(h.sys.with_ j<|nI n).kind a=h.sys.kind a:=λa m hm=>by
    obtain⟨y,q1,q2⟩:=find_some hm;rw[lP,if_neg (λz=>by rw[z,b.hx] at q1;cases q1;rw[b.nn] at q2;cases q2)]
   refine k _ L ⟨⟨dx,(aq N).trans p⟩,⟨Z,(aq U).trans G,IH nj Y fw (by rw[ZT];decide) VG,.h⟩,⟨_,(aq W).trans I,Kb X nv fw ZT VG,?_⟩,BO,R.ne,R.o1,R.o2,R.o3,.h⟩;have:=jy l .a2<|V.bl true;omega
  ·rw[pE O nb,.ah] at k;exact k
 ·rw[th,.ah] at k;exact k
theorem VM{f D:Addr}{fd o:FuncData}(F:d8 K "take_end" "Reader.take_end" Xd f fd)(g:.aA)(d:.by)(G:MX P w K mg base 4 cR "need_bare_joint" .ae (v0 K cR cS cJ cP cF) D o):
  aX P w K mg base .aK 5 f fd ["self","ending"] (SA K cR cS cJ cP cF):=by
 refine F.lK Zs ?_;rintro cdv A outer st H _ Q E I nd ⟨rA,sA,di,dE,H0,L,h,i,c,e,rfl,R,O,e2,e5,hc,k⟩;refine⟨_,(af (aL<|eI G I .j bU)<|af (bu 2<|bG (aw .V rfl)<|aw .j rfl)<|af (cO .M .o rfl)<|ap<|cO .j rq rfl),?_⟩;obtain⟨dx,p⟩:=R.ob;unfold Sz at k;rw[aQ] at k;refine⟨_,rfl,rA,dx,_,rfl,p,rfl,rA,sA,di,dE,H0,L,h,i,c,rfl,R,O,λj x b=>?_,λnb=>?_⟩
 ·obtain⟨b1,b2,M,N⟩:=mU b;rw[b1,b2,M,N,.be,dY] at k;obtain⟨T,U⟩:=R.raw.ob;obtain⟨l,r,⟨W,n,s,q⟩,_⟩:=R.raw.joint<|dh b.hx;refine⟨_,rfl,rA,cR,dx,_,_,rfl,p,d.R,d.gg,rfl,sA,cS,T,_,_,rfl,U,g.S,g.b5,rfl,_,rfl,rA,cR,dx,_,_,rfl,p,d.R,d.gM,rZ b.he,L.jL,_,_,_,rfl,rfl,bh.of R.raw.jl,cv r,?_⟩;refine⟨_,rfl,_,rfl,l.a,cJ,W,_,rfl,s,g.J,g.vO,.dc,?_⟩;have X:eV "ending" (V.str<|iH e) (iI n x l)=iI n (qa e x) l:=by
   rw[VL,VL];show eV "ending" (V.str<|iH e) (jfB n .du (x.kind == 1) (iH x.kind) l)=jfB n (x.name.isSome&&e != 1) (e == 1) (iH e) l;have Y:(e == 1)=false:=.bq
   rw[b.nn,b.k0,Y];rfl
  rw[X];have t:=R.raw.seen.YR g.jp d.js r (dh b.hx) s (qa e x) q;rw[<-xo h.sys j (qa e) b.hx] at t;have Z:∀a m,.bQ=some a->(h.sys.with_ j<|qa e).kind a=h.sys.kind a:=λa m hm=>by
   obtain⟨y,u,v⟩:=find_some hm;rw[lP,if_neg (λz=>by rw[z,b.hx] at u;cases u;rw[b.nn] at v;cases v)]
  have fw:∀m,(h.sys.with_ j<|qa e).find m=.bQ:=NO O λ_=>rfl;have B:=R.VH d (h.sys.with_ j<|qa e) t λkj kv nj nv=>p9 nj nv fw Z;obtain⟨RX,C⟩:=B.ob;refine⟨_,rfl,rA,cR,RX,_,rfl,C,d.R,d.gM,.dc,?_⟩;have R2:=(B.Kc d C ⟨h.sys.with_ j<|qa e,h.radius,none⟩ rfl i).cap (c':=c+1) .h .h;exact k _ L R2
 ·rw[pE O nb,.ah] at k;exact k
def atR(h:bg)(n:aE):Except Nat bg:=mn [(!gh h.sys n,3),(!h.here.isNone,4)] { h with here:=(.a3).map λ(k:Nat)=>(k,false) }
def IL(h:bg)(n:aE)(a:eM):Except Nat bg:=mn [(j7 h.sys n,3),(!h.here.isNone,4),(decide .d5,8)] ⟨ .eh,h.radius,.ep⟩
def Xe(K:ah)(cR cS cJ cP cF:Addr):Sp:=λvs H Q E=>∃(rA sA di dE:Addr) (H0:Hp) (L:Lay) (h:bg) (i c:Nat) (n:aE),.ew/\.bD/\bw h/\cZ n=true/\c<140000/\Does K cR cS cJ cP cF E Q H0 rA sA di dE i c (atR h n)
def LC(K:ah)(cR cS cJ cP cF:Addr):Sp:=λvs H Q E=>∃(rA sA di dE b:Addr) (H0:Hp) (L:Lay) (h:bg) (i c:Nat) (n:aE) (a:eM),vs=[.ref rA,.str<|T<|sg n,.aM]/\.bD/\bw h/\cZ n=true/\gn K H b a/\c<140000/\Does K cR cS cJ cP cF E Q H0 rA sA di dE i c (IL h n a)
theorem iE{h:bg}:decide .di=h.here.isNone:=by
 cases e:h.here with
 |none=>rfl
 |some p=>
  obtain⟨j,st⟩:=p;rfl
theorem Zt{f t:Addr}{fd u:FuncData}(F:d8 K "take_at" "Reader.take_at" abF f fd)(a:.by)(N:kF mg)(m:MX P w K mg base 3 cR "need" .cZ (mT cR cF) t u):aX P w K mg base .aK 5 f fd .bb (Xe K cR cS cJ cP cF):=by
 refine F.lK abI ?_;rintro cdv A outer st H _ Q E l J ⟨rA,sA,di,dE,H0,L,h,i,c,n,rfl,R,O,o,M,k⟩;have p:=rM l;obtain⟨S,B⟩:=N.k3;obtain⟨U,C⟩:=N.k4;refine⟨_,(af (aL<|bR m l .j bU<|ae (nM<|JC p .o<|aw .j rfl)<|ae (aR .s B (v:=.int 3) .Y) ak)<|af (aL<|bR m l .j bU<|ae (nM<|mI<|aw .j rfl)<|ae (aR .s C (v:=.int 4) .Y) ak)<|ap<|cO .j (nE p .V .o .aX) rfl),?_⟩;obtain⟨dx,b⟩:=R.ob;obtain⟨D,q,r,W⟩:=R.jn;have j:=xU o r;unfold atR at k;rw[aQ] at k;refine⟨_,rfl,rA,dx,_,rfl,b,rfl,_,rfl,_,rfl,rA,cR,dx,_,_,rfl,b,a.R,a.tW,rfl,di,_,rfl,ky.k (k:=.a2) q,rA,dx,_,_,3,i,rfl,b,rfl,λz=>?_,λz=>?_⟩
 ·rw[j] at z;rw[z,.be,aQ] at k;refine⟨_,rfl,rA,dx,_,rfl,b,rfl,_,rfl,rA,cR,dx,_,_,rfl,b,a.R,a.gM,rfl,rA,dx,_,_,4,i,rfl,b,rfl,λy=>?_,λy=>?_⟩
  ·have y:decide .di=true:=y;rw[iE] at y;rw[y,.be,dY] at k;obtain⟨d,g⟩:∃d,.a3=.aS:=by
    unfold gh at z;cases e:.a3 with
    |none=>rw[e] at z;cases z
    |some d=>exact⟨d,rfl⟩
   have G:h.sys.kind d=0:=by
    unfold gh at z;rw[g] at z;obtain⟨x,s,_⟩:=find_some g;have z:((h.sys.joints[d]?.map λ(x:bv)=>x.kind) == some 0)=true:=z;rw[s] at z;rw[fX s];simpa using z
   have I:cG D .a2=some (.int (d:Nat)):=by
    rw[r n o,g];show(if h.sys.kind d=0 then _ else _)=_
    rw[if_pos G]
   refine⟨_,rfl,rA,cR,dx,_,_,rfl,b,a.R,a.tW,rfl,_,rfl,di,_,rfl,(by rw[<-I];exact ky.k (k:=.a2) q),_,rfl,rA,cR,dx,_,rfl,b,a.R,a.gM,.dc,?_⟩;rw[g] at k;have R2:=(R.Kc a b { h with here:=some (d,false) } rfl i).cap (c':=c+1) .h .h;exact k _ L R2
  ·have y:decide .di=false:=y;rw[iE] at y;rw[y,if_pos<|by decide] at k;exact R.faults k
 ·rw[j] at z;rw[z,if_pos<|by decide] at k;exact R.faults k
theorem SD{f l f2 f3 f4:Addr}{fd eX r qz tM:FuncData}(F:d8 K "take_from" "Reader.take_from" Sv f fd)(B:nG mg)(G:.aA)(d:.by)(N:kF mg)(G1:MX P w K mg base 4 cR "need_new_name" .bb (sL K cR cS cJ cP cF) l eX)
  (I:MX P w K mg base 3 cR "need" .cZ (mT cR cF) f2 r) (G3:iQ P w K mg base bV 3 cS "add_joint" .dA (J6 K cS cJ cP) f3 qz) (G4:iQ P w K mg base bV 1 cR "name_joint" .bb (Ee K cR cS cJ cP) f4 tM):
  aX P w K mg base .aK 5 f fd ["self","name","place"] (LC K cR cS cJ cP cF):=by
 refine F.lK VI ?_;rintro cdv A outer st H _ Q E o nd ⟨rA,sA,di,dE,pA,H0,L,h,i,c,n,a,rfl,R,O,J,s,hc,k⟩;obtain⟨t4,h4⟩:=N.k4;obtain⟨t8,h8⟩:=N.k8;obtain⟨tm,hm⟩:=N.mj;refine⟨_,(af (aL<|bR G1 o .j bU<|ae .o ak)<|af (aL<|bR I o .j bU<|ae (nM<|mI<|aw .j rfl)<|ae (aR .s h4 (v:=.int 4) .Y) ak)<|af (aL<|bR I o .j bU<|ae (fj ny (dz B.len<|aw .V rfl) (aR .s hm (v:=.int 1024) .Y)<|a0 _)<|ae (aR .s h8 (v:=.int 8) .Y) ak)<|af (cO .j (bR G3 o .V aP<|ae .M ak) rfl)<|ap<|aL<|bR G4 o .j aP<|ae .o ak),?_⟩;obtain⟨dx,g⟩:=R.ob;obtain⟨M,T⟩:=R.raw.ob;have jn:L.js.length=h.sys.joints.length:=by rw[R.raw.jn,cg]
 unfold IL at k;rw[aQ] at k;refine⟨_,rfl,rA,dx,_,rfl,g,rfl,_,rfl,rA,sA,di,dE,H0,L,h,i,c,n,rfl,R,O,J,λth=>?_,λth=>by rw[th,.ah] at k;exact k⟩;rw[th,if_neg .O,aQ] at k;refine⟨_,rfl,rA,dx,_,rfl,g,rfl,_,rfl,rA,cR,dx,_,_,rfl,g,d.R,d.gM,rfl,rA,dx,_,_,4,i,rfl,g,rfl,λy=>?_,λy=>by
  have y:decide .di=false:=y;rw[iE] at y;rw[y,if_pos .O] at k;exact R.faults k⟩
 have y:decide .di=true:=y;rw[iE] at y;have t:h.here=none:=by simpa using y
 rw[y,if_neg .O,aQ] at k;refine⟨_,rfl,rA,dx,_,rfl,g,rfl,_,rfl,rA,cR,dx,_,_,rfl,g,d.R,d.gg,rfl,sA,cS,M,_,_,rfl,T,G.S,G.b5,rfl,L.jL,_,rfl,.inl (bh.of R.raw.jl),_,_,rfl,rfl,rA,dx,_,_,8,i,rfl,g,rfl,λz=>?_,λz=>by
  have z:¬((.b9).length:Int)<1024:=of_decide_eq_false z;rw[au,jn] at z;rw[decide_eq_true (show .d5 by omega),.ah] at k;exact R.faults k⟩
 have z:((.b9).length:Int)<1024:=of_decide_eq_true z;rw[au,jn] at z;rw[decide_eq_false<|show ¬ .d5 by omega,.be,dY] at k;have U:.a3=none:=by
  unfold j7 at th;cases e:.a3 with
  |none=>rfl
  |some _=>rw[e] at th;cases th
 refine⟨_,rfl,rA,cR,dx,_,_,rfl,g,d.R,d.gg,rfl,sA,M,_,rfl,T,rfl,_,rfl,sA,pA,_,L,_,_,a,rfl,R.raw.seen,s,by rw[cg];omega,λH1 u W=>?_⟩;have e1:kD .c8=kD h.sys++[xS a]:=NN O .do;rw[<-e1] at W;have l:∀m,(.c8:aM).find m=.bQ:=λm=>by
  have:=xp h.sys .do m h.sys.runs;rw[show (.c8:aM).find m=(⟨h.sys.joints++[.do],h.sys.runs⟩:aM).find m from rfl,this];cases .bQ with
  |none=>rfl
  |some _=>rfl
 have C:∀b m,.bQ=some b->(.c8:aM).kind b=h.sys.kind b:=λb m hb=>by
  obtain⟨x,q1,_⟩:=find_some hb;have bl:=(aB.mp q1).1;have:=o4 h.sys.joints h.sys.runs h.sys.runs .do b;rw[.aC] at this;exact this
 have X:=R.VH d _ W λkj kv nj nv=>p9 nj nv l C;obtain⟨Y,Z⟩:=X.ob;refine⟨_,rfl,rA,cR,Y,_,rfl,Z,d.R,d.gM,.dc,?_⟩;have R2:=X.Kc d Z ⟨ .c8,h.radius,.ep⟩ rfl i;have ep:eV "stand" (V.int ((kD h.sys).length:Nat)) (mQ sA di dE { h with sys:=.c8 } i)=mQ sA di dE ⟨ .c8,h.radius,.ep⟩ i:=by
  rw[cg];rfl
 rw[ep];generalize upd H1 rA (.ins cR Y<|mQ sA di dE ⟨ .c8,h.radius,.ep⟩ i)=H2 at R2;obtain⟨D,Jh⟩:=R2.ob;have ew:(.c8:aM).with_ h.sys.joints.length (lx n)=.eh:=by
  unfold u6;show L9 ((h.sys.joints++[(.do:bv)]).modify h.sys.joints.length<|lx n) _=_;rw[lm];rfl
 refine⟨_,rfl,rA,D,_,rfl,Jh,rfl,_,rfl,rA,sA,di,dE,H0,u,_,i,c,h.sys.joints.length,false,n,.do,rfl,R2,rfl,.m,rfl,rfl,J,by rw[l];exact U,λm=>?_,hc,λH' R'=>?_⟩
 ·show(u6 _ _ _).find m=if m=n then _ else u7 _ m
  rw[l,ew];have:=xp h.sys ⟨a,0,some n⟩ m h.sys.runs;rw[show (.eh:aM).find m=(⟨h.sys.joints++[⟨a,0,some n⟩],h.sys.runs⟩:aM).find m from rfl,this];by_cases q:m=n
  ·subst q;rw[U,.ah];simp
  ·rw[if_neg q];cases .bQ with
   |some _=>rfl
   |none=>simp[aF q]
 ·have p:gN K cR cS cJ cP H0 H' rA sA di dE u ⟨(.c8:aM).with_ h.sys.joints.length<|lx n,h.radius,.ep⟩ i (c+1):=R';rw[ew] at p;exact k H' u p
end
theorem SE(rs:List bH)(x:bv)(j d b:Nat):yd rs ⟨x,jv rs j,(et rs j).map (·.1)⟩ d b=Tx (et rs j) x.kind d b:=by
 have f:=m8 j rs;have g:=He j rs;unfold yd Tx;show(if 4<=(jv rs j).length then false else if((et rs j).map (·.1)).all (λo=>decide (bT o d∈ .bJ))=false then false else if(jv rs j).length≠1 then true
  else if x.kind=1\/(rs[(jv rs j).headD 0]?.map λr=>r.radius)≠some b then decide (bT (((et rs j).map (·.1)).headD 0) d=180) else true)=_
 rw[f,jG];by_cases c:4<=(et rs j).length
 ·rw[.au,.au]
 rw[.ag,.ag];show(if(et rs j).all (λo=>decide (bT o.1 d∈ .bJ))=false then false else _)=_
 by_cases e:((et rs j).all λo=>decide (bT o.1 d∈ .bJ))=false
 ·rw[if_pos e,if_pos e]
 rw[.bo,.bo];by_cases a:(et rs j).length≠1
 ·rw[if_pos a,if_pos a]
 rw[if_neg a,if_neg a];have a:(et rs j).length=1:=eJ a;match hl:et rs j,he:jv rs j,a,f with
 |[p],[q],_,_=>
  have:=g 0 q p (by rw[he];rfl) (by rw[hl];rfl);show(if x.kind=1\/(rs[q]?.map λr=>r.radius)≠some b then decide (bT p.1 d=180) else true)=if x.kind=1\/p.2≠b then decide (bT p.1 d=180) else true
  rw[this];simp
def Ji(h:bg)(j d n:Nat)(a:eM):aM:=.dq
theorem VN{h:bg}(O:bw h){j d n:Nat}{st:Bool}{a:eM}{x:bv}(b:h.here=some (j,st))(c:.cA):(Ji h j d n a).jointFine j=yd h.sys.runs ⟨x,.bI,(.dk).map (·.1)⟩ d h.radius:=by
 obtain⟨jl,e,_⟩:=O.here j st b;have ls:(Ji h j d n a).leaves j=.dk++[(d,h.radius)]:=by
  have:(Ji h j d n a).leaves j=.dk++((if j=j then [(d,h.radius)] else [])++(if h.sys.joints.length=j then [(fT d,h.radius)] else [])):=fW _ _ j
  rw[this,.ah,.aC];rfl
 have g:(Ji h j d n a).kind j=x.kind:=by
  have:=o4 h.sys.joints h.sys.runs (h.sys.runs++[.cI]) .do j;rw[.aC] at this;exact this.trans<|fX c
 rw[Dm,ls,g];have f:=fX c;rw[f] at e;refine(Hf e (O.fine j jl) λi=>?_).trans (SE h.sys.runs x j d h.radius).symm;have t:=O.two j (by rw[f];exact i);rw[b] at t;have t:(.bI).length=1:=by simpa using t
 rw[O8,m8] at t;exact t
def goR(h:bg)(d n:Nat):Except Nat bg:=
 let j:=.cX
 let a:=((h.sys.joints[j]?.map λ(x:bv)=>x.at_).getD ⟨gU 0,gU 0,gU 0⟩).go d n
 mn [(h.here.isNone,4),(!(Ji h j d n a).jointFine j,5),(decide .d5||decide (1024<=h.sys.runs.length),8)] ⟨Ji h j d n a,h.radius,some (h.sys.joints.length,true)⟩
def Xf(K:ah)(cR cS cJ cP cF:Addr):Sp:=λvs H Q E=>∃(rA sA di dE dA:Addr) (H0:Hp) (L:Lay) (h:bg) (i c d n:Nat),vs=[.ref rA,.ref dA,.int (n:Nat)]/\.bD/\bw h/\iL K H dA d/\d<18/\c<140000/\Does K cR cS cJ cP cF E Q H0 rA sA di dE i c (goR h d n)
theorem Bp{h:bg}(O:bw h)(j:Nat):(.bI).length<=5000/\((.dk).map (·.1)).length<=5000/\(.bI).length=((.dk).map (·.1)).length/\(∀o,o∈(.dk).map (·.1)->o<18)/\∀q,q∈ .bI->q<h.sys.runs.length:=by
 have h1:=mO h.sys j;have h2:=O.nr;have a:(.bI).length=(.dk).length:=m8 j h.sys.runs;refine⟨ .h,by rw[au];omega,by rw[au];exact a,λo b=>?_,λq c=>O9 c⟩;obtain⟨p,hp,rfl⟩:=b6.mp b;exact Jn O.dir (λd e=>(D5 d e).1) hp
section
variable{P:Program}{w:World}{K:ah}{mg:.aa}{base:Heap}{cR cS cJ cP cF:Addr}
theorem Zu{f I f2 f3:Addr}{fd eX J qz:FuncData}(F:d8 K "take_go" "Reader.take_go" abG f fd)(B:nG mg)(D:.aA)(e:.by)(N:kF mg)
  (G:MX P w K mg base 3 cR "need" .cZ (mT cR cF) I eX) (GM:iQ P w K mg base bV 3 cS "may_leave" .ff (RW K cS cJ cP) f2 J) (GP:iQ P w K mg base bV 4 cS "add_pipe" .fN (RU K cS cJ cP) f3 qz):
  aX P w K mg base .aK 5 f fd ["self","direction","millimetres"] (Xf K cR cS cJ cP cF):=by
 refine F.lK abJ ?_;rintro cdv A outer st H _ Q E t nd ⟨rA,sA,di,dE,dA,H0,L,h,i,c,d,n,rfl,R,O,X,ld,hc,k⟩;obtain⟨t4,h4⟩:=N.k4;obtain⟨t5,h5⟩:=N.k5;obtain⟨t8,Y⟩:=N.k8;obtain⟨tj,hj⟩:=N.mj;obtain⟨tp,hp⟩:=N.mp;refine⟨_,(af (aL (bR G t .j bU (ae (nM (yn .V)) (ae (aR .s h4 (v:=.int 4) .Y) ak)))) (af (aL (bR G t .j bU (ae (bR GM t .V aP (ae .V (ae .o (ae .V ak)))) (ae (aR .s h5 (v:=.int 5) .Y) ak)))) (af (aL (bR G t .j bU (ae (fj ny (dz B.len (aw .V rfl)) (aR .s hj (v:=.int 1024) .Y) .aN) (ae (aR .s Y (v:=.int 8) .Y) ak)))) (af (aL (bR G t .j bU (ae (fj ny (dz B.len (aw .V rfl)) (aR .s hp (v:=.int 1024) .Y) .aN) (ae (aR .s Y (v:=.int 8) .Y) ak)))) (ap (cO .j (bR GP t .V aP (ae .V (ae .o (ae .M (ae .V ak))))) rfl)))))),?_⟩;obtain⟨dx,l⟩:=R.ob;unfold goR at k;dsimp only at k;rw[aQ] at k;refine⟨_,rfl,rA,dx,_,rfl,l,rfl,_,rfl,rA,cR,dx,_,_,rfl,l,e.R,e.gM,rfl,rA,dx,_,_,4,i,rfl,l,rfl,λy=>?_,λy=>by
  have y:(!decide .di)=false:=y;rw[iE] at y;have y:h.here.isNone=true:=by simpa using y
  rw[y,.ah] at k;exact R.faults k⟩
 have y:(!decide .di)=true:=y;rw[iE] at y;cases u:h.here with
 |none=>rw[u] at y;cases y
 |some pq=>
  obtain⟨j,M⟩:=pq;obtain⟨jl,jk,_⟩:=O.here j M u;obtain⟨x,C⟩:∃x,.cA:=⟨_,bo jl⟩;rw[u,if_neg<|by simp] at k;dsimp only[i9,kT] at k;rw[C] at k;dsimp only[i9,kT] at k;rw[aQ,VN O u C] at k;obtain⟨m1,m2,m3,m4,m5⟩:=Bp O j;obtain⟨dS,oS⟩:=R.raw.ob;have jn:L.js.length=h.sys.joints.length:=by rw[R.raw.jn,cg]
  have pn:L.ps.length=h.sys.runs.length:=R.raw.pn;refine⟨_,rfl,rA,dx,_,rfl,l,rfl,_,rfl,rA,cR,dx,_,_,rfl,l,e.R,e.gg,rfl,sA,dS,_,rfl,oS,rfl,_,rfl,rA,cR,dx,_,_,rfl,l,e.R,e.gM,rZ u,_,rfl,_,rfl,rA,cR,dx,_,_,rfl,l,e.R,e.yC,rfl,sA,dA,H0,L,_,_,j,h.radius,d,_,rfl,R.raw,dh C,X,ld,m4,m3,m1,m5,λH1 s1=>?_⟩;have o:=R.lC s1;have g:=s1 _ _ l;refine⟨rA,dx,_,_,5,i,rfl,g,rfl,λz=>?_,λz=>by
   rw[z,if_pos .O] at k;exact o.faults k⟩
  rw[z,if_neg .O,aQ] at k;obtain⟨p,q⟩:=o.raw.ob;refine⟨_,rfl,rA,dx,_,rfl,g,rfl,_,rfl,rA,cR,dx,_,_,rfl,g,e.R,e.gg,rfl,sA,cS,p,_,_,rfl,q,D.S,D.b5,rfl,L.jL,_,rfl,.inl (bh.of o.raw.jl),_,_,rfl,rfl,rA,dx,_,_,8,i,rfl,g,rfl,λr=>?_,λr=>by
   have r:¬((.b9).length:Int)<1024:=of_decide_eq_false r;rw[au,jn] at r;rw[decide_eq_true (show .d5 by omega),if_pos .s] at k;exact o.faults k⟩
  have r:((.b9).length:Int)<1024:=of_decide_eq_true r;rw[au,jn] at r;rw[decide_eq_false (show ¬ .d5 by omega),qR] at k;refine⟨_,rfl,rA,dx,_,rfl,g,rfl,_,rfl,rA,cR,dx,_,_,rfl,g,e.R,e.gg,rfl,sA,cS,p,_,_,rfl,q,D.S,D.gZ,rfl,L.qL,_,rfl,.inl (bh.of o.raw.ql),_,_,rfl,rfl,rA,dx,_,_,8,i,rfl,g,rfl,λs=>?_,λs=>by
   have s:¬(.d7:Int)<1024:=of_decide_eq_false s;rw[au,pn] at s;rw[decide_eq_true (show 1024<=h.sys.runs.length by omega),.ah] at k;exact o.faults k⟩
  have s:(.d7:Int)<1024:=of_decide_eq_true s;rw[au,pn] at s;rw[decide_eq_false<|show ¬1024<=h.sys.runs.length by omega,.be,dY] at k;refine⟨_,rfl,rA,cR,dx,_,_,rfl,g,e.R,e.gg,rfl,sA,p,_,rfl,q,rfl,_,rfl,rA,cR,dx,_,_,rfl,g,e.R,e.gM,rZ u,_,rfl,_,rfl,_,rfl,rA,cR,dx,_,_,rfl,g,e.R,e.yC,rfl,sA,dA,_,L,_,_,j,n,h.radius,d,_,rfl,o.raw.seen,dh C,X.same s1,ld,by rw[cg];omega,.h,m1,m2,λH2 L2 BO=>?_⟩;have eg:vX (kD h.sys) h.sys.runs.length j d ⟨x,.bI,(.dk).map (·.1)⟩ (x.at_.go d n)=kD .dI:=(VE O C).symm;have T:Raw K cS cJ cP (hide H1<|foot sA L) H2 sA L2 (kD<|Ji h j d n<|x.at_.go d n) (.dI).runs:=by
   rw[<-eg];have e2:(.dI).runs=h.sys.runs++[⟨j,(kD h.sys).length,d,n,h.radius⟩]:=by rw[cg];rfl
   rw[e2];exact BO
  have I:∀m,(.dI).find m=.bQ:=λm=>by
   have:=xp h.sys ⟨x.at_.go d n,0,none⟩ m<|h.sys.runs++[.cI];rw[show (.dI).find m=(⟨h.sys.joints++[⟨x.at_.go d n,0,none⟩],h.sys.runs++[.cI]⟩:aM).find m from rfl,this];cases .bQ with
   |none=>rfl
   |some _=>rfl
  have U:∀b m,.bQ=some b->(.dI).kind b=h.sys.kind b:=λb m hb=>by
   obtain⟨x',q1,_⟩:=find_some hb;have bl:=(aB.mp q1).1;have:=o4 h.sys.joints h.sys.runs (h.sys.runs++[.cI]) ⟨x.at_.go d n,0,none⟩ b;rw[.aC] at this;exact this
  have R2:=o.VH e _ T λkj kv nj nv=>p9 nj nv I U;obtain⟨W,Z⟩:=R2.ob;refine⟨_,rfl,rA,cR,W,_,rfl,Z,e.R,e.gM,.dc,?_⟩;have R3:=(R2.Kc e Z ⟨ .dI,h.radius,some (h.sys.joints.length,true)⟩ rfl i).cap (c':=c+1) .h .h;have ep:eV "stand" (V.int ((kD h.sys).length:Nat)) (mQ sA di dE { h with sys:=Ji h j d n (x.at_.go d n) } i)=mQ sA di dE ⟨ .dI,h.radius,some (h.sys.joints.length,true)⟩ i:=by
   rw[cg];rfl
  rw[ep];exact k _ L2 R3
def wc(l:bz):PyData:=.tuple [.int l.p,.int l.q]
def nV(p:eM):PyData:=.tuple [wc p.x,wc p.y,wc p.z]
theorem IP{K:ah}{H:Hp}{a:Addr}{p:eM}(h:gn K H a p):Dp K H .E (nV p):=by
 obtain⟨x,y,z,c,h1,h2,d⟩:=h;have l:∀{b:Addr} {q:bz},eO K H b q->Dp K H .aM (wc q):=λh=>.tup h<|.cons (.int _)<|.cons (.int _) .nil;exact .tup c<|.cons (l h1)<|.cons (l h2)<|.cons (l d) .nil
theorem wg(p:eM):kW (nV p)=true:=by
 unfold kW nV wc;simp[zG,uV,zI,uW]
theorem NQ(p q:eM):gX (nV p) (nV q)=decide (p=q):=by
 have l:∀a b:bz,gX (wc a) (wc b)=decide (a=b):=λa b=>by
  obtain⟨a1,a2⟩:=a;obtain⟨b1,b2⟩:=b;unfold wc;simp only[gX,zH,oq];by_cases c:a1=b1
  ·by_cases d:a2=b2
   ·subst c d;simp
   ·simp[d]
  ·simp[c]
 obtain⟨p1,p2,p3⟩:=p;obtain⟨e,f,g⟩:=q;unfold nV;show(gX (wc p1) (wc e)&&(gX (wc p2) (wc f)&&(gX (wc p3) (wc g)&&true)))=_;rw[l,l,l,oq];by_cases c:p1=e
 ·by_cases d:p2=f
  ·by_cases h:p3=g
   ·subst c d h;simp
   ·simp[h]
  ·simp[d]
 ·simp[c]
def toT(h:bg)(k:Nat):aM:=⟨h.sys.joints.dropLast,h.sys.runs.modify .cz λ(r:bH)=>.bW⟩
def toR(h:bg)(n:aE):Except Nat bg:=
 let k:=(.a3).getD 0
 let j:=.cX
 let place (i:Nat):Option eM:=h.sys.joints[i]?.map λ(x:bv)=>x.at_
 mn [(!gh h.sys n,3),(h.here.isNone||(!h.sys.bare j||!(h.here.map λ(x:Nat×Bool)=>x.2).getD false),4),(!(toT h k).jointFine k,5),(place j != place k,6)] ⟨toT h k,h.radius,none⟩
theorem VO{h:bg}(O:bw h){j k:Nat}{x y:bv}{r:bH}(b:.b3)(e:h.sys.runs[.cz]?=some r)(a:r.to_=j)(f:h.sys.joints[k]?=.ao)(d:y.kind=0)(i:k<j):
  (toT h k).jointFine k=yd h.sys.runs ⟨y,endsAt h.sys k,(h.sys.leaves k).map (·.1)⟩ (fT r.dir) r.radius:=by
 obtain⟨rs,c,_⟩:=yk e;have te:=(Dn (k:=k) c trivial k (by rw[a];omega)).2;rw[.ah] at te;have jl:=(O.here j true b.he).1;have g:(toT h k).kind k=0:=by
  have:(toT h k).joints[k]?=.ao:=vq f .h;rw[fX this,d]
 rw[Dm,g];show Co ((toT h k).leaves k) 0=_;rw[show (toT h k).leaves k=h.sys.leaves k++[(fT r.dir,r.radius)] from te];have m:=SE h.sys.runs y k (fT r.dir) r.radius;rw[d] at m;exact(Hf (bj _) (O.fine k<|by omega) λz=>by cases z).trans m.symm
def Xg(K:ah)(cR cS cJ cP cF:Addr):Sp:=λvs H Q E=>∃(rA sA di dE:Addr) (H0:Hp) (L:Lay) (h:bg) (i c:Nat) (n:aE),.ew/\.bD/\bw h/\cZ n=true/\c<140000/\Does K cR cS cJ cP cF E Q H0 rA sA di dE i c (toR h n)
theorem NR{h:bg}(O:bw h){j:Nat}{x:bv}(b:.b3)(jl:j+1=h.sys.joints.length)(k:Nat)(m:aE):(toT h k).find m=.bQ:=by
 apply find_eq;cases e:.bQ with
 |none=>
  show ∀(i:Nat) x,(toT h k).joints[i]?=.v->x.name≠some m;intro i y c;exact find_none e (tE c).1
 |some a=>
  obtain⟨y,h1,h2⟩:=find_some e;have g:a≠j:=λz=>by rw[z,b.hx] at h1;cases h1;rw[b.nn] at h2;cases h2
  have l:=(aB.mp h1).1;refine⟨⟨y,vq h1<|by omega,h2⟩,λi z d f=>O.uniq i a z y m (tE d).1 h1 f h2⟩
theorem Zv{f f1 f2 f3 f4 f5:Addr}{fd eX fd2 qz tM QS:FuncData}(F:d8 K "take_to" "Reader.take_to" abH f fd)(l:.aA)(g:.by)(N:kF mg)
  (GN:MX P w K mg base 3 cR "need" .cZ (mT cR cF) f1 eX) (G2:MX P w K mg base 4 cR "need_bare_joint" .ae (v0 K cR cS cJ cP cF) f2 fd2) (GM:iQ P w K mg base bV 3 cS "may_leave" .ff (RW K cS cJ cP) f3 qz)
  (GL:iQ P w K mg base bV 2 cS "lead_last_pipe_to" ["self","joint"] (RV K cS cJ cP) f4 tM) (GO:dQ P w K mg base bV 1 "opposite" ["direction"] (Lj K) f5 QS):
  aX P w K mg base .aK 5 f fd .bb (Xg K cR cS cJ cP cF):=by
 refine F.lK abK ?_;rintro cdv A outer st H _ Q E s nd ⟨rA,sA,di,dE,H0,L,h,i,c,n,rfl,R,O,hn,hc,k⟩;have hu:=rM s;obtain⟨t3,h3⟩:=N.k3;obtain⟨t5,h5⟩:=N.k5;obtain⟨t6,h6⟩:=N.k6;refine⟨_,(af (aL (bR GN s .j bU (ae (nM (JC hu .o .V)) (ae (aR .s h3 (v:=.int 3) .Y) ak)))) (af (aL (eI G2 s .j bU)) (af (bu 2 (nE hu .V .o .aX)) (af (bu 3 (bG (aw .V rfl) (KB DA aD))) (af (aL (bR GN s .j bU (ae (bR GM s .V aP (ae .M (ae (dG GO s aP (ae (aw .aj rfl) ak)) (ae (aw .aj rfl) ak)))) (ae (aR .s h5 (v:=.int 5) .Y) ak)))) (af (aL (bR GN s .j bU (ae (fj (X2 s.units) (aw (bG (aw .V rfl) .M) rfl) (aw (bG (aw .V rfl) .V) rfl) .aN) (ae (aR .s h6 (v:=.int 6) .Y) ak)))) (af (aL (bR GL s .V aP .cG)) (ap (cO .j rq rfl))))))))),?_⟩;obtain⟨dx,u⟩:=R.ob;obtain⟨kj,e1,nj,lj⟩:=R.jn;have I:=xU hn nj;unfold toR at k;dsimp only at k;rw[aQ] at k;refine⟨_,rfl,rA,dx,_,rfl,u,rfl,_,rfl,_,rfl,rA,cR,dx,_,_,rfl,u,g.R,g.tW,rfl,di,_,rfl,ky.k (k:=aK (T (sg n))) e1,rA,dx,_,_,3,i,rfl,u,rfl,λz=>?_,λz=>by
  rw[I] at z;rw[z,if_pos .O] at k;exact R.faults k⟩
 rw[I] at z;rw[z,if_neg .O,aQ] at k;refine⟨_,rfl,rA,dx,_,rfl,u,rfl,rA,sA,di,dE,H0,L,h,i,c,rfl,R,O,λj x b=>?_,λnb=>by
  rw[pE O nb,.ah] at k;exact k⟩
 obtain⟨b1,b2,b3,b4⟩:=mU b;obtain⟨jl,jk,_,js⟩:=O.here j true b.he;obtain⟨j1,j2,r,M,j4,j5⟩:=js rfl;rw[b1,b2,b3,b4,.be] at k;obtain⟨d,B⟩:∃d,.a3=.aS:=by
  unfold gh at z;cases e:.a3 with
  |none=>rw[e] at z;cases z
  |some d=>exact⟨d,rfl⟩
 obtain⟨y,o,Z9⟩:=find_some B;have y0:y.kind=0:=by
  unfold gh at z;rw[B] at z;have z:((h.sys.joints[d]?.map λ(x:bv)=>x.kind) == some 0)=true:=z;rw[o] at z;simpa using z
 have U:d<j:=by
  have kl:=(aB.mp o).1;have:d≠j:=λw=>by rw[w,b.hx] at o;cases o;rw[b.nn] at Z9;cases Z9
  omega
 have vv:cG kj .a2=some (.int (d:Nat)):=by
  rw[nj n hn,B];show(if h.sys.kind d=0 then _ else _)=_
  rw[if_pos (by rw[fX o];exact y0)]
 rw[B] at k;dsimp only[kT] at k;rw[aQ,VO O b M j4 o y0 U] at k;refine⟨_,rfl,rA,cR,dx,_,_,rfl,u,g.R,g.tW,rfl,_,rfl,di,_,rfl,(by rw[<-vv];exact ky.k (k:=.a2) e1),?_⟩;obtain⟨dS,oS⟩:=R.raw.ob;obtain⟨p,hp,dP,dA,oP,hDp⟩:=R.raw.pipe M;have C:(L.ps.map V.ref)[.d7-1]?=some .aO:=by rw[au,R.raw.pn,b8,hp];rfl
 refine⟨_,rfl,rA,cR,dx,_,_,rfl,u,g.R,g.gg,rfl,sA,cS,dS,_,_,rfl,oS,l.S,l.gZ,rfl,_,rfl,L.qL,_,_,_,rfl,rfl,bh.of R.raw.ql,AB C,?_⟩;have rd:r.dir<18:=O.dir r (bc M);obtain⟨m1,m2,m3,m4,m5⟩:=Bp O d;refine⟨_,rfl,rA,dx,_,rfl,u,rfl,_,rfl,rA,cR,dx,_,_,rfl,u,g.R,g.gg,rfl,sA,dS,_,rfl,oS,rfl,_,rfl,_,rfl,p,cP,dP,_,_,rfl,oP,l.P,l.kC,rfl,dA,_,_,_,rfl,hDp,λH1 t ht htn s1=>?_⟩;have R1:=R.lC s1;refine⟨_,rfl,p,cP,dP,_,_,rfl,s1 _ _ oP,l.P,l.vQ,rfl,sA,t,H0,L,_,_,d,r.radius,fT r.dir,_,rfl,R1.raw,dh o,xl rd (gm.of ht),(D5 _ rd).1,m4,m3,m1,m5,λH2 s2=>?_⟩;have R2:=R1.lC s2;have D:=s2 _ _ (s1 _ _ u);refine⟨rA,dx,_,_,5,i,rfl,D,rfl,λq=>?_,λq=>by
  rw[q,if_pos .O] at k;exact R2.faults k⟩
 rw[q,.be,aQ] at k;obtain⟨Ti,Tj⟩:=R2.raw.ob;obtain⟨jo1,adb,⟨dJ1,pA1,oJ1,ade⟩,_⟩:=R2.raw.joint<|dh o;obtain⟨jo2,adf,⟨dJ2,pA2,oJ2,adg⟩,_⟩:=R2.raw.joint<|dh b.hx;refine⟨_,rfl,rA,dx,_,rfl,D,rfl,?_⟩;refine⟨_,rfl,rA,cR,dx,_,_,rfl,D,g.R,g.gg,rfl,sA,cS,Ti,_,_,rfl,Tj,l.S,l.b5,rfl,_,rfl,L.jL,_,_,_,rfl,rfl,bh.of R2.raw.jl,cv adb,jo1.a,cJ,dJ1,_,_,rfl,oJ1,l.J,l.A3,rfl,?_⟩;refine⟨_,rfl,rA,cR,dx,_,_,rfl,D,g.R,g.gg,rfl,sA,cS,Ti,_,_,rfl,Tj,l.S,l.b5,rfl,_,rfl,rA,cR,dx,_,_,rfl,D,g.R,g.gM,rZ b.he,L.jL,_,_,_,rfl,rfl,bh.of R2.raw.jl,cv adf,jo2.a,cJ,dJ2,_,_,rfl,oJ2,l.J,l.A3,rfl,nV y.at_,nV x.at_,IP ade,IP adg,wg _,wg _,?_⟩;have ee:((h.sys.joints[j]?.map λ(x:bv)=>x.at_) != (h.sys.joints[d]?.map λ(x:bv)=>x.at_))=!gX (nV y.at_) (nV x.at_):=by
  rw[b.hx,o,NQ];by_cases w:y.at_=x.at_
  ·simp[w]
  ·have w':¬x.at_=y.at_:=λv=>w v.symm;simp[w,w']
 rw[ee] at k;refine⟨rA,dx,_,_,6,i,rfl,D,rfl,λG=>?_,λG=>by
  rw[G,if_pos .O] at k;exact R2.faults k⟩
 rw[G,.be,dY] at k;have je:h.sys.joints≠[]:=λw=>by rw[w] at jl;simp at jl
 have jde:kD h.sys≠[]:=λw=>by have:=cg h.sys;rw[w] at this;exact je<|qB.mp this.symm
 refine⟨_,rfl,rA,cR,dx,_,_,rfl,D,g.R,g.gg,rfl,sA,Ti,_,rfl,Tj,rfl,_,rfl,sA,_,L,_,_,d,_,r,rfl,R2.raw.seen,M,rd,jde,vq (dh o) (by rw[cg];omega),by have:=O.nr;omega,m1,m2,λH3 L3 W=>?_⟩;obtain⟨rs,X,hrl⟩:=yk M;have eg:=VF X j4 j1 o U;have er:h.sys.runs.set .cz { r with to_:=d }=(toT h d).runs:=by
  show _=h.sys.runs.modify .cz λ(r:bH)=>{ r with to_:=d };rw[X,.fd,lm];simp
 rw[<-eg,er] at W;have kd1:∀a m,.bQ=some a->(toT h d).kind a=h.sys.kind a:=λa m hb=>by
  obtain⟨x',Y,G⟩:=find_some hb;have aj:a≠j:=λw=>by rw[w,b.hx] at Y;cases Y;rw[b.nn] at G;cases G
  have al:=(aB.mp Y).1;have:(toT h d).joints[a]?=some x':=vq Y .h;rw[fX this,fX Y]
 have R3:=R2.VH g (toT h d) W λkj kv nj nv=>p9 nj nv (NR O b j1 d) kd1;obtain⟨dx3,Z⟩:=R3.ob;refine⟨_,rfl,rA,cR,dx3,_,rfl,Z,g.R,g.gM,.dc,?_⟩;have R4:=(R3.Kc g Z ⟨toT h d,h.radius,none⟩ rfl i).cap (c':=c+1) .h .h;exact k _ L3 R4
def wm(h:bg):ip->Except Nat bg
 |.size n=>.ok { h with radius:=n }
 |.from_ n x y z=>IL h n ⟨gU x,gU y,gU z⟩
 |.at_ n=>atR h n
 |.go d n=>goR h d n
 |.node n=>IJ h n
 |.valve n=>Bo h n
 |.to_ n=>toR h n
 |.end_ k=>Sz h k
theorem NS(h:bg)(l:ip):h.line l=if Fn l=false then .error 2 else wm h l:=by
 unfold Gd;cases l<;>rfl
theorem not_not{b:Bool}(h:¬(!b)=true):b=true:=by
 cases b
 ·exact absurd rfl h
 ·rfl
theorem IQ{l:ip}{c:.aV}(f:xj l c):(∀d n,l=.go d n->d<18):=by
 intro d n e;subst e;obtain⟨k,a,b,_,_,g,_⟩:=f;exact(aB.mp g).1
theorem IR{h u:bg}(O:bw h){l:ip}{t:.aV}(g:xj l t)(e:wm h l=.ok u):bw u:=by
 cases l with
 |size n=>cases e;exact O.size n
 |from_ n x y z=>
  obtain⟨_,_,_,_,_,_,i,_⟩:=g;have e:IL h n ⟨gU x,gU y,gU z⟩=.ok u:=e;unfold IL at e;rw[aQ,aQ,aQ,dY] at e;split at e
  ·cases e
  ·rename_i a;split at e
   ·cases e
   ·rename_i c;split at e
    ·cases e
    ·rename_i f;cases e;refine O.from_ i ?_ ?_ ?_
     ·cases q:h.here with
      |none=>rfl
      |some _=>rw[q] at c;exact absurd rfl c
     ·unfold j7 at a;cases q:.a3 with
      |none=>rfl
      |some _=>rw[q] at a;exact absurd rfl a
     ·exact qM λq=>f<|decide_eq_true q
 |at_ n=>
  have e:atR h n=.ok u:=e;unfold atR at e;rw[aQ,aQ,dY] at e;split at e
  ·cases e
  ·rename_i a;split at e
   ·cases e
   ·rename_i c;cases e;cases q:.a3 with
    |none=>exfalso;apply a;unfold gh;rw[q];rfl
    |some k=>
     obtain⟨x,h1,h2⟩:=find_some q;refine O.at_ ?_ h1 h2 ?_
     ·cases q:h.here with
      |none=>rfl
      |some _=>rw[q] at c;exact absurd rfl c
     ·have a:gh h.sys n=true:=by simpa using a
      unfold gh at a;rw[q] at a;have a:((h.sys.joints[k]?.map λ(x:bv)=>x.kind) == some 0)=true:=a;rw[h1] at a;simpa using a
 |go d n=>
  have v:=IQ g d n rfl;have e:goR h d n=.ok u:=e;unfold goR at e;dsimp only at e;rw[aQ,aQ,aQ,dY] at e;cases q:h.here with
  |none=>rw[q] at e;cases e
  |some p=>
   obtain⟨j,st⟩:=p;rw[q] at e;dsimp only[i9,kT] at e;split at e
   ·cases e
   ·split at e
    ·cases e
    ·rename_i c;split at e
     ·cases e
     ·rename_i f;cases e;have f:¬(.d5\/1024<=h.sys.runs.length):=λz=>f (by
       rcases z with z|z
       ·rw[decide_eq_true z];rfl
       ·rw[decide_eq_true z,zh])
      have c:=not_not c;exact O.go v q .h .h c
 |node n=>
  obtain⟨_,_,_,i⟩:=g;have e:IJ h n=.ok u:=e;unfold IJ at e;rw[aQ,aQ,dY] at e;split at e
  ·cases e
  ·rename_i a;split at e
   ·cases e
   ·rename_i c;have a:.a3=none:=by
     unfold j7 at a;cases q:.a3 with
     |none=>rfl
     |some _=>rw[q] at a;exact absurd rfl a
    by_cases nb:∀j x,¬ .b3
    ·exact absurd (Ef O nb) c
    ·obtain⟨j,x,b⟩:∃j x,.b3:=eJ λz=>nb λj x b=>z ⟨j,x,b⟩;obtain⟨b1,b2,r,s⟩:=mU b;rw[b2] at e;cases e;refine O.with_ b (x':=lx n x) rfl trivial h.here (by show x.kind<=5;rw[b.k0];omega) (λm o=>?_) (λ_=>rfl) (.inr ⟨b.he,by show x.kind<=1;rw[b.k0];omega⟩) (λz=>by rw[b.he] at z;cases z);cases o;exact⟨i,a,by show x.kind<=1;rw[b.k0];omega⟩
 |valve n=>
  obtain⟨_,_,_,i⟩:=g;have e:Bo h n=.ok u:=e;unfold Bo at e;rw[aQ,aQ,dY] at e;split at e
  ·cases e
  ·rename_i a;split at e
   ·cases e
   ·rename_i c;have a:.a3=none:=by
     unfold j7 at a;cases q:.a3 with
     |none=>rfl
     |some _=>rw[q] at a;exact absurd rfl a
    by_cases nb:∀j x,¬ .b3
    ·exact absurd (pE O nb) c
    ·obtain⟨j,x,b⟩:∃j x,.b3:=eJ λz=>nb λj x b=>z ⟨j,x,b⟩;obtain⟨b1,b2,r,s⟩:=mU b;rw[b2] at e;cases e;refine O.with_ b (x':=nI n x) rfl trivial h.here (by show 1<=5;omega) (λm o=>?_) (λ_=>rfl) (.inr ⟨b.he,aG _⟩) (λz=>by rw[b.he] at z;cases z);cases o;exact⟨i,a,aG _⟩
 |to_ n=>
  have e:toR h n=.ok u:=e;unfold toR at e;dsimp only at e;rw[aQ,aQ,aQ,aQ,dY] at e;split at e
  ·cases e
  ·rename_i a;split at e
   ·cases e
   ·rename_i c;split at e
    ·cases e
    ·rename_i f;split at e
     ·cases e
     ·by_cases nb:∀j x,¬ .b3
      ·exact absurd (pE O nb) c
      ·obtain⟨j,x,b⟩:∃j x,.b3:=eJ λz=>nb λj x b=>z ⟨j,x,b⟩;cases q:.a3 with
       |none=>exfalso;apply a;unfold gh;rw[q];rfl
       |some k=>
        obtain⟨y,h1,h2⟩:=find_some q;rw[q] at e f;cases e;have a:gh h.sys n=true:=by simpa using a
        unfold gh at a;rw[q] at a;have a:((h.sys.joints[k]?.map λ(x:bv)=>x.kind) == some 0)=true:=a;rw[h1] at a;have f:=not_not f;exact O.to_ b h1 h2 (by simpa using a) f
 |end_ k=>
  obtain⟨_,_,_,_,A,w,_⟩:=g;have e:Sz h k=.ok u:=e;unfold Sz at e;rw[aQ,dY] at e;split at e
  ·cases e
  ·rename_i c;by_cases nb:∀j x,¬ .b3
   ·exact absurd (pE O nb) c
   ·obtain⟨j,x,b⟩:∃j x,.b3:=eJ λz=>nb λj x b=>z ⟨j,x,b⟩;obtain⟨b1,b2,r,s⟩:=mU b;rw[b2] at e;cases e;refine O.with_ b (x':=qa k x) rfl trivial none w (λm o=>?_) (λz=>?_) .ar λ_ z=>?_
    ·have:x.name=some m:=o;rw[b.nn] at this;cases this
    ·have:k=1:=z;omega
    ·have:k=1:=z;omega
abbrev LD:Stmt:=inClass vZ 3
theorem SG:az ["self","words"] ["self","words"] (ao LD):=fscope
def IS(K:ah)(cR cS cJ cP cF:Addr):Sp:=λvs H Q E=>∃(rA sA di dE wA:Addr) (H0:Hp) (L:Lay) (h:bg) (i c:Nat) (a:.aV) (l:ip),vs=[.ref rA,.ref wA]/\.bD/\bw h/\bh K H wA (gF a)/\xj l a/\c<140000/\Does K cR cS cJ cP cF E Q H0 rA sA di dE i c (wm h l)
structure adh(P:Program)(w:World)(K:ah)(mg:.aa)(base:Heap)(cR cS cJ cP cF:Addr):Prop where
 from_:∃f fd,MX P w K mg base 5 cR "take_from" ["self","name","place"] (LC K cR cS cJ cP cF) f fd
 at_:∃f fd,MX P w K mg base 5 cR "take_at" .bb (Xe K cR cS cJ cP cF) f fd
 go:∃f fd,MX P w K mg base 5 cR "take_go" ["self","direction","millimetres"] (Xf K cR cS cJ cP cF) f fd
 node:∃f fd,MX P w K mg base 5 cR "take_node" .bb (LB K cR cS cJ cP cF) f fd
 valve:∃f fd,MX P w K mg base 5 cR "take_valve" .bb (IK K cR cS cJ cP cF) f fd
 to_:∃f fd,MX P w K mg base 5 cR "take_to" .bb (Xg K cR cS cJ cP cF) f fd
 end_:∃f fd,MX P w K mg base 5 cR "take_end" ["self","ending"] (SA K cR cS cJ cP cF) f fd
theorem cK{a b:Str}{A B:Prop}(h:a≠b)(k:B):if decide (V.str a=V.str b)=true then A else B:=by
 rw[decide_eq_false λz=>h<|V.str.inj z];exact jW k
theorem qb{a b:Str}{A B:Prop}(h:a=b)(k:A):if decide (V.str a=V.str b)=true then A else B:=by
 rw[decide_eq_true<|by rw[h]];exact ph k
theorem NT{f W X Y:Addr}{fd Z G:FuncData}{as:.B}(F:d8 K "take_words" "Reader.take_words" LD f fd)(B:nG mg)(I:.by)(S:Iq P w K mg Y as)(r:adh P w K mg base cR cS cJ cP cF)(GP:dQ P w K mg base bV 1 "place_at" ["x","y","z"] (Ll K) W Z)
  (GD:dQ P w K mg base bV 1 "direction_of" .bv (Li as) X G):aX P w K mg base .aK 6 f fd ["self","words"] (IS K cR cS cJ cP cF):=by
 refine F.lK SG ?_;rintro cdv A outer st H _ Q E o nd ⟨rA,sA,di,dE,wA,H0,L,h,i,c,U,l,rfl,R,O,j,q,s,k⟩;obtain⟨m1,d1,G1⟩:=r.from_;obtain⟨m2,d2,G2⟩:=r.at_;obtain⟨m3,d3,G3⟩:=r.go;obtain⟨m4,d4,G4⟩:=r.node;obtain⟨m5,d5,G5⟩:=r.valve;obtain⟨m6,d6,G6⟩:=r.to_;obtain⟨m7,d7,G7⟩:=r.end_;refine⟨_,(ap (cx .d2 (ap (cO .j (dD gb .s B.int rO .c1) rfl))
  (ap (cx .d2 (ap (aL (bR G1 o .j bU (ae (bG .o aD) (ae (dG GP o aP (ae (dD gb .s B.int rO .c1) (ae (dD gb .s B.int rO .c1) (ae (dD gb .s B.int rO .c1) ak)))) ak)))))
  (ap (cx .d2 (ap (aL (bR G2 o .j bU .c1)))
  (ap (cx .d2 (ap (aL (bR G3 o .j bU (ae (dG GD o aP .c1) (ae (dD gb .s B.int rO .c1) ak)))))
  (ap (cx .d2 (ap (aL (bR G4 o .j bU .c1)))
  (ap (cx .d2 (ap (aL (bR G5 o .j bU .c1)))
  (ap (cx .d2 (ap (aL (bR G6 o .j bU .c1)))
  (ap (aL (bR G7 o .j bU .c1))))))))))))))))),?_⟩
 obtain⟨dx,p⟩:=R.ob;have g:∀{n:Nat} {l:.e},U[n]?=some l->AA (gF U) (n:Int)=some (.str<|T l):=λh=>c6<|C0 h;cases l with
 |size n=>
  obtain⟨u,v,rfl,hk,m,rfl⟩:=q;refine⟨_,rfl,wA,_,0,_,rfl,rfl,j,.aI,rfl,_,rfl,qb hk ?_⟩;refine⟨_,rfl,wA,_,1,_,rfl,rfl,j,g (n:=1) rfl,T v,_,rfl,rS m,by rw[iD];have:=(jz m).2.1;omega,_,rfl,rA,cR,dx,_,rfl,p,I.R,I.yC,.dc,?_⟩;exact k _ L<|(R.Kc I p { h with radius:=jg v } rfl i).cap (c':=c+1) .h<|by omega
 |from_ nm x y z=>
  obtain⟨u,a,b,d,rfl,hk,m,⟨J,rfl⟩,⟨C,rfl⟩,D,rfl⟩:=q;refine⟨_,rfl,wA,_,0,_,rfl,rfl,j,.aI,rfl,_,rfl,cK .aY ?_⟩;refine⟨_,rfl,wA,_,0,_,rfl,rfl,j,.aI,rfl,_,rfl,qb hk ?_⟩;obtain⟨ia,la⟩:=int_text J;obtain⟨ib,lb⟩:=int_text C;obtain⟨M,ld⟩:=int_text D;refine⟨_,rfl,rA,dx,_,rfl,p,rfl,_,rfl,wA,_,1,_,rfl,rfl,j,g (n:=1) rfl,_,rfl,wA,_,2,_,rfl,rfl,j,g (n:=2) rfl,T a,_,rfl,ia,by rw[iD];omega,_,rfl,wA,_,3,_,rfl,rfl,j,g (n:=3) rfl,T b,_,rfl,ib,by rw[iD];omega,_,rfl,wA,_,4,_,rfl,rfl,j,g (n:=4) rfl,T d,_,rfl,M,by rw[iD];omega,_,_,_,rfl,λH1 t ht s1=>?_⟩;exact⟨rA,sA,di,dE,t,H0,L,h,i,c,nm,_,rfl,R.lC s1,O,m,ht,s,k⟩
 |at_ nm=>
  obtain⟨u,rfl,hk,m⟩:=q;refine⟨_,rfl,wA,_,0,_,rfl,rfl,j,.aI,rfl,_,rfl,cK .aY ?_⟩;refine⟨_,rfl,wA,_,0,_,rfl,rfl,j,.aI,rfl,_,rfl,cK .aY ?_⟩;refine⟨_,rfl,wA,_,0,_,rfl,rfl,j,.aI,rfl,_,rfl,qb hk ?_⟩;exact .eX
 |go d n=>
  obtain⟨u,a,b,rfl,hk,D,C,rfl⟩:=q;have N:d<18:=(aB.mp D).1;obtain⟨dA,h1,h2⟩:=YO S.len D;refine⟨_,rfl,wA,_,0,_,rfl,rfl,j,.aI,rfl,_,rfl,cK .aY ?_⟩;refine⟨_,rfl,wA,_,0,_,rfl,rfl,j,.aI,rfl,_,rfl,cK .aY ?_⟩;refine⟨_,rfl,wA,_,0,_,rfl,rfl,j,.aI,rfl,_,rfl,cK .aY ?_⟩;refine⟨_,rfl,wA,_,0,_,rfl,rfl,j,.aI,rfl,_,rfl,qb hk ?_⟩;refine⟨_,rfl,rA,dx,_,rfl,p,rfl,_,rfl,wA,_,1,_,rfl,rfl,j,g (n:=1) rfl,T a,_,rfl,h2,_,rfl,wA,_,2,_,rfl,rfl,j,g (n:=2) rfl,T b,_,rfl,rS C,by rw[iD];have:=(jz C).2.1;omega,?_⟩;exact⟨rA,sA,di,dE,dA,H0,L,h,i,c,d,jg b,rfl,R,O,(S.at_ d dA h1).at_,N,s,k⟩
 |node nm=>
  obtain⟨u,rfl,hk,m⟩:=q;refine⟨_,rfl,wA,_,0,_,rfl,rfl,j,.aI,rfl,_,rfl,cK .aY ?_⟩;refine⟨_,rfl,wA,_,0,_,rfl,rfl,j,.aI,rfl,_,rfl,cK .aY ?_⟩;refine⟨_,rfl,wA,_,0,_,rfl,rfl,j,.aI,rfl,_,rfl,cK .aY ?_⟩;refine⟨_,rfl,wA,_,0,_,rfl,rfl,j,.aI,rfl,_,rfl,cK .aY ?_⟩;refine⟨_,rfl,wA,_,0,_,rfl,rfl,j,.aI,rfl,_,rfl,qb hk ?_⟩;exact .eX
 |valve nm=>
  obtain⟨u,rfl,hk,m⟩:=q;refine⟨_,rfl,wA,_,0,_,rfl,rfl,j,.aI,rfl,_,rfl,cK .aY ?_⟩;refine⟨_,rfl,wA,_,0,_,rfl,rfl,j,.aI,rfl,_,rfl,cK .aY ?_⟩;refine⟨_,rfl,wA,_,0,_,rfl,rfl,j,.aI,rfl,_,rfl,cK .aY ?_⟩;refine⟨_,rfl,wA,_,0,_,rfl,rfl,j,.aI,rfl,_,rfl,cK .aY ?_⟩;refine⟨_,rfl,wA,_,0,_,rfl,rfl,j,.aI,rfl,_,rfl,cK .aY ?_⟩;refine⟨_,rfl,wA,_,0,_,rfl,rfl,j,.aI,rfl,_,rfl,qb hk ?_⟩;exact .eX
 |to_ nm=>
  obtain⟨u,rfl,hk,m⟩:=q;refine⟨_,rfl,wA,_,0,_,rfl,rfl,j,.aI,rfl,_,rfl,cK .aY ?_⟩;refine⟨_,rfl,wA,_,0,_,rfl,rfl,j,.aI,rfl,_,rfl,cK .aY ?_⟩;refine⟨_,rfl,wA,_,0,_,rfl,rfl,j,.aI,rfl,_,rfl,cK .aY ?_⟩;refine⟨_,rfl,wA,_,0,_,rfl,rfl,j,.aI,rfl,_,rfl,cK .aY ?_⟩;refine⟨_,rfl,wA,_,0,_,rfl,rfl,j,.aI,rfl,_,rfl,cK .aY ?_⟩;refine⟨_,rfl,wA,_,0,_,rfl,rfl,j,.aI,rfl,_,rfl,cK .aY ?_⟩;refine⟨_,rfl,wA,_,0,_,rfl,rfl,j,.aI,rfl,_,rfl,qb hk ?_⟩;exact .eX
 |end_ e=>
  obtain⟨u,a,rfl,hk,e2,e5,J⟩:=q;refine⟨_,rfl,wA,_,0,_,rfl,rfl,j,.aI,rfl,_,rfl,cK .aY ?_⟩;refine⟨_,rfl,wA,_,0,_,rfl,rfl,j,.aI,rfl,_,rfl,cK .aY ?_⟩;refine⟨_,rfl,wA,_,0,_,rfl,rfl,j,.aI,rfl,_,rfl,cK .aY ?_⟩;refine⟨_,rfl,wA,_,0,_,rfl,rfl,j,.aI,rfl,_,rfl,cK .aY ?_⟩;refine⟨_,rfl,wA,_,0,_,rfl,rfl,j,.aI,rfl,_,rfl,cK .aY ?_⟩;refine⟨_,rfl,wA,_,0,_,rfl,rfl,j,.aI,rfl,_,rfl,cK .aY ?_⟩;refine⟨_,rfl,wA,_,0,_,rfl,rfl,j,.aI,rfl,_,rfl,cK .aY ?_⟩;have V:=g (n:=1) (l:=a) rfl;rw[J] at V;exact⟨_,rfl,rA,dx,_,rfl,p,rfl,_,rfl,wA,_,1,_,rfl,rfl,j,V,rA,sA,di,dE,H0,L,h,i,c,e,rfl,R,O,e2,e5,s,k⟩
theorem tX(c:UInt8):∀b:aE,(cz c b).length<=b.length+1/\∀p,p∈cz c b->p.length<=b.length
 |[]=>by simp[cz]
 |x::r=>by
  obtain⟨h1,h2⟩:=tX c r;unfold cz;split
  ·refine⟨ .bq,λp hp=>?_⟩;rcases aH.mp hp with z|z
   ·subst z;simp
   ·have:=h2 p z;simp;omega
  ·split
   ·refine⟨ .m,λp hp=>?_⟩;have:p=[x]:=by simpa using hp
    subst this;simp
   ·rename_i w l e;rw[e] at h1 h2;refine⟨by simp at h1 ⊢;omega,λp hp=>?_⟩;rcases aH.mp hp with z|z
    ·subst z;have:=h2 w bf;simp;omega
    ·have:=h2 p<|aV _ z;simp;omega
abbrev SH:Stmt:=inClass vZ 2
theorem VP:az ["self","line","words"] ["self","line"] (ao SH):=fscope
def Bq(K:ah)(cR cS cJ cP cF:Addr)(E:XK)(Q:VK)(H0:Hp)(rA sA di dE:Addr)(h:bg)(i c:Nat)(b:aE):Prop:=match mh b with
 |none=>Faults E H0 cF 1 i
 |some l=>match h.line l with
  |.error k=>Faults E H0 cF k i
  |.ok u=>∀H' a,gN K cR cS cJ cP H0 H' rA sA di dE a u (i+1) (c+1)->bw u->Q .non H'
def LF(K:ah)(cR cS cJ cP cF:Addr):Sp:=λvs H Q E=>∃(rA sA di dE:Addr) (H0:Hp) (L:Lay) (h:bg) (i c:Nat) (b:aE),vs=[.ref rA,.str<|T<|sg b]/\.bD/\bw h/\b.length<=65536/\c<140000/\Bq K cR cS cJ cP cF E Q H0 rA sA di dE h i c b
theorem SI{f f1 f2 f3 f4:Addr}{fd eX D qz tM:FuncData}{as:.B}(G:as.length=18)(F:d8 K "take_line" "Reader.take_line" SH f fd)(I:.by)(N:kF mg)(GN:MX P w K mg base 3 cR "need" .cZ (mT cR cF) f1 eX)
  (GL:dQ P w K mg base bV 6 "is_line" ["words"] (Rz K as) f2 D) (GB:dQ P w K mg base bV 1 "within_bounds" ["words"] (Bg K as) f3 qz) (GW:MX P w K mg base 6 cR "take_words" ["self","words"] (IS K cR cS cJ cP cF) f4 tM):aX P w K mg base .aK 7 f fd ["self","line"] (LF K cR cS cJ cP cF):=by
 refine F.lK VP ?_;rintro cdv A outer st H _ Q E q nd ⟨rA,sA,di,dE,H0,L,h,i,c,b,rfl,R,O,lb,hc,k⟩;obtain⟨t1,h1⟩:=N.k1;obtain⟨t2,h2⟩:=N.k2;refine⟨_,(af (bu 2<|HQ .o eU)<|af (aL<|bR GN q .j bU<|ae (dG GL q aP<|ae .M ak)<|ae (aR .s h1 (v:=.int 1) .Y) ak)<|af (aL<|bR GN q .j bU<|ae (dG GB q aP<|ae .M ak)<|ae (aR .s h2 (v:=.int 2) .Y) ak)<|af (aL<|bR GW q .j bU<|ae .M ak)<|ap<|wR .j aD Jv),?_⟩;obtain⟨g,j,hp⟩:∃a r,cz kP b=a::r:=by
  cases e:cz kP b with
  |nil=>exact absurd e<|sJ _ _
  |cons a r=>exact⟨a,r,rfl⟩
 obtain⟨s,J⟩:=tX kP b;have m:=Vg G g j;unfold Bq at k;rw[RL b hp] at k;have M:gY (T<|sg b) (" ":Str)=(cz kP b).map λw=>T (sg w):=Iw (c:=kP) .aq .O b;have S:((" ":Str).length == 0)=false:=.aq
 refine⟨_,rfl,.Y,_,_,rfl,rfl,S,by rw[iD,xh,sizeLine_eq];omega,λwA Jf=>?_⟩;rw[M];have ew:((cz kP b).map λw=>T<|sg w).map V.str=gF (sg g::j.map sg):=by
  rw[hp];simp[gF]
 rw[ew];have s1:Same H (upd H wA<|.lst<|gF (sg g::j.map sg)):=Same.new Jf;have B:bh K (upd H wA<|.lst<|gF (sg g::j.map sg)) wA (gF (sg g::j.map sg)):=bh.of ai;have U:=R.lC s1;generalize upd H wA (.lst<|gF (sg g::j.map sg))=H1 at s1 B U;obtain⟨dx,oR⟩:=U.ob;refine⟨_,rfl,rA,dx,_,rfl,oR,rfl,_,rfl,wA,_,rfl,B,.m,?_,λl hl=>?_,λH2 C=>?_⟩
 ·rw[hp] at s;simp at s ⊢;omega
 ·have:∃p,p∈cz kP b/\l=sg p:=by
   rw[hp];rcases aH.mp hl with z|z
   ·exact⟨g,bf,z⟩
   ·obtain⟨p,W,q2⟩:=b6.mp z;exact⟨p,aV _ W,q2.symm⟩
  obtain⟨p,W,rfl⟩:=this;rw[xh];have:=J p W;omega
 have R2:=U.lC C;have X:=C _ _ oR;refine⟨rA,dx,_,_,1,i,rfl,X,rfl,λz=>?_,λz=>?_⟩
 ·cases d:dN g j with
  |none=>
   rw[d] at m;have m:bQ as (sg g::j.map sg)=false:=m;rw[m] at z;cases z
  |some l=>
   rw[d] at m k;obtain⟨_,Y⟩:=m;have k:match h.line l with
    |.error k=>Faults E H0 cF k i
    |.ok u=>∀H' Z,gN K cR cS cJ cP H0 H' rA sA di dE Z u (i+1) (c+1)->bw u->Q .non H':=k
   rw[NS] at k;have be:=NI Y;refine⟨_,rfl,rA,dx,_,rfl,X,rfl,_,rfl,wA,_,rfl,C.seq B,z,λH3 s3=>?_⟩;have R3:=R2.lC s3;have t:=s3 _ _ X;refine⟨rA,dx,_,_,2,i,rfl,t,rfl,λx=>?_,λx=>?_⟩
   ·rw[be] at x;rw[x,.be] at k;refine⟨_,rfl,rA,dx,_,rfl,t,rfl,_,rfl,rA,sA,di,dE,wA,H0,L,h,i,c,_,l,rfl,R3,O,(C.trans s3).seq B,Y,hc,?_⟩;cases n:wm h l with
    |error e=>
     rw[n] at k;exact k
    |ok u=>
     rw[n] at k;have k:∀H' Z,gN K cR cS cJ cP H0 H' rA sA di dE Z u (i+1) (c+1)->bw u->Q .non H':=k;intro H4 L4 R4;obtain⟨y,o⟩:=R4.ob;refine⟨_,rfl,rA,cR,y,_,_,rfl,o,I.R,I.Sm,rfl,_,_,rfl,rfl,y,_,o,.dc,?_⟩;have R5:=R4.Kc I o u rfl<|i+1;exact k _ L4 R5<|IR O Y n
   ·rw[be] at x;rw[x,.ah] at k;exact R3.faults k
 ·cases d:dN g j with
  |none=>
   rw[d] at k;exact R2.faults k
  |some l=>
   rw[d] at m;rw[m.1] at z;cases z
abbrev abN:Stmt:=inClass vZ 0
theorem abO:az .ae .ae (ao abN):=fscope
def Xh(K:ah)(cR cS cJ cP:Addr):Sp:=λvs H Q _=>∃(x dx:Addr) (H0:Hp),vs=[.aB]/\H x=some (.ins cR dx [])/\Same H0 H/\H0 x=none/\∀H' sA di dE L,gN K cR cS cJ cP H0 H' x sA di dE L jb 0 0->Q .non H'
theorem VQ{K:ah}{cS cJ cP:Addr}{H0 H:Hp}{sA a b dx:Addr}(s:Same H0 H)(f:H sA=some (.ins cS dx [("joints",.E),("pipes",.aM)]))(g:H a=some (.lst []))(l:H b=some (.lst []))(ne:a≠b)(o1:H0 sA=none)(o2:H0 a=none)(o3:H0 b=none):
  Raw K cS cJ cP H0 H sA ⟨a,b,[],[]⟩ (kD u5) u5.runs:=by
 refine⟨s,λc e=>?_,⟨dx,f⟩,g,l,rfl,rfl,λi j d h=>.b0,λk p r h=>.b0,?_,.m,.m⟩
 ·unfold foot Lay.lists at e;have:c=sA\/c=a\/c=b:=.dS
  rcases this with z|z|z<;>rw[z]<;>assumption
 ·unfold Lay.lists;simp[ne]
theorem Zw{f X:Addr}{fd Y:FuncData}(F:d8 K "__init__" "Reader.__init__" abN f fd)(g:.by)(N:kF mg)(Z:Bj P w K mg base 1 "System" cS .ae (RS cS) X Y):aX P w K mg base bV 3 f fd .ae (Xh K cR cS cJ cP):=by
 refine F.ok1 abO ?_;rintro cdv A outer st H _ Q E hr nd ⟨x,dx,H0,rfl,u,y,i,k⟩;obtain⟨tf,hf⟩:=N.fr;refine⟨_,(af (cO .j (yB Z hr) rfl)<|af (cO .j AI rfl)<|af (cO .j AI rfl)<|af (cO .j (aR .s hf (v:=.int 50) .Y) rfl)<|af (cO .j rq rfl)<|ap<|cO .j aD rfl),?_⟩;intro sA sd j D nsd;refine⟨sA,sd,rfl,ai,λH1 a b G l m bt I J L=>⟨rfl,?_⟩⟩;have na:a≠sA:=λz=>by rw[z,ai] at l;cases l
 have nb:b≠sA:=λz=>by rw[z,ai] at m;cases m
 rw[aq na] at l;rw[aq nb] at m;have M:a≠sd:=λz=>by rw[z,ai] at l;cases l
 have O:b≠sd:=λz=>by rw[z,ai] at m;cases m
 rw[aq M] at l;rw[aq O] at m;have s1:Same H H1:=λc o e=>bt c o (aC e j) (by rw[aq<|aC e j,aq<|aC e D];exact e);have S:=s1 _ _ u;have r:x≠sA:=aC u j;have s:x≠a:=aC u l;have t:x≠b:=aC u m;refine⟨_,rfl,x,cR,dx,_,rfl,S,g.R,g.gg,.O,?_⟩;intro di h;have B:x≠di:=λz=>by rw[<-z,ai] at h;cases h
 rw[aq<|aF B] at h;refine⟨_,rfl,x,cR,dx,_,rfl,by rw[aq B,ai],g.R,g.tW,.dJ,?_⟩;intro dE d;have C:x≠dE:=.eT
 rw[aq<|aF C] at d;have T:di≠dE:=.eT
 rw[aq<|aF T,aq<|aF C] at d;refine⟨_,rfl,x,cR,dx,_,rfl,by rw[aq C,ai],g.R,g.J8,.d6,?_⟩;refine⟨_,rfl,x,cR,dx,_,rfl,ai,g.R,g.yC,(by show 3<1000;decide),?_⟩;refine⟨_,rfl,x,cR,dx,_,rfl,ai,g.R,g.gM,(by show 4<1000;decide),?_⟩;refine⟨_,rfl,x,cR,dx,_,rfl,ai,g.R,g.Sm,(by show 5<1000;decide),?_⟩;rw[g9,g9,g9];have p:Same H0 H1:=y.trans s1;have U:H0 di=none:=p.free h;have V:H0 dE=none:=p.free d;have q:∀c o,c≠x->H1 c=.i->(upd (upd (upd (upd H1 x<|.ins cR dx [("system",.al)]) di<|.dK []) x<|.ins cR dx [("system",.al),("joint_names",.ref di)]) dE<|.dK []) c=.i:=λc o W e=>by
  rw[aq<|aC e d,aq W,aq<|aC e h,aq W];exact e
 refine k _ sA di dE ⟨a,b,[],[]⟩ ⟨⟨dx,ai⟩,⟨[],?_,λn _=>rfl,bj _⟩,⟨[],?_,λn _=>rfl,bj _⟩,?_,T,i,U,V,bj _⟩
 ·rw[aq<|aF B,aq T,aq<|aF B,ai]
 ·rw[aq<|aF C,ai]
 ·refine VQ (dx:=sd) ?_ ?_ ?_ ?_ G (y.free j) (y.free l)<|y.free m
  ·exact((((p.put i).put U).put i).put V).put i
  ·rw[aq<|aF r];exact q _ _ (aF r) I
  ·rw[aq<|aF s];exact q _ _ (aF s) J
  ·rw[aq<|aF t];exact q _ _ (aF t) L
theorem SJ{h:bg}(O:bw h)(R:vt h)(c:h.here=none):iM h.sys:=by
 refine⟨O.inr,O.one,λj d=>?_,O.nj,O.nr,O.kd,R.small O,λr e=>R.aaa O e⟩;have t:=O.two j d;rw[c] at t;have t:(.bI).length=2:=by simpa using t
 match hm:.bI,t with
 |[a,b],_=>exact⟨a,b,rfl⟩
theorem Kd{b:aE}{l:ip}(h:mh b=some l):∀d n,l=.go d n->d<18:=by
 rintro d n rfl;unfold mh at h;split at h
 ·simp only[eD] at h;(repeat' (split at h));all_goals first|cases h|(rw[oI] at h;obtain⟨_,_,h⟩:=h;cases h)
 ·split at h
  ·split at h
   ·rename_i h1 _;cases h;obtain⟨h1,_⟩:=Er.mp h1;exact h1
   ·cases h
  ·cases h
 ·split at h
  ·split at h
   ·simp only[eD] at h;split at h<;>cases h
   ·cases h
  ·cases h
 ·cases h
abbrev Xi:Stmt:=top 90
theorem Zx:az ["numbers","lines","rest","reader","line"] ["numbers"] (ao Xi):=fscope
def qc(b:aE):.e:=b.map oN
def SK(K:ah)(cS cJ cP cF:Addr):Sp:=λvs H Q E=>∃(nA:Addr) (b:aE),vs=[.ref nA]/\bh K H nA (aW<|qc b)/\b.length<=65536/\
 match oo b with
 |.error e=>Faults E H cF e.kind e.line
 |.ok s=>∀H' sA L,eZ K cS cJ cP H' sA s L->iM s->(∀b,b∈L.lists->.aR)->.Q->Q .al H'
theorem Ke{α:Type}(l:.aP)(d:α)(ne:l≠[]):l[l.length-1]?=some (l.getLastD d):=by
 have a:0<l.length:=uq.mpr ne;rw[List.getLastD_eq_getLast?,List.getLast?_eq_getElem?];rw[bo<|by omega];rfl
theorem VR{f f1 f2 f3 f4:Addr}{fd eX Y qz tM:FuncData}(F:d8 K "read_text" "read_text" Xi f fd)(O:.by)(N:kF mg)(GT:dQ P w K mg base bV 1 "text_of" ["numbers"] (Rr K) f1 eX)(GR:Bj P w K mg base 3 "Reader" cR .ae (Xh K cR cS cJ cP) f2 Y)
  (GL:MX P w K mg base 7 cR "take_line" ["self","line"] (LF K cR cS cJ cP cF) f3 qz) (GN:MX P w K mg base 3 cR "need" .cZ (mT cR cF) f4 tM):aX P w K mg base .aK 8 f fd ["numbers"] (SK K cS cJ cP cF):=by
 refine F.lK Zx ?_;rintro cdv A outer st H _ Q E I nd ⟨nA,b,rfl,hN,lb,k⟩;obtain⟨t1,h1⟩:=N.k1;obtain⟨t9,h9⟩:=N.k9;refine⟨_,(af (bu 1<|HQ (dG GT I aP<|ae .j ak) eU)<|af (bu 2<|PR fV zo FK PV<|pv 1)<|af (bu 3<|yB GR I)<|af (iO FX rfl (cB<|pv 1) (bX 4)<|ap<|aL<|bR GL I .aj bU<|ae .ay ak)<|af (aL<|bR GN I .aj bU<|ae (fj fo .M eU<|a0 _)<|ae (aR .s h1 (v:=.int 1) .Y) ak)<|af (aL<|bR GN I .aj bU<|ae (nM<|mI<|aw .aj rfl)<|ae (aR .s h9 (v:=.int 9) .Y) ak)<|ap<|aJ<|aw .aj rfl),?_⟩;obtain⟨Z,J⟩:=tX qO b;have ne:=sJ qO b;unfold oo at k;dsimp only at k;have esg:(qc b).map Iu=sg b:=by unfold qc sg;rw[c8];rfl
 refine⟨_,rfl,nA,_,rfl,hN,λn S=>?_,by unfold qc;rw[au];exact lb,λH1 s1=>?_⟩
 ·obtain⟨u,_,rfl⟩:=b6.mp S;exact u.toNat_lt
 rw[esg];have esp:gY (T<|sg b) ("\n":Str)=(cz qO b).map λw=>T (sg w):=Iw (c:=qO) .aq .O b;have hb0:(("\n":Str).length == 0)=false:=.aq
 refine⟨ .Y,_,_,rfl,rfl,hb0,by rw[iD,xh,sizeLine_eq];omega,λm Ze=>?_⟩;rw[esp];generalize hls:cz qO b=ls at Z J ne k;have ew:(ls.map λw=>T<|sg w).map V.str=ls.map λw=>V.str (T<|sg w):=by rw[c8];rfl
 rw[ew];have s2:Same H1 (upd H1 m<|.lst<|ls.map .dy):=Same.new Ze;have M:(upd H1 m<|.lst<|ls.map .dy) m=some (.lst<|ls.map .dy):=ai;have t:(ls.map .dy)[(ls.map .dy).length-1]?=some (.str<|T<|sg<|ls.getLastD []):=by
  rw[au,b8,Ke ls [] ne];rfl
 refine⟨_,rfl,.inl ⟨rfl,_,bh.of M⟩,m,_,_,rfl,rfl,M,t,?_⟩;rw[g9,ER.symm];have U:Same H (upd H1 m<|.lst<|ls.dropLast.map .dy):=s1.trans<|Same.new Ze;have B:(upd H1 m<|.lst<|ls.dropLast.map .dy) m=some (.lst<|ls.dropLast.map .dy):=ai;generalize upd H1 m (.lst<|ls.dropLast.map .dy)=H3 at U B;intro rA rd N4 hrd nrd;refine⟨rA,rd,H3,rfl,ai,((Same.refl H3).put hrd).put N4,N4,λH4 sA di dE L4 R4=>⟨rfl,?_⟩⟩;have adi:ls.dropLast.length=ls.length-1:=.m
 have W:∀{k i:Nat},Faults E H cF k i->Faults E H3 cF k i:=λhf H' d s e=>hf H' d (U.trans s) e;refine⟨_,rfl,m,rfl,⟨_,bh.of (R4.raw.same _ _ B)⟩,iB (K:=K) (a:=m) (xs:=ls.dropLast.map λw=>V.str (T (sg w))) (λi σ H'=>∃(h:bg) (L:Lay) (v4:.aw),σ=[some (.ref nA),some (.ref m),some (.str (T (sg (ls.getLastD [])))),some (.ref rA),v4]/\i<=ls.dropLast.length/\
   gN K cR cS cJ cP H3 H' rA sA di dE L h i i/\bw h/\vt h/\jK ls.dropLast 0 jb=jK (ls.dropLast.drop i) i h)
  ⟨_,L4,none,rfl,bj _,R4,bw.start,vt.start,rfl⟩ (λi σ H' _ ⟨_,_,_,_,_,j,_⟩=>bh.of (j.raw.same _ _ B)) ?_ ?_⟩
 ·rintro i x σ H5 C ⟨h,L5,v4,rfl,hi,j,X,D,g⟩;rw[b8] at C;cases o:ls.dropLast[i]? with
  |none=>rw[o] at C;cases C
  |some p=>
   rw[o] at C;have C:V.str (T<|sg p)=x:=aI C;subst C;have il:=(aB.mp o).1;have dr:ls.dropLast.drop i=p::ls.dropLast.drop (i+1):=by
    rw[uj il,(aB.mp o).2]
   have bl:p.length<=65536:=by
    have:=J p<|(um _).subset<|bc o;omega
   obtain⟨dx,r⟩:=j.ob;refine⟨_,rfl,rA,dx,_,rfl,r,rfl,_,rfl,rA,sA,di,dE,H3,L5,h,i,i,p,rfl,j,X,bl,.h,?_⟩;have el:jK (p::ls.dropLast.drop (i+1)) i h=match mh p with
    |none=>.error ⟨1,i⟩
    |some l=>match h.line l with
     |.error k=>.error ⟨k,i⟩
     |.ok u=>jK (ls.dropLast.drop<|i+1) (i+1) u:=rfl
   rw[dr,el] at g;unfold Bq;cases G:mh p with
   |none=>
    rw[G] at g;have g:jK ls.dropLast 0 jb=.error ⟨1,i⟩:=g;rw[g] at k;exact W k
   |some l=>
    rw[G] at g;have g:jK ls.dropLast 0 jb=match h.line l with
     |.error k=>.error ⟨k,i⟩
     |.ok u=>jK (ls.dropLast.drop<|i+1) (i+1) u:=g
    show match h.line l with
     |.error k=>Faults E H3 cF k i
     |.ok u=>∀H' L',gN K cR cS cJ cP H3 H' rA sA di dE L' u (i+1) (i+1)->bw u->_
    cases hl:h.line l with
    |error e=>
     rw[hl] at g;have g:jK ls.dropLast 0 jb=.error ⟨e,i⟩:=g;rw[g] at k;exact W k
    |ok u=>
     rw[hl] at g;intro H6 L6 R6 O6;exact⟨u,L6,_,rfl,il,R6,O6,MQ (Kd G) X D hl,g⟩
 ·rintro σ H5 ⟨h,L5,v4,rfl,hi,j,X,D,g⟩;rw[au] at j g;rw[uy] at g;have g:jK ls.dropLast 0 jb=.ok h:=g;rw[g] at k;have k:match (if ls.getLastD []≠[] then(.error ⟨1,ls.length-1⟩:Except Pipe.Fault aM) else if h.here.isSome=true then .error ⟨9,ls.length-1⟩ else .ok h.sys) with
   |.error e=>Faults E H cF e.kind e.line
   |.ok s=>∀H' sA L,eZ K cS cJ cP H' sA s L->iM s->(∀b,b∈L.lists->.aR)->.Q->Q .al H':=k
  rw[adi] at j;obtain⟨dx,r⟩:=j.ob;have he:("":Str)=T []:=.aq
  refine⟨_,rfl,rA,dx,_,rfl,r,rfl,_,rfl,rfl,rA,dx,_,_,1,ls.length-1,rfl,r,rfl,λz=>?_,λz=>?_⟩
  ·have z:=V.str.inj<|of_decide_eq_true z;rw[he] at z;have z:ls.getLastD []=[]:=yI.mp<|Ir z;rw[if_neg λq=>q z] at k;refine⟨_,rfl,rA,dx,_,rfl,r,rfl,_,rfl,rA,cR,dx,_,_,rfl,r,O.R,O.gM,rfl,rA,dx,_,_,9,ls.length-1,rfl,r,rfl,λy=>?_,λy=>?_⟩
   ·have y:decide .di=true:=y;rw[iE] at y;have S:h.here=none:=by simpa using y
    rw[S,.be] at k;exact⟨_,rfl,rA,cR,dx,_,_,rfl,r,O.R,O.gg,rfl,k H5 sA L5 j.raw.sys (SJ X D S) (λb hb=>U.free<|j.raw.off b<|aV _<|dF _ hb)<|U.trans j.raw.same⟩
   ·have y:decide .di=false:=y;rw[iE] at y;have hs:h.here.isSome=true:=by cases q:h.here with|none=>rw[q] at y;cases y|some _=>rfl
    rw[if_pos hs] at k;exact j.faults<|W k
  ·have z:¬V.str (T<|sg<|ls.getLastD [])=V.str ("":Str):=of_decide_eq_false z;rw[he] at z;have z:ls.getLastD []≠[]:=λq=>z (by rw[q];rfl);rw[if_pos z] at k;exact j.faults<|W k
end
abbrev pF(y:Addr)(H H':Hp):Prop:=∀b o,b≠y->.dU
theorem pF.put{y:Addr}{H:Hp}{o:HO}:pF y H (upd H y o):=λb u nb e=>by rw[aq nb];exact e
theorem wo{H H':Hp}{y C a:Addr}{fs:.az}(c:H y=some (.ins C a fs))(u:pF y H H'):cE H H':=λb o _ d _ e=>u b o (λz=>by rw[z,c] at e;cases e;exact d _ _ _ rfl) e
theorem qd{H H':Hp}{y C b a:Addr}{fs:.az}{xs:.r}(c:H y=some (.ins C b fs))(u:pF y H H')(e:H a=.aZ):H' a=.aZ:=u a _ (λz=>by rw[z,c] at e;cases e) e
theorem wq{H H':Hp}{y C d a D b:Addr}{fs c:.az}(f:H y=some (.ins C d fs))(u:pF y H H')(n:C≠D)(e:H a=some (.ins D b c)):H' a=some (.ins D b c):=u a _ (λz=>by rw[z,f] at e;cases e;exact n rfl) e
theorem LG{K:ah}{H H':Hp}{y C c a:Addr}{fs:.az}{xs:.r}(b:H y=some (.ins C c fs))(u:pF y H H')(q:.b2):bh K H' a xs:=by
 rcases q with(q|⟨o,q⟩)|q
 ·exact .inl<|.inl<|qd b u q
 ·exact .inl<|.inr ⟨o,u _ _ (λz=>by rw[z,b] at q;cases q) q⟩
 ·exact .inr q
structure CA where
 S:Addr
 J:Addr
 P:Addr
 H:Addr
 W:Addr
 C:Addr
 F:Addr
 R:Addr
abbrev Zy(K:ah)(c:CA)(H:Hp)(sA:Addr)(s:aM)(L:Lay):Prop:=eZ K c.S c.J c.P H sA s L
structure ly(K:ah)(c:CA):Prop where
 kl:pH K c.S c.J c.P
 kh:WY K c.H
 w:x6 K c.W
 wy:bM K c.W "system"
 VS:bM K c.W "heights"
 l:x6 K c.C
 VT:bM K c.C "numbers"
 Br:bM K c.C "done"
 ws:c.W≠c.S
 wj:c.W≠c.J
 wp:c.W≠c.P
 wh:c.W≠c.H
 ls:c.C≠c.S
 lj:c.C≠c.J
 lp:c.C≠c.P
 lh:c.C≠c.H
 lw:c.C≠c.W
section
variable{K:ah}{c:CA}{H H':Hp}{s:aM}
theorem eZ.off{cS cJ cP sA:Addr}{L:Lay}{y C e:Addr}{fs:.az}(h:.bF)(c:H y=some (.ins C e fs))(f:C≠cS)(g:C≠cJ)(l:C≠cP)(u:pF y H H'):eZ K cS cJ cP H' sA s L where
 ob:=let ⟨dx,x⟩:=h.ob;⟨dx,wq c u f x⟩
 jl:=qd c u h.jl
 ql:=qd c u h.ql
 jn:=h.jn
 pn:=h.pn
 js:=λi j x a b=>by
  obtain⟨⟨dx,m,h1,h2⟩,n,o,q,t,v⟩:=h.js i j x a b;exact⟨⟨dx,m,wq c u g h1,h2.stay<|wo c u⟩,qd c u n,o,qd c u q,t,λi w d x y=>(v i w d x y).stay<|wo c u⟩
 ps:=λk p r a b=>by
  obtain⟨dx,dA,h1,h2⟩:=h.ps k p r a b;exact⟨dx,dA,wq c u l h1,h2.stay<|wo c u⟩
 A5:=h.A5
 AY:=h.AY
 DT:=h.DT
theorem BN.off{cH hA c d:Addr}{R:List bz}{ks:.e}{y C e:Addr}{fs:.az}(h:BN K cH H hA s c d R ks)(a:H y=some (.ins C e fs))(n:C≠cH)(u:pF y H H'):BN K cH H' hA s c d R ks:=by
 obtain⟨dx,o⟩:=h.ob;obtain⟨as,f,hp⟩:=h.rs;exact⟨⟨dx,wq a u n o⟩,⟨as,qd a u f,Paired.wK hp λb x q=>q.stay<|wo a u⟩,qd a u h.kl,h.ok⟩
def yf(K:ah)(c:CA)(ls:.B)(H:Hp)(x:Addr)(s:aM):Prop:=∃dx sA hA L a b R ks,ls=a::b::L.lists/\H x=some (.ins c.W dx [("system",.al),("heights",.ref hA)])/\Zy K c H sA s L/\iM s/\BN K c.H H hA s a b R ks
theorem yf.same{x:Addr}{ls:.B}(h:yf K c ls H x s)(e:.Q):yf K c ls H' x s:=by
 obtain⟨dx,sA,hA,L,a,b,R,ks,d,h1,h2,f,g⟩:=h;exact⟨dx,sA,hA,L,a,b,R,ks,d,e _ _ h1,h2.same e,f,g.same e⟩
theorem yf.off{x y b:Addr}{ls:.B}{fs:.az}(k:ly K c)(h:yf K c ls H x s)(a:H y=some (.ins c.C b fs))(u:pF y H H'):yf K c ls H' x s:=by
 obtain⟨dx,sA,hA,L,d,e,R,ks,f,h1,h2,g,i⟩:=h;exact⟨dx,sA,hA,L,d,e,R,ks,f,wq a u k.lw h1,eZ.off h2 a k.ls k.lj k.lp u,g,i.off a k.lh u⟩
theorem yf.lst{x g:Addr}{ls:.B}{xs:.r}{o:HO}(h:yf K c ls H x s)(D:H g=.aZ)(n:g∉ls):yf K c ls (upd H g o) x s:=by
 obtain⟨dx,sA,hA,L,f,t,R,ks,rfl,h1,h2,F,v⟩:=h;have i:∀{a C d fs},H a=some (.ins C d fs)->(upd H g o) a=some (.ins C d fs):=λe=>by rw[aq (λz=>by rw[z,D] at e;cases e)];exact e
 have l:∀{a ys},a∈f::t::L.lists->H a=some (.lst ys)->(upd H g o) a=some (.lst ys):=λ{a ys} m e=>by rw[aq (λz=>by rw[z] at m;exact n m)];exact e
 have u:=jZ (o:=o) D;have m:∀{a},a∈L.lists->a∈f::t::L.lists:=λq=>.tail _<|.tail _ q;obtain⟨G,I⟩:=h2.ob;obtain⟨J,M⟩:=v.ob;obtain⟨as,N,hp⟩:=v.rs;refine⟨dx,sA,hA,L,f,t,R,ks,rfl,i h1,⟨⟨G,i I⟩,l (m<|.head _) h2.jl,l (m<|.tail _<|.head _) h2.ql,h2.jn,h2.pn,λk j y a b=>?_,λk p r a b=>?_,h2.A5,h2.AY,h2.DT⟩,F,⟨⟨J,i M⟩,⟨as,l (.head _) N,Paired.wK hp λb y q=>q.stay u⟩,l (.tail _<|.head _) v.kl,v.ok⟩⟩
 ·obtain⟨⟨w,O,A,B⟩,P,Q,S,T,U⟩:=h2.js k j y a b;have E:∀b,b=j.pL\/b=j.lL->b∈f::t::L.lists:=λb W=>m (.tail _<|.tail _<|gP.mpr ⟨j,bc a,by simpa using W⟩);exact⟨⟨w,O,i A,B.stay u⟩,l (E _<|.inl rfl) P,Q,l (E _<|.inr rfl) S,T,λi X d x y=>(U i X d x y).stay u⟩
 ·obtain⟨w,dA,A,B⟩:=h2.ps k p r a b;exact⟨w,dA,i A,B.stay u⟩
end
abbrev si:Stmt:=top 110
abbrev sWI:Stmt:=inClass si 0
abbrev Xj:Stmt:=inClass si 1
abbrev SL:Stmt:=inClass si 2
abbrev SM:Stmt:=inClass si 3
abbrev VU:Stmt:=inClass si 4
abbrev abP:Stmt:=inClass si 5
abbrev SN:Stmt:=inClass si 6
abbrev abQ:Stmt:=inClass si 7
abbrev SO:Stmt:=inClass si 8
abbrev SQ:Stmt:=inClass si 9
abbrev Eg:Stmt:=inClass si 10
theorem adj:az .ae .ae (ao sWI):=fscope
theorem Zz:az .dV .dV (ao Xj):=fscope
theorem VW:az ["self","numbers","system"] ["self","numbers"] (ao SL):=fscope
theorem VX:az .cr .cr (ao SM):=fscope
abbrev ZA:.L:=["self","joint","still","pipe"]
theorem SR:az ZA ["self","joint"] (ao VU):=fscope
theorem abR:az .dD .dD (ao abP):=fscope
theorem VY:az ["self","joint","shut","found"] ["self","joint","shut"] (ao SN):=fscope
theorem abS:az ["self","pipe","shut","levels"] ["self","pipe","shut"] (ao abQ):=fscope
theorem VZ:az ["self","shut","levels"] .cr (ao SO):=fscope
theorem V0:az .dD .dD (ao SQ):=fscope
abbrev Kf:.L:=["self","shut","rising","k","joint"]
theorem Eh:az Kf .cr (ao Eg):=fscope
def upB(l:.e):Bool:=(a8<|l.length-1).all λk=>decide (l.getD k 0<l.getD (k+1) 0)
theorem xq(s:aM)(l:.e):iX s l=(upB l&&l.all λj=>.aF == 1):=by
 unfold iX upB;rw[Bool.and_comm];congr 1;rw[mr,eC,eC];constructor
 ·intro h k hk;have:=h (k+1) (dU.mpr (by have:=dU.mp hk;omega));simpa using this
 ·intro h i hi;cases i with
  |zero=>rfl
  |succ i=>
   have:=h i (dU.mpr (by have:=dU.mp hi;omega));simpa using this
theorem sj{s:aM}{l:.e}(h:iX s l=true):∀j,j∈l->.aF=1:=λj a=>by
 rw[xq,cn] at h;have:=eC.mp h.2 j a;simpa using this
def Kg(K:ah)(c:CA):Sp:=λvs H Q _=>∃x dx fs sA s L,vs=[.aB,.al]/\H x=some (.ins c.W dx fs)/\(fs=[]\/∃u v,fs=([("system",u),("heights",v)]:.az))/\Zy K c H sA s L/\iM s/\∀H' ls,yf K c ls H' x s->(∀b,b∈ls->b∈L.lists\/.aR)->pF x H H'->(∃dx hA,H' x=some (.ins c.W dx [("system",.al),("heights",.ref hA)]))->Zy K c H' sA s L->Q .non H'
def abT(K:ah)(c:CA):Sp:=λvs H Q _=>∃x dx,vs=[.aB]/\H x=some (.ins c.W dx [])/\∀H' ls,yf K c ls H' x oy->(∀b,b∈ls->.aR)->pF x H H'->Q .non H'
def LH(K:ah)(c:CA):Sp:=λvs H Q E=>∃x nA s b ls,vs=[.aB,.ref nA]/\yf K c ls H x s/\bh K H nA (aW<|qc b)/\b.length<=65536/\
 match oo b with
 |.error e=>Faults E H c.F e.kind e.line
 |.ok u=>∀H' l ls,yf K c ls H' x u->(∀b,b∈ls->.aR)->H' l=some (.lst<|aW<|FB u)->pF x H H'->Q .aH H'
def Asks(K:ah)(c:CA)(cV:Addr)(E:XK)(H:Hp)(x a:Addr)(s:aM)(shut:.e)(k:Prop):Prop:=(∃ls,yf K c ls H x s)/\bh K H a (aW shut)/\shut.length<=30000/\(iX s shut=false->hZ E H cV 1)/\(iX s shut=true->k)
def sM(K:ah)(c:CA)(cV:Addr):Sp:=λvs H Q E=>∃x a s shut,vs=[.aB,.E]/\Asks K c cV E H x a s shut (∀H',.Q->Q .non H')
def Row(H:Hp)(Q:VK)(l:.e):Prop:=∀H' r,H' r=some (.lst<|aW l)->.Q->Q (.ref r) H'
def Lnt(H:Hp)(Q:VK)(a:bz):Prop:=∀H' r,H' r=some (.lst [.int a.p,.int a.q])->.Q->Q (.ref r) H'
def LJ(K:ah)(c:CA)(cV:Addr):Sp:=λvs H Q E=>∃x a s shut,vs=[.aB,.E]/\Asks K c cV E H x a s shut (Row H Q<|dX s shut)
def Xk(K:ah)(c:CA)(cV:Addr):Sp:=λvs H Q E=>∃x j s,vs=[.aB,.int .aL]/\(∃ls,yf K c ls H x s)/\(.aF≠1->hZ E H cV 1)/\(.aF=1->Row H Q ((dX s []).filter λk=>!(dX s [j]).contains k))
def Ei(K:ah)(c:CA)(cN:Addr):Sp:=λvs H Q E=>∃x p s,vs=[.aB,.int (p:Nat)]/\(∃ls,yf K c ls H x s)/\(s.runs.length<=p->hZ E H cN 4)/\(p<s.runs.length->Q .non H)
def Xl(K:ah)(c:CA)(cN cT cH:Addr):Sp:=λvs H Q E=>∃x p s,vs=[.aB,.int (p:Nat)]/\(∃ls,yf K c ls H x s)/\(s.runs.length<=p->hZ E H cN 4)/\(p<s.runs.length->(12<(eE s).length->hZ E H cT 2)/\((eE s).length<=12->mx s p=none->hZ E H cH 3)/\((eE s).length<=12->∀l,mx s p=some l->Row H Q l))
def LK(K:ah)(c:CA)(cV cJ cL:Addr):Sp:=λvs H Q E=>∃x j a s shut,vs=[.aB,.int .aL,.E]/\Asks K c cV E H x a s shut ((s.joints.length<=j->hZ E H cJ 4)/\(.a7->match (s.levels shut).getD j none with
 |some h=>Lnt H Q h
 |none=>hZ E H cL 3))
def Xm(K:ah)(c:CA)(cV cN:Addr):Sp:=λvs H Q E=>∃x p a s shut,vs=[.aB,.int (p:Nat),.E]/\Asks K c cV E H x a s shut ((s.runs.length<=p->hZ E H cN 4)/\∀w,s.wetOf shut p=some w->Lnt H Q w)
def LL(K:ah)(c:CA)(cV:Addr):Sp:=λvs H Q E=>∃x a s shut,vs=[.aB,.E]/\Asks K c cV E H x a s shut (Lnt H Q<|s.leftOf shut)
section
variable{P:Program}{w:World}{K:ah}{mg:.aa}{base:Heap}{c:CA}{cV cN cT ZC ZD cL:Addr}
theorem SU:iM oy:=by
 refine⟨λr a=>(by cases a),λj h=>?_,λj h=>?_,bj _,bj _,λj=>?_,λj=>?_,λr a=>(by cases a)⟩
 ·have:oy.kind j=0:=rfl;omega
 ·have:oy.kind j=0:=rfl;omega
 ·exact bj _
 ·exact⟨(show(0:Int).natAbs<=1000000000000 by decide),(show(0:Int).natAbs<=1000000000000 by decide)⟩
theorem V1{f j:Addr}{fd C:FuncData}(F:d8 K "hold" "Water.hold" Xj f fd)(k:ly K c)(D:Bj P w K mg base 4 "Heights" c.H .dV (W1 K c.S c.J c.P c.H) j C):aX P w K mg base bV 6 f fd .dV (Kg K c):=by
 refine F.ok1 Zz ?_;rintro cdv A outer st H _ Q E G nd ⟨x,dx,fs,sA,s,L,rfl,r,t,hS,O,I⟩;have y:fs.length<1000/\(eV "system" .al fs).length<1000:=by
  rcases t with z|⟨u,v,z⟩<;>rw[z]
  ·exact⟨ .O,.dJ⟩
  ·exact⟨ .d6,.d6⟩
 refine⟨_,(af (cO .j .o rfl)<|ap<|cO .j (D9 D G<|ae .o ak) rfl),?_⟩;refine⟨_,rfl,_,rfl,x,c.W,dx,_,rfl,r,k.w,k.wy,y.1,?_⟩;have d:=eZ.off hS r k.ws k.wj k.wp<|pF.put (o:=.ins c.W dx<|eV "system" .al fs);have x1:(upd H x<|.ins c.W dx<|eV "system" .al fs) x=some (.ins c.W dx<|eV "system" .al fs):=ai;have l:pF x H (upd H x<|.ins c.W dx<|eV "system" .al fs):=pF.put;generalize upd H x (.ins c.W dx<|eV "system" .al fs)=H1 at d x1 l;refine⟨_,rfl,λa M B m N=>⟨a,M,sA,s,L,H1,rfl,((Same.refl H1).put m).put B,B,ai,d,O,λH2 T U R ks X j Y n=>⟨rfl,?_⟩⟩⟩;have x2:=n _ _ x1;have p:=d.same n;refine⟨_,rfl,x,c.W,dx,_,rfl,x2,k.w,k.VS,y.2,?_⟩;have Z:eV "heights" .E (eV "system" .al fs)=([("system",V.ref sA),("heights",V.ref a)]:.az):=by rcases t with z|⟨u,v,z⟩<;>rw[z]<;>rfl
 have g:=eZ.off p x2 k.ws k.wj k.wp<|pF.put (o:=.ins c.W dx<|eV "heights" .E<|eV "system" .al fs);have h:=X.off x2 k.wh<|pF.put (o:=.ins c.W dx<|eV "heights" .E<|eV "system" .al fs);rw[Z] at g h ⊢;have fr:∀b,H1 b=none->.aR:=λb e=>by
  by_cases z:b=x
  ·rw[z,x1] at e;cases e
  ·cases q:H b with
   |none=>rfl
   |some o=>rw[l b o z q] at e;cases e
 refine I _ _ ⟨dx,sA,a,L,T,U,R,ks,rfl,ai,g,O,h⟩ (λb i=>?_) (λb o nb e=>by rw[aq nb];exact n _ _<|l b o nb e) ⟨dx,a,ai⟩ g;rcases aH.mp i with z|i
 ·exact .inr<|fr b (by rw[z];exact j)
 ·rcases aH.mp i with z|i
  ·exact .inr<|fr b (by rw[z];exact Y)
  ·exact .inl i
theorem abU{f t u:Addr}{fd v h:FuncData}(F:d8 K "__init__" "Water.__init__" sWI f fd)(k:ly K c)(y:Bj P w K mg base 1 "System" c.S .ae (RS c.S) t v)(B:iQ P w K mg base bV 6 c.W "hold" .dV (Kg K c) u h):aX P w K mg base bV 7 f fd .ae (abT K c):=by
 refine F.ok1 adj ?_;rintro cdv A outer st H _ Q E r U ⟨x,dx,rfl,s,C⟩;refine⟨_,(ap<|aL<|bR B r .j aP<|ae (yB y r) ak),?_⟩;refine⟨_,rfl,x,dx,_,rfl,s,rfl,λa g l d D=>⟨a,g,rfl,ai,λH1 j q m G I J L M N=>⟨rfl,?_⟩⟩⟩;have new:Same H (upd (upd H g<|.own a) a<|.ins c.S g []):=((Same.refl H).put d).put l;have n:=new.free G;have p:=new.free I;have s1:Same H H1:=λb o e=>J b o (aC e l) (by rw[aq<|aC e l,aq<|aC e d];exact e);refine⟨x,dx,[],a,oy,⟨j,q,[],[]⟩,rfl,s1 _ _ s,.ar,⟨⟨g,L⟩,M,N,rfl,rfl,(λi j x a=>by simp at a),(λi j x a=>by simp at a),?_,.nil,.nil⟩,SU,λH2 ls O fr R _ _=>C H2 ls O (λb T=>?_) λb o nb e=>R b o nb<|s1 b o e⟩;rotate_left
 ·rcases fr b T with z|z
  ·have z:b∈[j,q]:=z;rcases aH.mp z with z|z
   ·rw[z];exact n
   ·rw[yK.mp z];exact p
  ·exact s1.free z
 show([j,q]:.B).Nodup;simp[m]
theorem SV{f f1 f2:Addr}{fd eX q:FuncData}{cd:ClassData}(F:d8 K "need_valves" "Water.need_valves" Eg f fd)(B:nG mg)(k:ly K c)(GV:iQ P w K mg base bV 1 c.S "has_valve" .cn (Sd K c.S c.J c.P) f1 eX)(X:D0 P w K mg base "NotValves" cV 1 f2 q cd):aX P w K mg base .aK 4 f fd .cr (sM K c cV):=by
 refine F.lK Eh ?_;rintro cdv A outer st H _ Q E M nd ⟨x,n,s,shut,rfl,⟨ls,dx,sA,hA,L,rL,kL,R,ks,els,hx,hS,O,hT⟩,o,ll,b,p⟩;refine⟨_,(af (bu 2 (df (wV rfl) .s B.all xf (ae (gH rfl Eh.nd (wQ .s B.range (ae (dm pN (dz B.len .o) aD) ak)) ((bO (by(show iP Kf (ao Eg) _ _=true);decide +kernel))) (own:=[("k",3)]) (λs H C cl l=>bX 3) (λs H C cl l=>eB)
   (λs H C cl l=>fj ny (nz (r:=AC K) kE .o .aj .aX) (nz (r:=AC K) kE .o (dm mK .aj aD) .aX) .aN)) ak))) (ap (cx (Hm (tF (ko .M)) (Du (tF (ko (df (wV rfl) .s B.all xf (ae (gH rfl Eh.nd (cB .o) ((bO (by(show iP Kf (ao Eg) _ _=true);decide +kernel))) (own:=[("joint",4)]) (λs H C cl l=>bX 4) (λs H C cl l=>eB)
   (λs H C cl l=>RZ GV M (jj (K:=K) rfl .j rfl) aP (ae .ay ak))) ak)))))).pt (ap (lR X M bU)) bE))),?_⟩
 rw[xq] at b p;have t:((aW shut).length:Int)-1=(shut.length:Int)-1:=by rw[au]
 have en:((shut.length:Int)-1).toNat=shut.length-1:=.h
 refine⟨_,rfl,n,_,rfl,.inl o,_,_,rfl,rfl,_,rfl,(by rw[t];omega),(by rw[t];omega),λD hD=>?_⟩;rw[t,en];refine eN (λi=>some<|V.bl<|decide (shut.getD i 0<shut.getD (i+1) 0)) Ih hD ?_ ?_ ?_
 ·rw[sizeLine_eq];omega
 ·rintro i y H5 Py Pn hi rfl a u pn;have g:∀i,i<shut.length->shut[i]?=some (shut.getD i 0):=λi hi=>by rw[cM,bo hi];rfl
  have e0:(0:Int)+(i:Nat)=(i:Nat):=.h
  rw[e0];have a2:AA (aW shut) ((i:Int)+1)=some (.int (shut.getD (i+1) 0:Nat)):=cv (i:=i+1) (g (i+1)<|by omega);refine⟨rfl,yes ⟨_,rfl,_,rfl,n,_,_,_,rfl,rfl,a.seq o,cv<|g i<|by omega,_,rfl,_,rfl,_,_,rfl,rfl,n,_,_,_,rfl,rfl,a.seq o,a2,_,_,rfl,rfl,u _ _ .ax ?_⟩⟩;exact congrArg (λz=>some<|V.bl z)<|decide_eq_decide.mpr<|by omega
 ·intro H5 a N;have e:(a8<|shut.length-1).filterMap (λi=>some<|V.bl<|decide (shut.getD i 0<shut.getD (i+1) 0))=((a8<|shut.length-1).map λi=>decide (shut.getD i 0<shut.getD (i+1) 0)).map V.bl:=by
   rw[c8,<-nY];rfl
  rw[e] at N;have eu:((a8<|shut.length-1).map λi=>decide (shut.getD i 0<shut.getD (i+1) 0)).all id=upB shut:=by rw[jG];rfl
  refine⟨D,_,rfl,bh.of N,?_⟩;rw[eu];refine⟨_,rfl,_,rfl,?_⟩;cases T:upB shut with
  |false=>
   rw[T] at b;exact ph<|ph λH' d v e=>b rfl H' d (a.trans v) e
  |true=>
   rw[T] at b p;refine jW ?_;have m:=a.seq o;refine⟨_,rfl,n,rfl,⟨_,m⟩,λD2 G=>eN (λi=>shut[i]?.bind λj=>some<|V.bl<|s.kind j == 1) (cQ m) G ?_ ?_ ?_⟩
   ·rw[au,sizeLine_eq];omega
   ·rintro i y U Py Pn hi hy I u pn;obtain⟨j,hj,rfl⟩:=d9 hy;have h:=a.trans I;obtain⟨dS,oS⟩:=(hS.same h).ob;exact⟨rfl,yes ⟨_,rfl,x,c.W,dx,_,_,rfl,h _ _ hx,k.w,k.wy,rfl,sA,dS,_,rfl,oS,rfl,_,rfl,sA,j,s,L,rfl,hS.same h,u _ _ .ax (by rw[hj];rfl)⟩⟩
   ·intro U I Y;rw[pD shut (λj=>V.bl<|s.kind j == 1) _<|au _] at Y;have h:=a.trans I;refine⟨D2,shut.map λj=>.aF == 1,rfl,bh.of (by rw[Y,c8];rfl),?_⟩;rw[jG];refine⟨_,rfl,?_⟩;rw[kQ] at b p;show if(!shut.all λj=>.aF == 1)=true then _ else _
    cases Z:shut.all λj=>.aF == 1 with
    |false=>exact ph λH' d v e=>b Z H' d (h.trans v) e
    |true=>exact jW<|p Z U h
end
end Pr
namespace Pw
open Pipe PipeWater
theorem IT(p:Nat->Bool)(l:List Joint):.f3:=by
 refine snocInd (p:=λl=>.f3) rfl (λl a b=>?_) l;rw[bS,nX,oh,lU,lU,bS,bS,<-b];congr 1
 ·congr 1;refine yN λj c=>?_;rw[bN<|dU.mp c]
 ·cases h:p a.kind<;>simp[h]
end Pw
namespace Pr
open PySem PySem.Spec PyProof.Rows L2 Pw TL
section
variable{P:Program}{w:World}{K:ah}{mg:.aa}{base:Heap}{c:CA}{cV cN cT ZC ZD cL:Addr}
theorem SW{f D G I M:Addr}{fd N n T U:FuncData}{tB:Tok}(F:d8 K "read" "Water.read" SL f fd)(B:nG mg)(k:ly K c)(X:mg "MOST_BYTES"=some (.int 65536 tB))(Y:dQ P w K mg base .aK 8 "read_text" ["numbers"] (SK K c.S c.J c.P c.F) D N)(Z:iQ P w K mg base bV 6 c.W "hold" .dV (Kg K c) G n)
  (GV:iQ P w K mg base bV 1 c.S "valves" .ae (vR K c.S c.J c.P λk=>k == 1) I T) (GE:iQ P w K mg base bV 1 c.S "ends" .ae (lQ K c.S c.J c.P λk=>decide (2<=k)) M U):aX P w K mg base .aK 9 f fd ["self","numbers"] (LH K c):=by
 refine F.lK VW ?_;rintro cdv A outer st H _ Q E g nd ⟨x,nA,s,b,ls,rfl,⟨dx,sA0,hA,L0,rL,kL,R,ks,els,y,hS0,O0,hT⟩,C,lb,h⟩;refine⟨_,(af (cx (a9 Hn (dz B.len<|pv 1) (aR .s X (v:=.int 65536) .Y)<|a0 _) MW bE)<|af (bu 2<|dG Y g bU<|ae .o ak)<|af (aL<|bR Z g .j aP<|ae .M ak)<|ap<|aJ<|eW<|ae (dz B.len<|aw .M rfl)<|ae (dz B.len<|aw .M rfl)<|ae (dz B.len<|eI GV g .M aP)<|ae (dz B.len<|eI GE g .M aP) ak),?_⟩;refine⟨_,rfl,nA,_,rfl,.inl C,_,_,rfl,rfl,_,rfl,?_⟩;have el:(aW<|qc b).length=b.length:=by unfold qc;rw[au,au]
 rw[el];refine c7 (λcc=>?_) λ_=>?_
 ·have:=of_decide_eq_true cc;omega
 refine⟨_,rfl,nA,b,rfl,C,lb,?_⟩;cases hs:oo b with
 |error e=>rw[hs] at h;exact h
 |ok u=>
  rw[hs] at h;intro H1 sA L hS O fL s1;refine⟨_,rfl,x,dx,_,rfl,s1 _ _ y,rfl,_,rfl,x,dx,_,sA,u,L,rfl,s1 _ _ y,.inr ⟨_,_,rfl⟩,hS,O,λH2 p hW fr u2 _ a=>?_⟩;have nj:=O.nj;obtain⟨i,l⟩:=a.ob;refine⟨_,rfl,sA,c.S,i,_,_,rfl,l,k.kl.S,k.kl.b5,rfl,L.jL,_,rfl,.inl<|bh.of a.jl,_,rfl,sA,c.S,i,_,_,rfl,l,k.kl.S,k.kl.gZ,rfl,L.qL,_,rfl,.inl<|bh.of a.ql,_,rfl,sA,i,_,rfl,l,rfl,sA,u,L,rfl,a,.h,λH3 vA hv _ q=>?_⟩;refine⟨vA,_,rfl,.inl<|bh.of hv,_,rfl,sA,i,_,rfl,q _ _ l,rfl,sA,u,L,rfl,a.same q,.h,O.kd,λH4 eA he _ s4=>?_⟩;refine⟨eA,_,rfl,.inl<|bh.of he,(by show 4<=sizeLine;decide),λr t=>?_⟩;have d:∀o,Same H2 (upd H4 r o):=λo=>q.trans<|s4.trans<|Same.new t;refine h _ r p (hW.same<|d _) (λm hb=>?_) ?_ λm o nb e=>d _ _ _<|u2 m o nb<|s1 _ _ e
  ·rcases fr m hb with z|z
   ·exact fL m z
   ·exact s1.free z
  rw[ai,au,au,au,au,hS.jn,hS.pn];show some (HO.lst [_,_,_,V.int (((a8 u.joints.length).filter λj=>decide (2<=u.kind j)).length:Nat)])=_;rw[show ((a8 u.joints.length).filter λj=>decide (2<=u.kind j)).length=_ from IT (λk=>decide (2<=k)) u.joints];rfl
theorem SX{f j m:Addr}{fd n d:FuncData}(F:d8 K "reach" "Water.reach" SM f fd)(k:ly K c)(o:MX P w K mg base 4 c.W "need_valves" .cr (sM K c cV) j n)(p:dQ P w K mg base bV 3 "come_to" ["system","shut"] (JR K c.S c.J c.P) m d):aX P w K mg base .aK 5 f fd .cr (LJ K c cV):=by
 refine F.lK VX ?_;rintro cdv A outer st H _ Q E a z ⟨x,g,s,shut,rfl,b,h,q,r,t⟩;refine⟨_,(af (aL<|bR o a .j bU<|ae .o ak)<|ap<|aJ<|dG p a aP<|ae .V<|ae .o ak),?_⟩;obtain⟨ls,b⟩:=b;have e:=b;obtain⟨dx,sA,hA,L,B,C,R,ks,u,i,hS,O,D⟩:=e;exact⟨_,rfl,x,dx,_,rfl,i,rfl,_,rfl,x,g,s,shut,rfl,⟨ls,b⟩,h,q,r,λa H1 s1=>⟨_,rfl,x,c.W,dx,_,_,rfl,s1 _ _ i,k.w,k.wy,rfl,_,rfl,sA,g,s,L,shut,rfl,.cf,O,s1.seq h,.da,λH2 l v _ y=>t a H2 l v<|s1.trans y⟩⟩
theorem ZE{f f1 f2:Addr}{fd eX M:FuncData}(F:d8 K "off" "Water.off" VU f fd)(B:nG mg)(k:ly K c)(GN:MX P w K mg base 4 c.W "need_valves" .cr (sM K c cV) f1 eX)(GC:dQ P w K mg base bV 3 "come_to" ["system","shut"] (JR K c.S c.J c.P) f2 M):aX P w K mg base .aK 5 f fd ["self","joint"] (Xk K c cV):=by
 refine F.lK SR ?_;rintro cdv A outer st H _ Q E t nd ⟨x,j,s,rfl,v,k1,k2⟩;have hu:=rM t;refine⟨_,(af (aL<|bR GN t .j bU<|ae (eW<|ae .o ak) ak)<|af (bu 2<|dD (AL rfl) .s B.dict Lc<|ae (gH rfl SR.nd (cB<|dG GC t aP<|ae .V<|ae (eW<|ae .o ak) ak) ((bO (by(show iP ZA (ao VU) _ _=true);decide +kernel))) (own:=[("pipe",3)]) (λs H C cl a=>bX 3) (λs H C cl a=>eB) λs H C cl a=>kq<|ae .aj<|ae mH ak) ak)<|ap<|aJ<|gH rfl SR.nd (cB<|dG GC t aP<|ae .V<|ae (eW ak) ak) ((bO (by(show iP ZA (ao VU) _ _=true);decide +kernel))) (own:=[("pipe",3)]) (λs H C cl a=>bX 3) (λs H C cl a=>lJ<|iA<|kz hu .aj<|pv 2) λs H C cl a=>pv 3),?_⟩;obtain⟨ls,v⟩:=v;have N:=v;obtain⟨dx,sA,hA,L,rL,kL,R,ks,els,T,hS,O,hT⟩:=N;have nr:=O.nr;have rl:∀l,(dX s l).length<=1024:=λl=>by
  refine bK (ft _ _) ?_;rw[kH];exact nr
 have er:iX s [j]=(.aF == 1):=by rw[xq];simp[upB]
 refine⟨_,rfl,x,dx,_,rfl,T,rfl,_,rfl,.cL,λb Ze=>?_⟩;have G:Same H (upd H b<|.lst [.int .aL]):=Same.new Ze;have g:(upd H b<|.lst [.int .aL]) b=some (.lst<|aW [j]):=ai;generalize upd H b (.lst [.int .aL])=H0 at G g;refine⟨x,b,s,[j],rfl,⟨ls,v.same G⟩,bh.of g,(by show 1<=30000;decide),λz=>?_,λz H1 s1=>?_⟩
 ·rw[er] at z;exact(k1<|by simpa using z).same G
 rw[er] at z;have kr:=k2 .c3;have h:=G.trans s1;refine⟨_,rfl,x,c.W,dx,_,_,rfl,h _ _ T,k.w,k.wy,rfl,_,rfl,.cL,λmA U=>?_⟩;have s2:Same H (upd H1 mA<|.lst [.int .aL]):=h.trans<|Same.new U;refine⟨sA,mA,s,L,[j],rfl,hS.same s2,O,bh.of ai,.cL,λH3 aA ha _ s3=>?_⟩;have JK:=s2.trans s3;refine⟨aA,rfl,⟨_,bh.of ha⟩,λD hD=>Il (bh.of ha) hD (by have:=rl [j];rw[sizeLine_eq];omega) (λj X Py Y=>⟨rfl,_,rfl,.b8,Y⟩) λX ps s5 hX pr=>⟨D,ps,_,rfl,bh.of hX,pr,λd hd=>?_⟩⟩;have I:=JK.trans<|s5.trans<|Same.new (o:=.dK<|gE []<|(dX s [j]).map .cY) hd;have m:=xQ<|dX s [j];have n:(upd X d<|.dK<|gE []<|(dX s [j]).map .cY) d=some (.dK<|gE []<|(dX s [j]).map .cY):=ai;generalize upd X d (.dK<|gE []<|(dX s [j]).map .cY)=H6 at I n;refine⟨_,rfl,x,c.W,dx,_,_,rfl,I _ _ T,k.w,k.wy,rfl,bj _,λeA Z=>?_⟩;have s7:Same H6 (upd H6 eA<|.lst []):=Same.new Z;refine⟨sA,eA,s,L,[],rfl,hS.same<|I.trans s7,O,bh.of ai,bj _,λH8 bA hb _ s8=>?_⟩;refine⟨bA,rfl,⟨_,bh.of hb⟩,λD2 hD2=>eN (λi=>(dX s [])[i]?.bind λu=>if u∉dX s [j] then some (V.int (u:Nat)) else none) (cQ<|bh.of hb) hD2 ?_ ?_ ?_⟩
 ·have:=rl [];rw[au,sizeLine_eq];omega
 ·rintro i y H9 Py Pn hi hy s9 Y pn;obtain⟨u,p,rfl⟩:=d9 hy;refine⟨rfl,_,rfl,_,rfl,d,_,rfl,ky.k (k:=aU (u:Int))<|(s7.trans<|s8.trans s9) _ _ n,_,rfl,?_⟩;refine c7 (λe=>?_) λe=>?_
  ·have e:u∉dX s [j]:=λz=>by rw[(m u).mpr z] at e;cases e
   exact⟨_,rfl,Y _ _ .ax (by rw[p];simp[e])⟩
  ·have e:u∈dX s [j]:=(m u).mp (by
    cases q:cG (gE []<|(dX s [j]).map .cY) (aU (u:Int)) with
    |none=>rw[q] at e;exact absurd rfl e
    |some _=>rfl)
   exact pn _ .ax (by rw[p];simp[e])
 ·intro H9 s9 r;rw[A6 (dX s []) λu=>u∉dX s [j]] at r;refine kr H9 D2 ?_<|I.trans<|s7.trans<|s8.trans s9;rw[r];congr 3;refine yN λu _=>?_;cases q:(dX s [j]).contains u<;>simp at q<;>simp[q]
theorem SY{f a:Addr}{fd b:FuncData}{cd:ClassData}(F:d8 K "need_pipe" "Water.need_pipe" SQ f fd)(B:nG mg)(k:ly K c)(X:D0 P w K mg base "NoSuchPipe" cN 4 a b cd):aX P w K mg base .aK 4 f fd .dD (Ei K c cN):=by
 refine F.lK V0 ?_;rintro cdv A outer st H _ Q E d m ⟨x,p,s,rfl,⟨ls,dx,sA,hA,L,n,o,R,ks,e,g,hS,O,r⟩,h,i⟩;refine⟨_,(ap<|cx (a9 KF .o (dz B.len<|aw .V rfl)<|a0 _) (ap<|lR X d bU) bE),?_⟩;obtain⟨j,l⟩:=hS.ob;refine⟨_,rfl,_,rfl,x,c.W,dx,_,_,rfl,g,k.w,k.wy,rfl,sA,c.S,j,_,_,rfl,l,k.kl.S,k.kl.gZ,rfl,L.qL,_,rfl,.inl<|bh.of hS.ql,_,_,rfl,rfl,_,rfl,?_⟩;rw[au,hS.pn];exact c7 (λz=>h (by have:=of_decide_eq_true z;omega)) λz=>i<|qM λq=>z<|decide_eq_true<|by omega
theorem ZF{f n o:Addr}{fd q g:FuncData}(F:d8 K "isolate" "Water.isolate" abP f fd)(k:ly K c)(t:MX P w K mg base 4 c.W "need_pipe" .dD (Ei K c cN) n q)(u:dQ P w K mg base .aK 4 "fewest_valves" ["system","pipe"] (Ip K c.S c.J c.P cT ZC) o g):aX P w K mg base .aK 5 f fd .dD (Xl K c cN cT ZC):=by
 refine F.lK abR ?_;rintro cdv A outer st H _ Q E j C ⟨x,p,s,rfl,e,v,y⟩;refine⟨_,(af (aL<|bR t j .j bU<|ae .o ak)<|ap<|aJ<|dG u j bU<|ae .V<|ae .o ak),?_⟩;obtain⟨ls,e⟩:=e;have h:=e;obtain⟨dx,sA,hA,L,D,G,R,ks,z,m,hS,O,I⟩:=h;refine⟨_,rfl,x,dx,_,rfl,m,rfl,_,rfl,x,p,s,rfl,⟨ls,e⟩,v,λhp=>?_⟩;obtain⟨a,b,d⟩:=y hp;exact⟨_,rfl,x,c.W,dx,_,_,rfl,m,k.w,k.wy,rfl,_,rfl,sA,p,s,L,rfl,hS,O,hp,a,b,λhv l B H' r i _ s'=>d hv l B H' r i s'⟩
theorem SZ{f T U V X:Addr}{fd Y o Z tM:FuncData}{p t:ClassData}(F:d8 K "level" "Water.level" SN f fd)(B:nG mg)(k:ly K c)(GN:MX P w K mg base 4 c.W "need_valves" .cr (sM K c cV) T Y)(GL:dQ P w K mg base bV 4 "joint_levels" .eW (Lw K c.S c.J c.P c.H) U o)
  (XJ:D0 P w K mg base "NoSuchJoint" ZD 4 V Z p) (XL:D0 P w K mg base "NoLevel" cL 3 X tM t):aX P w K mg base .aK 5 f fd ["self","joint","shut"] (LK K c cV ZD cL):=by
 refine F.lK VY ?_;rintro cdv A outer st H _ Q E i nd ⟨x,j,C,s,shut,rfl,m,D,ll,k1,k2⟩;refine⟨_,(af (aL<|bR GN i .j bU<|ae .M ak)<|af (cx (a9 KF .o (dz B.len<|aw .V rfl)<|a0 _) (ap<|lR XJ i bU) bE)<|af (bu 3<|bG (dG GL i aP<|ae .V<|ae .V<|ae .M ak)<|pv 1)<|af (cx (iA<|mI<|pv 3) (ap<|lR XL i bU) bE)<|ap<|aJ<|dD lI .s B.list yw<|ae .aj ak),?_⟩;obtain⟨ls,m⟩:=m;have u:=m;obtain⟨dx,sA,hA,L,rL,kL,R,ks,els,G,hS,O,hT⟩:=u;refine⟨_,rfl,x,dx,_,rfl,G,rfl,_,rfl,x,C,s,shut,rfl,⟨ls,m⟩,D,ll,k1,λI H1 s1=>?_⟩;obtain⟨a,b⟩:=k2 I;have d:=s1 _ _ G;have e:=.cf;obtain⟨dS,oS⟩:=e.ob;refine⟨_,rfl,_,rfl,x,c.W,dx,_,_,rfl,d,k.w,k.wy,rfl,sA,c.S,dS,_,_,rfl,oS,k.kl.S,k.kl.b5,rfl,L.jL,_,rfl,.inl<|bh.of e.jl,_,_,rfl,rfl,_,rfl,?_⟩;rw[au,hS.jn];refine c7 (λz=>(a (by have:=of_decide_eq_true z;omega)).same s1) λz=>?_;have M:.a7:=qM λq=>z .cM;have b:=b M;refine⟨_,rfl,x,c.W,dx,_,_,rfl,d,k.w,k.wy,rfl,_,rfl,x,c.W,dx,_,_,rfl,d,k.w,k.VS,rfl,_,rfl,sA,hA,C,s,L,shut,rL,kL,R,ks,rfl,e,O,hT.same s1,s1.seq D,.da,sj I,λH2 l hl s2=>?_⟩;obtain⟨vs,v,e1,e2,n,_⟩:=hl.get M;refine⟨_,rfl,l,_,_,_,rfl,rfl,bh.of e1,c6 e2,?_⟩;refine⟨_,rfl,_,rfl,?_⟩;have N:=s1.trans s2;cases g:(s.levels shut).getD j none with
 |none=>
  rw[g] at b n;obtain rfl:v=.non:=n;exact ph<|b.same N
 |some h=>
  rw[g] at b n;obtain⟨a,rfl,ha⟩:=n;exact jW ⟨_,rfl,a,_,rfl,.inr ha,λr y=>b _ r ai<|N.trans<|Same.new y⟩
theorem ZG{f G I M N:Addr}{fd T m U V:FuncData}(F:d8 K "wet" "Water.wet" abQ f fd)(B:nG mg)(k:ly K c)(X:MX P w K mg base 4 c.W "need_valves" .cr (sM K c cV) G T)(Y:MX P w K mg base 4 c.W "need_pipe" .dD (Ei K c cN) I m)(Z:dQ P w K mg base bV 4 "joint_levels" .eW (Lw K c.S c.J c.P c.H) M U)
  (GW:dQ P w K mg base bV 4 "wet_length" ["system","pipe","levels"] (J7 K c.S c.J c.P) N V):aX P w K mg base .aK 5 f fd ["self","pipe","shut"] (Xm K c cV cN):=by
 refine F.lK abS ?_;rintro cdv A outer st H _ Q E j nd ⟨x,p,y,s,shut,rfl,h,C,ll,k1,k2⟩;refine⟨_,(af (aL (bR X j .j bU .cG)) (af (aL (bR Y j .j bU .cw)) (af (bu 3 (dG Z j aP (ae .V (ae .V .cG)))) (ap (aJ (dD lI .s B.list yw (ae (dG GW j aP (ae .V (ae (bG (aw .V rfl) .o) (ae .aj ak)))) ak))))))),?_⟩;obtain⟨ls,h⟩:=h;have n:=h;obtain⟨dx,sA,hA,L,rL,kL,R,ks,els,o,hS,O,hT⟩:=n;refine⟨_,rfl,x,dx,_,rfl,o,rfl,_,rfl,x,y,s,shut,rfl,⟨ls,h⟩,C,ll,k1,λD H1 s1=>?_⟩;obtain⟨a,b⟩:=k2 D;have e:=s1 _ _ o;refine⟨_,rfl,x,dx,_,rfl,e,rfl,_,rfl,x,p,s,rfl,⟨ls,h.same s1⟩,λz=>(a z).same s1,λhp=>?_⟩;refine⟨_,rfl,x,c.W,dx,_,_,rfl,e,k.w,k.wy,rfl,_,rfl,x,c.W,dx,_,_,rfl,e,k.w,k.VS,rfl,_,rfl,sA,hA,y,s,L,shut,rL,kL,R,ks,rfl,.cf,O,hT.same s1,s1.seq C,.da,sj D,λH2 l hl s2=>?_⟩;have u:=s1.trans s2;have i:=u _ _ o;have d:=hS.same u;obtain⟨dS,oS⟩:=d.ob;obtain⟨r,g⟩:∃r,s.runs[p]?=some r:=⟨_,bo hp⟩;obtain⟨pa,v,hP⟩:=d.pipe g;have b:=b (s.wetBy r (s.levelOf (s.levels shut) r)) (by unfold Gk;rw[g];rfl);exact⟨_,rfl,x,c.W,dx,_,_,rfl,i,k.w,k.wy,rfl,_,rfl,x,c.W,dx,_,_,rfl,i,k.w,k.wy,rfl,sA,c.S,dS,_,_,rfl,oS,k.kl.S,k.kl.gZ,rfl,_,rfl,L.qL,_,_,_,rfl,rfl,bh.of d.ql,cv v,_,rfl,sA,pa,l,s,L,r,s.levels shut,rfl,d,O,bc g,hP,hl,
  λH3 t ht s3=>⟨t,_,rfl,.inr ht,λq hq=>b _ q ai (u.trans (s3.trans (Same.new hq)))⟩⟩
theorem S0{f n o p:Addr}{fd r u v:FuncData}(F:d8 K "left" "Water.left" SO f fd)(B:nG mg)(k:ly K c)(y:MX P w K mg base 4 c.W "need_valves" .cr (sM K c cV) n r)(z:dQ P w K mg base bV 4 "joint_levels" .eW (Lw K c.S c.J c.P c.H) o u)
  (C:dQ P w K mg base bV 5 "length_left" ["system","levels"] (Sk K c.S c.J c.P) p v):aX P w K mg base .aK 6 f fd .cr (LL K c cV):=by
 refine F.lK VZ ?_;rintro cdv A outer st H _ Q E d nd ⟨x,i,s,shut,rfl,b,j,D,G,I⟩;refine⟨_,(af (aL<|bR y d .j bU<|ae .o ak)<|af (bu 2<|dG z d aP<|ae .V<|ae .V<|ae .o ak)<|ap<|aJ<|dD lI .s B.list yw<|ae (dG C d aP<|ae .V<|ae .M ak) ak),?_⟩;obtain⟨ls,b⟩:=b;have e:=b;obtain⟨dx,sA,hA,L,M,N,R,ks,T,g,hS,O,U⟩:=e;refine⟨_,rfl,x,dx,_,rfl,g,rfl,_,rfl,x,i,s,shut,rfl,⟨ls,b⟩,j,D,G,λm H1 s1=>?_⟩;have a:=s1 _ _ g;refine⟨_,rfl,x,c.W,dx,_,_,rfl,a,k.w,k.wy,rfl,_,rfl,x,c.W,dx,_,_,rfl,a,k.w,k.VS,rfl,_,rfl,sA,hA,i,s,L,shut,M,N,R,ks,rfl,.cf,O,U.same s1,s1.seq j,.da,sj m,λH2 l V X=>?_⟩;have h:=s1.trans X;exact⟨_,rfl,x,c.W,dx,_,_,rfl,h _ _ g,k.w,k.wy,rfl,_,rfl,sA,l,s,L,s.levels shut,rfl,hS.same h,O,V,λH3 t ht Y=>⟨t,_,rfl,.inr ht,λq Z=>I m _ q ai<|h.trans<|Y.trans<|Same.new Z⟩⟩
end
abbrev abW:Stmt:=inClass (top 5) 0
abbrev abX:Stmt:=inClass (top 6) 0
theorem abY:az .ae .ae (ao abW):=fscope
theorem abZ:az .ae .ae (ao abX):=fscope
section
variable{P:Program}{w:World}{K:ah}{mg:.aa}{base:Heap}
theorem ZH{f b D:Addr}{fd c:FuncData}(F:d8 K "__init__" "NoLevel.__init__" abW f fd)(R:Io P w K mg base D b c):aX P w K mg base bV 2 f fd .ae (Im K 3):=by
 refine F.ok1 abY ?_;rintro cdv A outer st H _ Q E g a ⟨e,C,cd,rfl,h,i,na,k⟩;refine⟨_,.ef,?_⟩;exact⟨_,rfl,e,C,3,cd,rfl,h,i,na,λd a j=>k d a j⟩
theorem ZI{f b D:Addr}{fd c:FuncData}(F:d8 K "__init__" "NoSuchJoint.__init__" abX f fd)(R:Io P w K mg base D b c):aX P w K mg base bV 2 f fd .ae (Im K 4):=by
 refine F.ok1 abZ ?_;rintro cdv A outer st H _ Q E g a ⟨e,C,cd,rfl,h,i,na,k⟩;refine⟨_,.ef,?_⟩;exact⟨_,rfl,e,C,4,cd,rfl,h,i,na,λd a j=>k d a j⟩
end
abbrev V3:Stmt:=top 111
abbrev ab0:Stmt:=inClass V3 0
abbrev Xn:Stmt:=inClass V3 1
abbrev S1:Stmt:=inClass V3 2
abbrev S4:Stmt:=inClass V3 3
theorem ab1:az ["self","numbers"] ["self","numbers"] (ao ab0):=fscope
theorem ZJ:az .ae .ae (ao Xn):=fscope
theorem V4:az .ae .ae (ao S1):=fscope
theorem V8:az ["self","size"] .ae (ao S4):=fscope
def LM(c:CA)(dx nA:Addr)(d:Nat):HO:=.ins c.C dx [("numbers",.ref nA),("done",.int (d:Nat))]
def Xo(c:CA):Sp:=λvs H Q _=>∃x dx nA,vs=[.aB,.ref nA]/\H x=some (.ins c.C dx [])/\Q .non (upd H x<|LM c dx nA 0)
structure sP(K:ah)(c:CA)(H:Hp)(x dx nA:Addr)(l:.ak)(d:Nat):Prop where
 ob:H x=some (LM c dx nA d)
 nm:bh K H nA (l.map V.int)
theorem sP.same{K:ah}{c:CA}{H H':Hp}{x dx nA:Addr}{l:.ak}{d:Nat}(h:sP K c H x dx nA l d)(s:.Q):sP K c H' x dx nA l d:=⟨s _ _ h.ob,s.seq h.nm⟩
theorem sP.next{K:ah}{c:CA}{H:Hp}{x dx nA:Addr}{l:.ak}{d:Nat}(h:sP K c H x dx nA l d)(d':Nat):sP K c (upd H x<|LM c dx nA d') x dx nA l d':=⟨ai,LG h.ob pF.put h.nm⟩
def S5(K:ah)(c:CA):Sp:=λvs H Q _=>∃x dx nA l d,vs=[.aB]/\sP K c H x dx nA l d/\Q (.bl<|decide (d<l.length)) H
def Ej(K:ah)(c:CA):Sp:=λvs H Q _=>∃x dx nA l d v,vs=[.aB]/\sP K c H x dx nA l d/\l[d]?=.av/\Q (.int v) (upd H x<|LM c dx nA<|d+1)
def LN(K:ah)(c:CA):Sp:=λvs H Q _=>∃x dx nA l d r t,vs=[.aB]/\sP K c H x dx nA l d/\l.drop d=PyFlat.putRow r++t/\∀p,p≠x->H p=none->Q .aO (upd (upd H x<|LM c dx nA<|d+1+r.length) p<|.lst<|r.map V.int)
theorem S6(xs:.r)(a b:Nat):Az xs (some ((a:Nat):Int)) (some ((b:Nat):Int))=(xs.drop<|min a xs.length).take (min b xs.length-min a xs.length):=by
 unfold Az;rw[HT.vE,HT.vE]
section
variable{P:Program}{w:World}{K:ah}{mg:.aa}{base:Heap}{c:CA}
theorem ZK{f:Addr}{fd:FuncData}(F:d8 K "__init__" "CallList.__init__" ab0 f fd)(k:ly K c):aX P w K mg base bV 1 f fd ["self","numbers"] (Xo c):=by
 refine F.ok1 ab1 ?_;rintro cdv A outer st H _ Q E d e ⟨x,dx,nA,rfl,a,b⟩;refine⟨_,(af (cO .j .o rfl)<|ap<|cO .j aD rfl),?_⟩;refine⟨_,rfl,_,rfl,x,c.C,dx,_,rfl,a,k.l,k.VT,.O,?_⟩;refine⟨_,rfl,x,c.C,dx,_,rfl,ai,k.l,k.Br,.dJ,?_⟩;rw[g9];exact b
theorem V9{f:Addr}{fd:FuncData}(F:d8 K "has_more" "CallList.has_more" Xn f fd)(B:nG mg)(k:ly K c):aX P w K mg base bV 1 f fd .ae (S5 K c):=by
 refine F.ok1 ZJ ?_;rintro cdv A outer st H _ Q E g h ⟨x,dx,nA,l,d,rfl,a,b⟩;refine⟨_,(ap<|aJ<|fj ny .V .eE<|a0 _),?_⟩;refine⟨_,rfl,x,c.C,dx,_,_,rfl,a.ob,k.l,k.Br,rfl,_,rfl,x,c.C,dx,_,_,rfl,a.ob,k.l,k.VT,rfl,nA,_,rfl,.inl a.nm,_,_,rfl,rfl,?_⟩;rw[au];have e:decide ((d:Int)<(l.length:Int))=decide (d<l.length):=decide_eq_decide.mpr .h;show Q (.bl<|decide ((d:Int)<(l.length:Int))) H;rw[e];exact b
theorem S7{f:Addr}{fd:FuncData}(F:d8 K "take_number" "CallList.take_number" S1 f fd)(k:ly K c):aX P w K mg base bV 1 f fd .ae (Ej K c):=by
 refine F.ok1 V4 ?_;rintro cdv A outer st H _ Q E h i ⟨x,dx,nA,l,d,v,rfl,a,hv,e⟩;refine⟨_,(af (wR .j aD Jv)<|ap<|aJ<|bG .V<|dm pN .V aD),?_⟩;refine⟨_,rfl,x,c.C,dx,_,_,rfl,a.ob,k.l,k.Br,rfl,_,_,rfl,rfl,dx,_,a.ob,.d6,?_⟩;have b:=a.next<|d+1;have g:AA (l.map V.int) (((d+1:Nat):Int)-1)=some (.int v):=by
  rw[show ((d+1:Nat):Int)-1=(d:Nat) by omega];exact cv hv
 exact⟨_,rfl,x,c.C,dx,_,_,rfl,b.ob,k.l,k.VT,rfl,_,rfl,x,c.C,dx,_,_,rfl,b.ob,k.l,k.Br,rfl,_,_,rfl,rfl,nA,_,_,_,rfl,rfl,b.nm,g,e⟩
theorem S8{f m:Addr}{fd n:FuncData}(F:d8 K "take_row" "CallList.take_row" S4 f fd)(k:ly K c)(o:iQ P w K mg base bV 1 c.C "take_number" .ae (Ej K c) m n):aX P w K mg base bV 2 f fd .ae (LN K c):=by
 refine F.ok1 V8 ?_;rintro cdv A outer st H _ Q E q B ⟨x,dx,nA,l,d,r,t,rfl,g,j,a⟩;refine⟨_,(af (bu 1<|eI o q .j aP)<|af (wR .j .o Jv)<|ap<|aJ<|vG DJ .V (vF<|dm pN .V<|pv 1)<|vF<|aw .j rfl),?_⟩;have hv:l[d]?=some (r.length:Int):=by
  have:=congrArg BW j;rw[EW] at this;exact this
 have b:l.drop (d+1)=r++t:=by
  have:=congrArg BX j;rw[EZ] at this;exact this
 have s:d+1+r.length<=l.length:=by
  have:=congrArg l4 b;have:=(aB.mp hv).1;simp at this ⊢;simp at *;omega
 refine⟨_,rfl,x,dx,_,rfl,g.ob,rfl,x,dx,nA,l,d,_,rfl,g,hv,?_⟩;have h:=g.next<|d+1;refine⟨_,rfl,x,c.C,dx,_,_,rfl,h.ob,k.l,k.Br,rfl,_,rfl,_,_,rfl,rfl,dx,_,h.ob,.d6,?_⟩;have e:=h.next<|d+1+r.length;have u:eV "done" (V.int<|((d+1:Nat):Int)+(r.length:Int)) ([("numbers",.ref nA),("done",.int ((d+1:Nat):Int))]:.az)=([("numbers",.ref nA),("done",.int ((d+1+r.length:Nat):Int))]:.az):=by
  show([_,(_,V.int<|((d+1:Nat):Int)+(r.length:Int))]:.az)=_;rw[show ((d+1:Nat):Int)+(r.length:Int)=((d+1+r.length:Nat):Int) by omega]
 rw[u];refine⟨_,rfl,x,c.C,dx,_,_,rfl,e.ob,k.l,k.VT,rfl,_,rfl,x,c.C,dx,_,_,rfl,e.ob,k.l,k.Br,rfl,_,rfl,_,_,rfl,rfl,_,rfl,_,rfl,x,c.C,dx,_,_,rfl,e.ob,k.l,k.Br,rfl,_,rfl,nA,_,rfl,e.nm,λp hp=>?_⟩;have np:p≠x:=λz=>by rw[z,ai] at hp;cases hp
 have i:H p=none:=by rw[aq np,aq np] at hp;exact hp
 have v:Az (l.map V.int) (some<|((d+1+r.length:Nat):Int)-(r.length:Int)) (some ((d+1+r.length:Nat):Int))=r.map V.int:=by
  rw[show ((d+1+r.length:Nat):Int)-(r.length:Int)=((d+1:Nat):Int) by omega,S6,au,zc s,zc<|show d+1<=l.length by omega,<-E2,b,show d+1+r.length-(d+1)=r.length by omega,fB,List.take_left'<|au _]
 have a:=a p np i;rw[<-v] at a;have y:upd (upd H x<|LM c dx nA<|d+1) x (LM c dx nA<|d+1+r.length)=upd H x (LM c dx nA<|d+1+r.length):=g9;rw[<-y] at a;exact a
end
def XR(K:ah)(c:CA)(C:Addr):Prop:=∃cd,Ep K C cd/\cd.mro.contains (.ref c.R)=true/\bM K C "number"
structure Post(K:ah)(c:CA)(ls:.B)(H H':Hp)(wA cA dx nA:Addr)(l:.ak)(s:aM)(d:Nat):Prop where
 w:∃l',yf K c l' H' wA s/\∀b,b∈l'->b∈ls\/.aR
 c:sP K c H' cA dx nA l d
 fr:∀b o,b≠wA->b≠cA->.dU
def Kh(K:ah)(c:CA)(Q:VK)(E:XK)(b:.Z):LX->Prop
 |.numbers r=>∀H' a,H' a=some (.lst<|aW r)->b H'->Q .E H'
 |.row r=>∀H' a,H' a=some (.lst<|aW r)->b H'->Q .E H'
 |.length x=>∀H' a,H' a=some (.lst [.int x.p,.int x.q])->b H'->Q .E H'
 |.fault k i=>∀H' e,H' e=some (qv e [("kind",.int (k:Nat)),("line",.bC)])->b H'->E (.ref c.F) (some e) H'
 |.refused n=>∀H' e C,XR K c C->H' e=some (qv e [("number",.int (n:Nat))])->b H'->E .I (some e) H'
def S9(K:ah)(c:CA):Sp:=λvs H Q E=>∃wA cA dx nA l d s cl t x ls,vs=[.ref wA,.ref cA]/\yf K c ls H wA s/\sP K c H cA dx nA l d/\l.drop d=PyFlat.put1 cl++t/\mw cl=true/\l.length<=30000/\iW cl=.v/\
 Kh K c Q E (λH'=>Post K c ls H H' wA cA dx nA l (eY s x).1<|d+(PyFlat.put1 cl).length) (eY s x).2
abbrev Xp:Stmt:=top 112
theorem ZL:az ["water","calls","number"] ["water","calls"] (ao Xp):=fscope
theorem nJ{cl:List .ak}(h:mw cl=true):(∃r,cl=[[1],r]/\Fz r=true)\/(∃r,cl=[[2],r]/\r.all ir=true)\/(∃a,cl=[[3,a]]/\ir a=true)\/(∃a,cl=[[4,a]]/\ir a=true)\/
  (∃a r,cl=[[5,a],r]/\ir a=true/\r.all ir=true)\/(∃a r,cl=[[6,a],r]/\ir a=true/\r.all ir=true)\/(∃r,cl=[[7],r]/\r.all ir=true):=by
 unfold mw at h;split at h
 ·exact .inl ⟨_,rfl,h⟩
 ·exact .inr<|.inl ⟨_,rfl,h⟩
 ·exact .inr<|.inr<|.inl ⟨_,rfl,h⟩
 ·exact .inr<|.inr<|.inr<|.inl ⟨_,rfl,h⟩
 ·rw[cn] at h;exact .inr<|.inr<|.inr<|.inr<|.inl ⟨_,_,rfl,h⟩
 ·rw[cn] at h;exact .inr<|.inr<|.inr<|.inr<|.inr<|.inl ⟨_,_,rfl,h⟩
 ·exact .inr<|.inr<|.inr<|.inr<|.inr<|.inr ⟨_,rfl,h⟩
 ·cases h
theorem Bs{r:.ak}(h:∀z,z∈r->0<=z):aW (cf r)=r.map V.int:=by
 unfold aW cf;rw[c8];refine qD λz a=>?_;show V.int ((z.toNat:Nat):Int)=V.int z;rw[Int.toNat_of_nonneg<|h z a]
theorem w32{z:Int}(h:ir z=true):0<=z:=by
 unfold ir at h;rw[cn] at h;exact of_decide_eq_true h.1
theorem IU{r:.ak}(h:r.all ir=true):∀z,z∈r->0<=z:=λz a=>w32<|eC.mp h z a
theorem LP{r:.ak}(h:Fz r=true):(∀z,z∈r->0<=z)/\aW (qc<|kS<|cf r)=r.map V.int:=by
 have a:∀z,z∈r->0<=z/\z<=255:=λz a=>by
  have:=eC.mp h z a;rw[cn] at this;exact⟨of_decide_eq_true this.1,of_decide_eq_true this.2⟩
 refine⟨λz m=>(a z m).1,?_⟩;rw[<-Bs λz m=>(a z m).1];unfold qc kS;rw[c8];congr 1;conv=>rhs;rw[<-BV (cf r)]
 refine qD λn b=>?_;obtain⟨z,m,rfl⟩:=b6.mp b;show(UInt8.ofNat z.toNat).toNat=z.toNat;have:=a z m;rw[UInt8.toNat_ofNat'];exact Nat.mod_eq_of_lt<|by omega
section
variable{K:ah}{c:CA}{ls l2:.B}{H H1 H2:Hp}{wA cA dx nA:Addr}{l:.ak}{s s':aM}{d d':Nat}
theorem Post.refl(a:yf K c ls H wA s)(b:sP K c H cA dx nA l d):Post K c ls H H wA cA dx nA l s d:=⟨⟨ls,a,λ_ h=>.inl h⟩,b,λ_ _ _ _ e=>e⟩
theorem Post.wx(p:.eP):∃a,yf K c a H1 wA s:=p.w.imp λ_ h=>h.1
theorem Post.same(p:.eP)(e:Same H1 H2):Post K c ls H H2 wA cA dx nA l s d:=⟨p.w.imp λ_ h=>⟨h.1.same e,h.2⟩,p.c.same e,λb o a f q=>e _ _<|p.fr b o a f q⟩
theorem Post.Z4(k:ly K c)(p:.eP)(d':Nat):Post K c ls H (upd H1 cA<|LM c dx nA d') wA cA dx nA l s d':=⟨p.w.imp λ_ h=>⟨h.1.off k p.c.ob pF.put,h.2⟩,p.c.next d',λb o e a q=>by rw[aq a];exact p.fr b o e a q⟩
theorem Post.row(k:ly K c)(p:.eP)(d':Nat){q:Addr}{o:HO}(a:q≠cA)(b:H1 q=none):Post K c ls H (upd (upd H1 cA<|LM c dx nA d') q o) wA cA dx nA l s d':=(p.Z4 k d').same<|Same.new (by rw[aq a];exact b)
theorem Post.read(k:ly K c)(p:.eP)(h:yf K c l2 H2 wA s')(f:∀b,b∈l2->H1 b=none)(u:pF wA H1 H2):Post K c ls H H2 wA cA dx nA l s' d:=by
 obtain⟨_,⟨i,_,_,_,_,_,_,_,_,a,_⟩,_⟩:=p.w;have n:cA≠wA:=λz=>by have:=p.c.ob;rw[z,a] at this;exact k.lw (HO.ins.inj<|show HO.ins c.W i _=HO.ins c.C dx _ from aI this).1.symm
 refine⟨⟨l2,h,λb j=>.inr ?_⟩,⟨u _ _ n p.c.ob,LG a u p.c.nm⟩,λb o g m q=>u _ _ g<|p.fr b o g m q⟩;have e:=f b j;cases q:H b with
 |none=>rfl
 |some o=>
  rw[p.fr b o (λz=>by rw[z,a] at e;cases e) (λz=>by rw[z,p.c.ob] at e;cases e) q] at e;cases e
end
structure Ek(mg:.aa):Prop where
 k1:∃t,mg "READ"=some (.int 1 t)
 k2:∃t,mg "REACH"=some (.int 2 t)
 k3:∃t,mg "OFF"=some (.int 3 t)
 k4:∃t,mg "ISOLATE"=some (.int 4 t)
 k5:∃t,mg "LEVEL"=some (.int 5 t)
 k6:∃t,mg "WET"=some (.int 6 t)
 k7:∃t,mg "LEFT"=some (.int 7 t)
 k0:∃t,mg "ANSWERED"=some (.int 0 t)
 kf:∃t,mg "FAULTY"=some (.int (-100) t)
section
variable{P:Program}{w:World}{K:ah}{mg:.aa}{base:Heap}{c:CA}{cV cN cT ZC ZD cL:Addr}
theorem Wa{f f1 f2 f3 f4 f5 f6 f7 f8 f9:Addr}{fd eX fd2 qz tM QS fd6 fd7 fd8 fd9:FuncData}(F:d8 K "make_call" "make_call" Xp f fd)(k:ly K c)(N:Ek mg)(xV:XR K c cV)(xN:XR K c cN)(xT:XR K c cT)(xH:XR K c ZC)(xJ:XR K c ZD)(xL:XR K c cL)
  (GT:iQ P w K mg base bV 1 c.C "take_number" .ae (Ej K c) f1 eX) (GR:iQ P w K mg base bV 2 c.C "take_row" .ae (LN K c) f2 fd2) (G1:MX P w K mg base 9 c.W "read" ["self","numbers"] (LH K c) f3 qz) (G2:MX P w K mg base 5 c.W "reach" .cr (LJ K c cV) f4 tM) (G3:MX P w K mg base 5 c.W "off" ["self","joint"] (Xk K c cV) f5 QS)
  (G4:MX P w K mg base 5 c.W "isolate" .dD (Xl K c cN cT ZC) f6 fd6) (G5:MX P w K mg base 5 c.W "level" ["self","joint","shut"] (LK K c cV ZD cL) f7 fd7) (G6:MX P w K mg base 5 c.W "wet" ["self","pipe","shut"] (Xm K c cV cN) f8 fd8) (G7:MX P w K mg base 6 c.W "left" .cr (LL K c cV) f9 fd9):
  aX P w K mg base .aK 10 f fd ["water","calls"] (S9 K c):=by
 refine F.lK ZL ?_;rintro cdv A outer st H _ Q E y nd ⟨wA,cA,dx,nA,l,d,s,cl,t,x,ls,rfl,hW,hC,hd,D,ll,M,out⟩;obtain⟨t1,h1⟩:=N.k1;obtain⟨t2,h2⟩:=N.k2;obtain⟨t3,h3⟩:=N.k3;obtain⟨t4,h4⟩:=N.k4;obtain⟨t5,h5⟩:=N.k5;obtain⟨t6,h6⟩:=N.k6;obtain⟨t7,h7⟩:=N.k7;refine⟨_,(af (bu 2<|eI GT y .o aP)<|af (cx (a9 fo .M (aR .s h1 (v:=.int 1) .Y)<|a0 _) (ap<|aJ<|bR G1 y .j bU<|ae (eI GR y .o aP) ak) bE)<|af (cx (a9 fo .M (aR .s h2 (v:=.int 2) .Y)<|a0 _) (ap<|aJ<|bR G2 y .j bU<|ae (eI GR y .o aP) ak) bE)<|af (cx (a9 fo .M (aR .s h3 (v:=.int 3) .Y)<|a0 _) (ap<|aJ<|bR G3 y .j bU<|ae (eI GT y .o aP) ak) bE)<|af (cx (a9 fo .M (aR .s h4 (v:=.int 4) .Y)<|a0 _) (ap<|aJ<|bR G4 y .j bU<|ae (eI GT y .o aP) ak) bE)<|af (cx (a9 fo .M (aR .s h5 (v:=.int 5) .Y)<|a0 _) (ap<|aJ<|bR G5 y .j bU<|ae (eI GT y .o aP)<|ae (eI GR y .o aP) ak) bE)<|af (cx (a9 fo .M (aR .s h6 (v:=.int 6) .Y)<|a0 _) (ap<|aJ<|bR G6 y .j bU<|ae (eI GT y .o aP)<|ae (eI GR y .o aP) ak) bE)<|af (cx (a9 fo .M (aR .s h7 (v:=.int 7) .Y)<|a0 _) (ap<|aJ<|bR G7 y .j bU<|ae (eI GR y .o aP) ak) bE)<|ap Pp),?_⟩;have O:∀{l:.ak} {d:Nat} {v:Int} {u:.ak},l.drop d=v::u->l[d]?=.av/\l.drop (d+1)=u:=λ{l d v u} e=>by
  refine⟨?_,?_⟩
  ·have:=congrArg BW e;rw[EW] at this;exact this
  ·have:=congrArg BX e;rw[EZ] at this;exact this
 have P0:=Post.refl hW hC;obtain⟨p,u,hp⟩:∃p u,PyFlat.put1 cl++t=p::u:=by
  rcases nJ D with⟨r,rfl,_⟩|⟨r,rfl,_⟩|⟨a,rfl,_⟩|⟨a,rfl,_⟩|⟨a,r,rfl,_⟩|⟨a,r,rfl,_⟩|⟨r,rfl,_⟩<;>exact⟨_,_,rfl⟩
 rw[hp] at hd;obtain⟨hv,B⟩:=O hd;refine⟨_,rfl,cA,dx,_,rfl,hC.ob,rfl,cA,dx,nA,l,d,p,rfl,hC,hv,?_⟩;have i:=P0.Z4 k<|d+1;generalize upd H cA (LM c dx nA<|d+1)=H1 at i;obtain⟨_,⟨Y,sA,hA,L,rL,kL,R,ks,_,Z,_⟩,_⟩:=i.w;have dl:=congrArg l4 B;rw[iS] at dl;rcases nJ D with⟨r,rfl,n⟩|⟨r,rfl,n⟩|⟨a,rfl,G⟩|⟨a,rfl,G⟩|⟨a,r,rfl,G,n⟩|⟨a,r,rfl,G,n⟩|⟨r,rfl,n⟩
 ·obtain⟨rfl,rfl⟩:p=1/\u=PyFlat.putRow r++t:=.eK
  obtain⟨I,eb⟩:=LP n;have ex:iW [[1],r]=some (.read<|kS<|cf r):=.eU;rw[ex] at M;cases M;refine⟨_,rfl,rfl,_,rfl,ph ?_⟩;have X:r.length<=30000:=by simp[PyFlat.putRow] at dl;omega
  have lt:(kS<|cf r).length<=65536:=by unfold kS cf;rw[au,au];omega
  refine⟨_,rfl,wA,Y,_,rfl,Z,rfl,_,rfl,cA,dx,_,rfl,i.c.ob,rfl,cA,dx,nA,l,d+1,r,t,rfl,i.c,B,λq T U=>?_⟩;have g:=.fO;have ed:d+(PyFlat.put1 [[1],r]).length=d+1+1+r.length:=by simp[PyFlat.put1,PyFlat.putRows,PyFlat.putRow];omega
  rw[ed] at out;obtain⟨l2,w2⟩:=g.wx;refine⟨wA,q,s,_,l2,rfl,w2,by rw[eb];exact bh.of ai,lt,?_⟩;have e1:eY s (.read<|kS<|cf r)=match oo (kS<|cf r) with
   |.error e=>(s,.fault e.kind e.line)
   |.ok u=>(u,.numbers<|FB u):=if_neg (by unfold LY;omega)
  rw[e1] at out;cases hs:oo (kS<|cf r) with
  |error e=>
   rw[hs] at out;exact λH' e m b=>out H' e b<|g.same m
  |ok u=>
   rw[hs] at out;exact λH' a _ hw fr D hb=>out H' a D<|g.read k hw fr hb
 ·obtain⟨rfl,rfl⟩:p=2/\u=PyFlat.putRow r++t:=.eK
  have I:=IU n;have ex:iW [[2],r]=some (.reach<|cf r):=.eU;rw[ex] at M;cases M;have X:(cf r).length<=30000:=.e2
  refine⟨_,rfl,rfl,_,rfl,jW ⟨_,rfl,rfl,_,rfl,ph ?_⟩⟩;refine⟨_,rfl,wA,Y,_,rfl,Z,rfl,_,rfl,cA,dx,_,rfl,i.c.ob,rfl,cA,dx,nA,l,d+1,r,t,rfl,i.c,B,λq T U=>?_⟩;have g:=.fO;rw[show d+(PyFlat.put1 [[2],r]).length=d+1+1+r.length by simp[PyFlat.put1,PyFlat.putRows,PyFlat.putRow];omega] at out;have out:Kh K c Q E _ (if iX s (cf r)=false then .refused 1 else .row<|dX s<|cf r):=out
  refine⟨wA,q,s,_,rfl,g.wx,by rw[Bs I];exact bh.of ai,X,λz=>?_,λz=>?_⟩
  ·rw[if_pos z] at out;exact λH' e b m=>out H' e cV xV m<|g.same b
  ·rw[if_neg (by rw[z];decide)] at out;exact λH' a D b=>out H' a D<|g.same b
 ·obtain⟨rfl,rfl⟩:p=3/\u=a::t:=by cases hp;exact .cg
  have I:=w32 G;have ex:iW [[3,a]]=some (.off a.toNat):=.eU;rw[ex] at M;cases M;obtain⟨J,_⟩:=O B;obtain⟨j,rfl⟩:∃j:Nat,a=.aL:=⟨a.toNat,.h⟩;rw[iU] at out;refine⟨_,rfl,rfl,_,rfl,jW ⟨_,rfl,rfl,_,rfl,jW ⟨_,rfl,rfl,_,rfl,ph ?_⟩⟩⟩;refine⟨_,rfl,wA,Y,_,rfl,Z,rfl,_,rfl,cA,dx,_,rfl,i.c.ob,rfl,cA,dx,nA,l,d+1,_,rfl,i.c,J,?_⟩;have g:=i.Z4 k<|d+1+1;have out:Kh K c Q E _ (if .aF≠1 then .refused 1 else .row<|(dX s []).filter λ(k:Nat)=>!(dX s [j]).contains k):=out
  refine⟨wA,j,s,rfl,g.wx,λz=>?_,λz=>?_⟩
  ·rw[if_pos z] at out;exact λH' e b m=>out H' e cV xV m<|g.same b
  ·rw[if_neg λq=>q z] at out;exact λH' a D b=>out H' a D<|g.same b
 ·obtain⟨rfl,rfl⟩:p=4/\u=a::t:=by cases hp;exact .cg
  have I:=w32 G;have ex:iW [[4,a]]=some (.isolate a.toNat):=.eU;rw[ex] at M;cases M;obtain⟨J,_⟩:=O B;obtain⟨j,rfl⟩:∃j:Nat,a=.aL:=⟨a.toNat,.h⟩;rw[iU] at out;refine⟨_,rfl,rfl,_,rfl,jW ⟨_,rfl,rfl,_,rfl,jW ⟨_,rfl,rfl,_,rfl,jW ⟨_,rfl,rfl,_,rfl,ph ?_⟩⟩⟩⟩;refine⟨_,rfl,wA,Y,_,rfl,Z,rfl,_,rfl,cA,dx,_,rfl,i.c.ob,rfl,cA,dx,nA,l,d+1,_,rfl,i.c,J,?_⟩;have g:=i.Z4 k (d+1+1);have out:Kh K c Q E _ (if s.runs.length<=j then .refused 4 else if 12<(eE s).length then .refused 2 else match mx s j with
   |some l=>.row l
   |none=>.refused 3):=out
  refine⟨wA,j,s,rfl,g.wx,λz=>?_,λz=>?_⟩
  ·rw[if_pos z] at out;exact λH' e b m=>out H' e cN xN m<|g.same b
  rw[.aC] at out;refine⟨λz=>?_,λz q=>?_,λz l hl=>?_⟩
  ·rw[if_pos z] at out;exact λH' e b m=>out H' e cT xT m<|g.same b
  ·rw[.aC,q] at out;exact λH' e b m=>out H' e ZC xH m<|g.same b
  ·rw[.aC,hl] at out;exact λH' a D b=>out H' a D<|g.same b
 ·obtain⟨rfl,rfl⟩:p=5/\u=a::(PyFlat.putRow r++t):=.eK
  have I:=w32 G;have nr:=IU n;have ex:iW [[5,a],r]=some (.level a.toNat<|cf r):=if_neg (by simp[fU];exact⟨I,nr⟩);rw[ex] at M;cases M;obtain⟨J,hd2⟩:=O B;obtain⟨j,rfl⟩:∃j:Nat,a=.aL:=⟨a.toNat,.h⟩;rw[iU] at out;have X:(cf r).length<=30000:=.e2
  refine⟨_,rfl,rfl,_,rfl,jW ⟨_,rfl,rfl,_,rfl,jW ⟨_,rfl,rfl,_,rfl,jW ⟨_,rfl,rfl,_,rfl,jW ⟨_,rfl,rfl,_,rfl,ph ?_⟩⟩⟩⟩⟩;refine⟨_,rfl,wA,Y,_,rfl,Z,rfl,_,rfl,cA,dx,_,rfl,i.c.ob,rfl,cA,dx,nA,l,d+1,_,rfl,i.c,J,?_⟩;have g:=i.Z4 k (d+1+1);refine⟨_,rfl,cA,dx,_,rfl,g.c.ob,rfl,cA,dx,nA,l,d+1+1,r,t,rfl,g.c,hd2,λq T U=>?_⟩;have S:=g.row k (d+1+1+1+r.length) T U (o:=.lst (r.map V.int));rw[show d+(PyFlat.put1 [[5,(j:Int)],r]).length=d+1+1+1+r.length by simp[PyFlat.put1,PyFlat.putRows,PyFlat.putRow];omega] at out;have out:Kh K c Q E _ (if iX s (cf r)=false then .refused 1 else if s.joints.length<=j then .refused 4 else match (s.levels (cf r)).getD j none with
   |some h=>.length h
   |none=>.refused 3):=out
  refine⟨wA,j,q,s,_,rfl,S.wx,by rw[Bs nr];exact bh.of ai,X,λz=>?_,λz=>?_⟩
  ·rw[if_pos z] at out;exact λH' e b m=>out H' e cV xV m<|S.same b
  rw[if_neg (by rw[z];decide)] at out;refine⟨λz=>?_,λz=>?_⟩
  ·rw[if_pos z] at out;exact λH' e b m=>out H' e ZD xJ m<|S.same b
  ·rw[.aC] at out;cases hl:(s.levels<|cf r).getD j none with
   |none=>rw[hl] at out;exact λH' e b m=>out H' e cL xL m<|S.same b
   |some h=>rw[hl] at out;exact λH' a D b=>out H' a D<|S.same b
 ·obtain⟨rfl,rfl⟩:p=6/\u=a::(PyFlat.putRow r++t):=.eK
  have I:=w32 G;have nr:=IU n;have ex:iW [[6,a],r]=some (.wet a.toNat<|cf r):=if_neg (by simp[fU];exact⟨I,nr⟩);rw[ex] at M;cases M;obtain⟨J,hd2⟩:=O B;obtain⟨j,rfl⟩:∃j:Nat,a=.aL:=⟨a.toNat,.h⟩;rw[iU] at out;have X:(cf r).length<=30000:=.e2
  refine⟨_,rfl,rfl,_,rfl,jW ⟨_,rfl,rfl,_,rfl,jW ⟨_,rfl,rfl,_,rfl,jW ⟨_,rfl,rfl,_,rfl,jW ⟨_,rfl,rfl,_,rfl,jW ⟨_,rfl,rfl,_,rfl,ph ?_⟩⟩⟩⟩⟩⟩;refine⟨_,rfl,wA,Y,_,rfl,Z,rfl,_,rfl,cA,dx,_,rfl,i.c.ob,rfl,cA,dx,nA,l,d+1,_,rfl,i.c,J,?_⟩;have g:=i.Z4 k (d+1+1);refine⟨_,rfl,cA,dx,_,rfl,g.c.ob,rfl,cA,dx,nA,l,d+1+1,r,t,rfl,g.c,hd2,λq T U=>?_⟩;have S:=g.row k (d+1+1+1+r.length) T U (o:=.lst (r.map V.int));rw[show d+(PyFlat.put1 [[6,(j:Int)],r]).length=d+1+1+1+r.length by simp[PyFlat.put1,PyFlat.putRows,PyFlat.putRow];omega] at out;have out:Kh K c Q E _ (if iX s (cf r)=false then .refused 1 else match s.wetOf (cf r) j with
   |some w=>.length w
   |none=>.refused 4):=out
  refine⟨wA,j,q,s,_,rfl,S.wx,by rw[Bs nr];exact bh.of ai,X,λz=>?_,λz=>?_⟩
  ·rw[if_pos z] at out;exact λH' e b m=>out H' e cV xV m<|S.same b
  rw[if_neg (by rw[z];decide)] at out;refine⟨λz=>?_,λw hw=>?_⟩
  ·rw[show s.wetOf (cf r) j=none by unfold Gk;rw[fu z];rfl] at out;exact λH' e b m=>out H' e cN xN m<|S.same b
  ·rw[hw] at out;exact λH' a D b=>out H' a D<|S.same b
 ·obtain⟨rfl,rfl⟩:p=7/\u=PyFlat.putRow r++t:=.eK
  have I:=IU n;have ex:iW [[7],r]=some (.left<|cf r):=.eU;rw[ex] at M;cases M;have X:(cf r).length<=30000:=.e2
  refine⟨_,rfl,rfl,_,rfl,jW ⟨_,rfl,rfl,_,rfl,jW ⟨_,rfl,rfl,_,rfl,jW ⟨_,rfl,rfl,_,rfl,jW ⟨_,rfl,rfl,_,rfl,jW ⟨_,rfl,rfl,_,rfl,jW ⟨_,rfl,rfl,_,rfl,ph ?_⟩⟩⟩⟩⟩⟩⟩;refine⟨_,rfl,wA,Y,_,rfl,Z,rfl,_,rfl,cA,dx,_,rfl,i.c.ob,rfl,cA,dx,nA,l,d+1,r,t,rfl,i.c,B,λq T U=>?_⟩;have g:=.fO;rw[show d+(PyFlat.put1 [[7],r]).length=d+1+1+r.length by simp[PyFlat.put1,PyFlat.putRows,PyFlat.putRow];omega] at out;have out:Kh K c Q E _ (if iX s (cf r)=false then .refused 1 else .length<|s.leftOf<|cf r):=out
  refine⟨wA,q,s,_,rfl,g.wx,by rw[Bs I];exact bh.of ai,X,λz=>?_,λz=>?_⟩
  ·rw[if_pos z] at out;exact λH' e b m=>out H' e cV xV m<|g.same b
  ·rw[if_neg (by rw[z];decide)] at out;exact λH' a D b=>out H' a D<|g.same b
end
end Pr
namespace L2
open PySem PySem.Spec PyProof.Rows
theorem Bt{X:Cx}{K:ah}{e:Expr}{g:Str}{pos:Pos}{ta:TE}(a:X.K=K)(b:PE X e ta)(c:attributeBase e g X.env .bA=.bA):PE X (.Attribute e g pos) (Ww K ta g):=by
 subst a;exact UA b c
end L2
namespace Pr
open PySem PySem.Spec PyProof.Rows L2 Pw TL
theorem Ta(r:.e):(WaNeutral.ints r).map V.int=aW r:=by unfold WaNeutral.ints aW;rw[c8];rfl
theorem LQ{s:aM}(O:iM s)(l:.e):(dX s l).length<=1024:=by
 refine bK (ft _ _) ?_;rw[kH];exact O.nr
theorem LR{s:aM}(O:iM s)(x:LZ):(fE (eY s x).2).length<=1100:=by
 have i:∀r:.e,r.length<=1024->(fE<|.row r).length<=1100:=λr h=>by
  show(0::WaNeutral.ints r).length<=1100;unfold WaNeutral.ints;rw[bB,au];omega
 have c:∀a,(fE<|.length a).length<=1100:=λa=>(by show 3<=1100;decide);have b:∀a,(fE<|.refused a).length<=1100:=λa=>(by show 1<=1100;decide);cases x with
 |read t=>
  unfold eY;dsimp only;split
  ·exact b 2
  ·split
   ·show 3<=1100;decide
   ·show 5<=1100;decide
 |reach l=>show(fE<|if _ then _ else _).length<=_;split;exact b 1;exact i _<|LQ O _
 |off j=>show(fE<|if _ then _ else _).length<=_;split;exact b 1;exact i _<|bK (ft _ _)<|LQ O _
 |isolate p=>
  show(fE (if _ then _ else if _ then _ else match mx s p with|some l=>.row l|none=>.refused 3)).length<=_
  split
  ·exact b 4
  ·split
   ·exact b 2
   ·cases h:mx s p with
    |none=>exact b 3
    |some l=>
     refine i l ?_;obtain⟨n,e,d⟩:=List.exists_of_findSome?_eq_some h;have:=((ke n (eE s) l).mp<|List.mem_of_find?_eq_some d).1.length_le;refine bK this<|bK (ft _ _) ?_;rw[kH];exact O.nj
 |level j l=>show(fE (if _ then _ else if _ then _ else match (s.levels l).getD j none with|some h=>.length h|none=>.refused 3)).length<=_;split;exact b 1;split;exact b 4;cases (s.levels l).getD j none;exact b 3;exact c _
 |wet p l=>show(fE (if _ then _ else match s.wetOf l p with|some h=>.length h|none=>.refused 4)).length<=_;split;exact b 1;cases s.wetOf l p;exact b 4;exact c _
 |left l=>show(fE<|if _ then _ else _).length<=_;split;exact b 1;exact c _
theorem Ki{cl:List .ak}(h:mw cl=true):∃x,iW cl=.v:=by
 rcases nJ h with⟨r,rfl,h1⟩|⟨r,rfl,h1⟩|⟨a,rfl,h1⟩|⟨a,rfl,h1⟩|⟨a,r,rfl,h1,h2⟩|⟨a,r,rfl,h1,h2⟩|⟨r,rfl,h1⟩
 ·exact⟨_,if_neg (by simp[fU];exact(LP h1).1)⟩
 ·exact⟨_,if_neg (by simp[fU];exact IU h1)⟩
 ·exact⟨_,if_neg (by simp[fU];exact w32 h1)⟩
 ·exact⟨_,if_neg (by simp[fU];exact w32 h1)⟩
 ·exact⟨_,if_neg (by simp[fU];exact⟨w32 h1,IU h2⟩)⟩
 ·exact⟨_,if_neg (by simp[fU];exact⟨w32 h1,IU h2⟩)⟩
 ·exact⟨_,if_neg (by simp[fU];exact IU h1)⟩
theorem Dd{cl:List .ak}(h:mw cl=true):1<=(PyFlat.put1 cl).length:=by
 rcases nJ h with⟨r,rfl,_⟩|⟨r,rfl,_⟩|⟨a,rfl,_⟩|⟨a,rfl,_⟩|⟨a,r,rfl,_⟩|⟨a,r,rfl,_⟩|⟨r,rfl,_⟩<;>simp[PyFlat.put1]
theorem Tb(c:List .ak):zQ c=c:=by unfold zQ;split<;>rfl
theorem Post.from{K:ah}{c:CA}{ls:.B}{H H1 H2:Hp}{wA cA dx nA:Addr}{l:.ak}{s:aM}{d:Nat}(e:Same H H1)(p:Post K c ls H1 H2 wA cA dx nA l s d):Post K c ls H H2 wA cA dx nA l s d:=⟨p.w.imp λ_ h=>⟨h.1,λb a=>(h.2 b a).imp id e.free⟩,p.c,λb o f g q=>p.fr b o f g<|e _ _ q⟩
abbrev LS:Stmt:=top 113
abbrev Bu:Stmt:=top 114
theorem Bv:az ["water","calls","refusal","fault"] ["water","calls"] (ao LS):=fscope
theorem NU:az ["calls","water","walk","given","numbers"] ["calls"] (ao Bu):=fscope
def IV(K:ah)(c:CA):Sp:=λvs H Q _=>∃wA cA dx nA l d s cl t x ls,vs=[.ref wA,.ref cA]/\yf K c ls H wA s/\sP K c H cA dx nA l d/\l.drop d=PyFlat.put1 cl++t/\mw cl=true/\l.length<=30000/\iW cl=.v/\
 ∀H' a,H' a=some (.lst<|(fE (eY s x).2).map V.int)->Post K c ls H H' wA cA dx nA l (eY s x).1 (d+(PyFlat.put1 cl).length)->(∀b o,b≠wA->b≠cA->H b=.i->b≠a)->Q .E H'
def De(K:ah):Sp:=λvs H Q _=>∃a l,vs=[.E]/\bh K H a (l.map V.int)/\l.length<=30000/\Gp l=true/\∀H' p,H' p=some (.lst<|(Gq l).map V.int)->Q .aO H'
structure Kj(K:ah)(mg:.aa)(c:CA)(cR cF:ClassData):Prop where
 mR:mg "Refusal"=some (.ref c.R)
 xR:Ep K c.R cR
 mF:mg "Fault"=some (.ref c.F)
 xF:Ep K c.F cF
 no:cF.mro.contains (.ref c.R)=false
 ye:cF.mro.contains (.ref c.F)=true
 nk:bM K c.F "kind"
 nl:bM K c.F "line"
section
variable{P:Program}{w:World}{K:ah}{mg:.aa}{base:Heap}{c:CA}
theorem NV{f f1:Addr}{fd eX:FuncData}{cR cF:ClassData}(F:d8 K "answer" "answer" LS f fd)(k:ly K c)(N:Ek mg)(X:Kj K mg c cR cF)(GM:dQ P w K mg base .aK 10 "make_call" ["water","calls"] (S9 K c) f1 eX):aX P w K mg base bV 11 f fd ["water","calls"] (IV K c):=by
 refine F.ok1 Bv ?_;rintro cdv A outer st H _ Q E hr nd ⟨wA,cA,dx,nA,l,d,s,cl,t,x,ls,rfl,T,U,hd,ha,ll,L,Y⟩;obtain⟨t0,h0⟩:=N.k0;obtain⟨tf,hf⟩:=N.kf;refine⟨_,(ap (Yj rfl rfl rfl (λpn W E1 L=>(ap (aJ (dm X1 (eW (ae (aR .s h0 (v:=.int 0) .Y) ak)) (dG GM hr L (ae .j .cw))))))
  (Qt (i:=2) Bv.nd rfl rfl .s X.mR X.xR (λe=>(ap (aJ (eW (ae (KB DA (Bt (K:=K) rfl .M rfl)) ak)))))
   (Qt (i:=3) Bv.nd rfl rfl .s X.mF X.xF (λe=>(ap (aJ (eW (ae (aR .s hf (v:=.int (-100)) .Y) (ae (Bt (K:=K) rfl .aj rfl) (ae (Bt (K:=K) rfl .aj rfl) ak))))))) Yi rfl rfl) rfl rfl))),?_⟩
 refine⟨ .cL,λj B=>?_⟩;have s1:Same H (upd H j<|.lst [.int 0]):=Same.new B;have D:(upd H j<|.lst [.int 0]) j=some (.lst [.int 0]):=ai;obtain⟨_,_,_,_,_,_,_,_,_,oW,_,O,_⟩:=id T;have nw:j≠wA:=λz=>by rw[z,oW] at B;cases B
 have nc:j≠cA:=λz=>by rw[z,U.ob] at B;cases B
 generalize upd H j (.lst [.int 0])=H1 at s1 D;refine⟨_,rfl,_,rfl,wA,cA,dx,nA,l,d,s,cl,t,x,ls,rfl,T.same s1,U.same s1,hd,ha,ll,L,?_⟩;have al:=LR O x;have u:∀(r:.r) H2 a,(fE (eY s x).2).map V.int=.int 0::r->H2 a=some (.lst r)->Post K c ls H1 H2 wA cA dx nA l (eY s x).1 (d+(PyFlat.put1 cl).length)->aaz (.ref j) .E H2 Q:=λr H2 a e h2 p=>by
  have rl:=congrArg l4 e;rw[au,bB] at rl;refine⟨j,a,_,_,rfl,rfl,p.fr j _ nw nc D,h2,by show 1+r.length<=_;rw[sizeLine_eq];omega,λq g=>Y _ q (by rw[ai,e];rfl) ((p.from s1).same<|Same.new g) λb o M R S z=>?_⟩;rw[<-z,p.fr b o M R<|s1 _ _ S] at g;cases g
 have m:∀(r:.r) H2 ex (o:HO) q,(fE (eY s x).2).map V.int=r->H2 ex=none->(upd H2 ex o) q=none->Post K c ls H1 H2 wA cA dx nA l (eY s x).1 (d+(PyFlat.put1 cl).length)->Q (.ref q) (upd (upd H2 ex o) q<|.lst r):=λr H2 ex o q e h2 g p=>by
  have Z:Same H2 (upd H2 ex o):=Same.new h2;refine Y _ q (by rw[ai,e]) ((p.from s1).same<|Z.trans<|Same.new g) λb o' M R S z=>?_;rw[<-z,Z _ _<|p.fr b o' M R<|s1 _ _ S] at g;cases g
 cases G:(eY s x).2 with
 |numbers r=>exact λH2 a h2 p=>u _ H2 a (by rw[G];show .int 0::(WaNeutral.ints r).map V.int=_;rw[Ta]) h2 p
 |row r=>exact λH2 a h2 p=>u _ H2 a (by rw[G];show .int 0::(WaNeutral.ints r).map V.int=_;rw[Ta]) h2 p
 |length y=>exact λH2 a h2 p=>u _ H2 a (by rw[G];rfl) h2 p
 |refused n=>
  intro H2 e C xr I p;obtain⟨cd,xc,hm,na⟩:=xr;refine⟨C,e,rfl,rfl,λex h=>⟨cd,xc,?_⟩⟩;rw[if_pos hm];have ne:e≠ex:=aC I h;exact⟨_,rfl,ex,C,e,_,cd,_,rfl,ai,by rw[aq ne];exact I,xc,na,rfl,_,rfl,.cL,λq g=>m _ H2 ex _ q (by rw[G];rfl) h g p⟩
 |fault kd i=>
  intro H2 e I p;refine⟨c.F,e,rfl,rfl,λex h=>⟨cF,X.xF,?_⟩⟩;rw[if_neg (by rw[X.no];decide)];refine⟨cF,X.xF,?_⟩;rw[if_pos X.ye];have ne:e≠ex:=aC I h;have J:∀o,(upd H2 ex o) e=some (qv e [("kind",.int (kd:Nat)),("line",.bC)]):=λo=>by rw[aq ne];exact I
  exact⟨_,rfl,ex,c.F,e,_,cF,_,rfl,ai,J _,X.xF,X.nk,rfl,_,rfl,ex,c.F,e,_,cF,_,rfl,ai,J _,X.xF,X.nl,rfl,.dG,λq g=>m _ H2 ex _ q (by rw[G];rfl) h g p⟩
theorem Kk{f f1 f2 f3 f4:Addr}{fd eX fd2 qz tM:FuncData}(F:d8 K "answers" "answers" Bu f fd)(B:nG mg)(k:ly K c)(GW:Bj P w K mg base 7 "Water" c.W .ae (abT K c) f1 eX)(GC:Bj P w K mg base 1 "CallList" c.C ["self","numbers"] (Xo c) f2 fd2)(GH:iQ P w K mg base bV 1 c.C "has_more" .ae (S5 K c) f3 qz)
  (GA:dQ P w K mg base bV 11 "answer" ["water","calls"] (IV K c) f4 tM):aX P w K mg base bV 12 f fd ["calls"] (De K):=by
 refine F.ok1 NU ?_;rintro cdv A outer st H _ Q E hr nd ⟨a,l,rfl,hL,ll,n,S⟩;refine⟨_,(af (bu 1 (yB GW hr)) (af (bu 2 (D9 GC hr (ae .j ak))) (af (bu 3 (eW ak)) (af (mJ dc (ko (eI GH hr .M aP))
   (af (bu 4 (dG GA hr aP (ae .o .cG))) (af (aL (mL fV gz gW fP .aj (ae (dz B.len .ay) ak))) (ap (aL (mL fV zm FJ CD .aj (ae .ay ak))))))) (ap (aJ .aj)))))),?_⟩
 unfold Gp Gr at n;unfold Gq Gr at S;cases T:PyFlat.calls Mb l.length l with
 |none=>rw[T] at n;cases n
 |some cs=>
  rw[T] at n S;dsimp only at n S;have em:cs.map zQ=cs:=by
   conv=>rhs;rw[<-BV cs]
   exact qD λc _=>Tb c
  rw[em] at n S;obtain⟨el,_⟩:=PyFlat.put_calls _ _ _ T;unfold LW at n;rw[cn,cn,cn,cn] at n;have n60:cs.length<=60:=of_decide_eq_true n.2.2.1;have v:∀c,c∈cs->mw c=true:=eC.mp n.2.2.2.1;intro wA dw Jf hdw ndw;refine⟨wA,dw,rfl,ai,λH1 U D f1 u1=>⟨rfl,?_⟩⟩;have s1:Same H H1:=λb o e=>u1 b o (aC e Jf) (by rw[aq<|aC e Jf,aq<|aC e hdw];exact e);refine⟨_,rfl,λcA dx X hdx ndx=>⟨cA,dx,a,rfl,ai,rfl,?_⟩⟩;have Y:Same H1 (upd (upd (upd H1 dx<|.own cA) cA<|.ins c.C dx []) cA<|LM c dx a 0):=(((Same.refl H1).put hdx).put X).put X;have t:sP K c (upd (upd (upd H1 dx<|.own cA) cA<|.ins c.C dx []) cA<|LM c dx a 0) cA dx a l 0:=⟨ai,(s1.trans Y).seq hL⟩;generalize upd (upd (upd H1 dx<|.own cA) cA<|.ins c.C dx []) cA (LM c dx a 0)=H2 at Y t;refine⟨bj _,λg y=>?_⟩;have s3:Same H2 (upd H2 g<|.lst []):=Same.new y;have Z:=D.same<|Y.trans s3;have hC3:=t.same s3;have Z2:(upd H2 g<|.lst []) g=some (.lst []):=ai;obtain⟨_,_,_,_,_,_,_,_,_,oW,_⟩:=D.same Y;have ngw:g≠wA:=λz=>by rw[z,oW] at y;cases y
  have G:g≠cA:=λz=>by rw[z,t.ob] at y;cases y
  have nga:a≠g\/∀H,bh K H a (l.map V.int):=by
   rcases t.nm with(q|⟨o,q⟩)|q
   ·exact .inl<|aC q y
   ·exact .inl<|aC q y
   ·exact .inr λ_=>.inr q
  have I:g∉U:=λz=>by
   obtain⟨_,_,_,L,rL,kL,_,_,rfl,_,h2,_,h4⟩:=D.same Y;have h:∃xs,H2 g=.aZ:=by
    rcases aH.mp z with z|z
    ·obtain⟨as,ha,_⟩:=h4.rs;exact⟨_,by rw[z];exact ha⟩
    rcases aH.mp z with z|z
    ·exact⟨_,by rw[z];exact h4.kl⟩
    rcases aH.mp z with z|z
    ·exact⟨_,by rw[z];exact h2.jl⟩
    rcases aH.mp z with z|z
    ·exact⟨_,by rw[z];exact h2.ql⟩
    obtain⟨j,hj,z⟩:=gP.mp z;obtain⟨i,hi⟩:=fh hj;have il:=.ch;rw[h2.jn] at il;exact absurd il<|ig _
   obtain⟨xs,h⟩:=h;rw[y] at h;cases h
  generalize upd H2 g (.lst [])=H3 at s3 Z hC3 Z2;refine⟨λm σ H'=>∃(d:Nat) (s:aM) (cr:List (List .ak)) (out:.ak) (R:.aw) (ls:.B),m=l.length-d/\σ=[some .E,.cV,some (.ref cA),some (.ref g),R]/\g∉ls/\yf K c ls H' wA s/\sP K c H' cA dx a l d/\H' g=some (.lst (out.map V.int))/\
    l.drop d=PyFlat.put cr/\(∀c,c∈cr->c∈cs)/\out.length+1200*cr.length<=80000/\oU (oQ jN FA cs)=out++oU (oQ jN s cr),
   ⟨_,0,oy,cs,[],none,U,rfl,rfl,I,Z,hC3,Z2,el,λ_ h=>h,.bq,rfl⟩,?_⟩
  rintro m σ H4 ⟨d,s,cr,out,R,ls,rfl,rfl,I,hW4,J,u,UR,M,hb,ht⟩;refine⟨_,rfl,cA,dx,_,rfl,J.ob,rfl,cA,dx,a,l,d,rfl,J,_,rfl,?_⟩;refine c7 (λcc=>?_) λcc=>?_
  ·have cc:=of_decide_eq_true cc;cases cr with
   |nil=>
    have:=congrArg l4 UR;rw[iS] at this;simp[PyFlat.put] at this;omega
   |cons c1 cr=>
    have ha:=v c1 (M c1 bf);obtain⟨x,hx⟩:=Ki ha;have p1:=Dd ha;have hd5:l.drop d=PyFlat.put1 c1++PyFlat.put cr:=UR;refine⟨λσ H'=>∃(s:aM) (out:.ak) (R:.aw) (ls:.B),σ=[some .E,.cV,some (.ref cA),some (.ref g),R]/\g∉ls/\yf K c ls H' wA s/\sP K c H' cA dx a l (d+(PyFlat.put1 c1).length)/\H' g=some (.lst (out.map V.int))/\
     out.length+1200*cr.length<=80000/\oU (oQ jN FA cs)=out++oU (oQ jN s cr),λσ' H' ⟨s,out,R,ls,e,h0,h1,h2,h3,h4,h5⟩=>⟨_,?_,_,s,cr,out,R,ls,rfl,e,h0,h1,h2,h3,?_,λc T=>M c (aV _ T),h4,h5⟩,?_⟩
    ·omega
    ·rw[<-yS,hd5,List.drop_left' rfl]
    refine⟨_,rfl,_,rfl,wA,cA,dx,a,l,d,s,c1,PyFlat.put cr,x,ls,rfl,hW4,J,hd5,ha,ll,hx,λH5 r K9 p fr=>?_⟩;obtain⟨_,_,_,_,_,_,_,_,_,_,_,O,_⟩:=hW4;obtain⟨l5,w5,f5⟩:=p.w;have ng5:g∉l5:=λz=>by
     rcases f5 g z with q|q
     ·exact I q
     ·rw[u] at q;cases q
    have al:=LR O x;have nr:=fr g _ ngw G u;have N:=p.fr g _ ngw G u;have est:jN s c1=((eY s x).1,fE (eY s x).2):=by unfold jN;rw[hx]
    generalize fE (eY s x).2=ns at K9 al est;rw[bB] at hb;refine⟨_,rfl,.inl ⟨rfl,_,bh.of N⟩,_,rfl,r,_,rfl,.inl<|bh.of K9,g,_,_,rfl,rfl,N,.et,?_⟩;refine⟨_,rfl,.inl ⟨rfl,_,bh.of ai⟩,_,rfl,g,r,_,_,rfl,rfl,ai,by rw[aq<|aF nr];exact K9,by rw[bS,au,au,sizeLine_eq];simp;omega,?_⟩;rw[g9];refine⟨(eY s x).1,out++((ns.length:Int)::ns),_,l5,rfl,ng5,w5.lst N ng5,?_,?_,?_,?_⟩
    ·refine⟨by rw[aq<|aF G];exact p.c.ob,?_⟩;rcases nga with na|na
     ·rcases p.c.nm with(q|⟨o,q⟩)|q
      ·exact .inl<|.inl (by rw[aq na];exact q)
      ·exact .inl<|.inr ⟨o,by rw[aq na];exact q⟩
      ·exact .inr q
     ·exact na _
    ·rw[ai,au,fB,bP,iR];rfl
    ·rw[bS,bB];omega
    ·rw[ht,iR];congr 1;show oU ((jN s c1).2::oQ jN (jN s c1).1 cr)=_;rw[est];rfl
  ·have cc:¬d<l.length:=λz=>cc<|decide_eq_true z;cases cr with
   |cons c1 cr=>
    have p1:=Dd<|v c1<|M c1 bf;have:=congrArg l4 UR;rw[iS] at this;simp[PyFlat.put] at this;omega
   |nil=>
    refine⟨_,rfl,S H4 g ?_⟩;rw[u,ht];simp[oQ,oU]
end
open PySem.W (nsIn findIn isFn codeIn keepIn)
abbrev Bd(x q:Str)(st:Stmt)(ps:.L):Prop:=∀(kV doc pm:Value) (an:.bS) (cdv ct:Value) (us:.u),us.length=ps.length->bindArgs (c9 x q (fk st) (dZ st) .a1 .none kV doc pm an cdv ct) ⟨us,[]⟩=pure (ps.zip us)
structure Tp(P:Program)(w:World)(K:ah)(mg:.aa)(base h:Heap):Prop where
 X:K.In h
 G:h.Ns mainGlobals mg
section
variable{P:Program}{w:World}{K:ah}{mg:.aa}{base h:Heap}{CX:BD}{k:Nat}{C f:Addr}{m q:Str}{st:Stmt}{ps:.L}{sp:Sp}{oc:Value}{od an:.bS}{osl:Array .br}{kV doc pm cdv ct:Value}
theorem cst{x:Str}{v:Value}(T:.cQ)(e:nsIn K mainGlobals x=some .av:=by k_is):mg x=.av:=PySem.W.mg_of T.X T.G e
theorem ZM(b:Bd m q st ps:=by first|exact(λ_ _ _ _ _ _ us a=>match us,a with | [_],_=>rfl)|exact(λ_ _ _ _ _ _ us a=>match us,a with | [_,_],_=>rfl)|exact(λ_ _ _ _ _ _ us a=>match us,a with | [_,_,_],_=>rfl)|exact(λ_ _ _ _ _ _ us a=>match us,a with | [_,_,_,_],_=>rfl)|exact(λ_ _ _ _ _ _ us a=>match us,a with | [_,_,_,_,_],_=>rfl)|exact(λ_ _ _ _ _ _ us a=>match us,a with | [_,_,_,_,_,_],_=>rfl)):Bd m q st ps:=b
theorem gfn{x:Str}(T:.cQ)(e:nsIn K mainGlobals x=.c2:=by k_is)(l:K.lookup f=some ⟨oc,od,.func<|c9 x x (fk st) (dZ st) .a1 .none kV doc pm an cdv ct,osl⟩:=by k_is)(c:codeIn K cdv x=true:=by k_is)(a:keepIn K .aG=true:=by k_is):
  mg x=some .aG/\d8 K x x st f (c9 x x (fk st) (dZ st) .a1 .none kV doc pm an cdv ct):=⟨cst T e,tI l c a⟩
theorem nW{x:Str}(T:.cQ)(ok:∀fd,d8 K x x st f fd->.eo)(b:Bd x x st ps:=by exact ZM)(e:nsIn K mainGlobals x=.c2:=by k_is)
  (l:K.lookup f=some ⟨oc,od,.func<|c9 x x (fk st) (dZ st) .a1 .none kV doc pm an cdv ct,osl⟩:=by k_is) (c:codeIn K cdv x=true:=by k_is) (a:keepIn K .aG=true:=by k_is):
  dQ P w K mg base CX k x ps sp f (c9 x x (fk st) (dZ st) .a1 .none kV doc pm an cdv ct):=
 let F:=tI (st:=st) l c a
 ⟨cst T e,a,F.binds b,ok _ F⟩
theorem qe(T:.cQ)(cl:x6 K C)(ok:∀fd,d8 K m q st f fd->.eo)(b:Bd m q st ps:=by exact ZM)(e:findIn K .I m=.c2:=by k_is)(i:isFn K .aG=true:=by k_is)
  (l:K.lookup f=some ⟨oc,od,.func<|c9 m q (fk st) (dZ st) .a1 .none kV doc pm an cdv ct,osl⟩:=by k_is) (c:codeIn K cdv q=true:=by k_is) (a:keepIn K .aG=true:=by k_is):
  iQ P w K mg base CX k C m ps sp f (c9 m q (fk st) (dZ st) .a1 .none kV doc pm an cdv ct):=
 let F:=tI (st:=st) l c a
 ⟨cl,⟨e,i,a⟩,F.binds b,ok _ F⟩
theorem ZN(T:.cQ)(x:Str)(ok:∀fd,d8 K m q st f fd->aX P w K mg base bV k f fd ps sp)(b:Bd m q st ps:=by exact ZM)(g:nsIn K mainGlobals x=some (some<|.ref C):=by k_is)(mk:y4 K C=true:=by k_is)(e:findIn K .I "__init__"=.c2:=by k_is)
  (i:isFn K .aG=true:=by k_is) (a:keepIn K .I=true:=by k_is) (l:K.lookup f=some ⟨oc,od,.func<|c9 m q (fk st) (dZ st) .a1 .none kV doc pm an cdv ct,osl⟩:=by k_is) (c:codeIn K cdv q=true:=by k_is) (d:keepIn K .aG=true:=by k_is):
  Bj P w K mg base k x C ps sp f (c9 m q (fk st) (dZ st) .a1 .none kV doc pm an cdv ct):=
 let F:=tI (st:=st) l c d
 ⟨cst T g,⟨mk,e,i,a⟩,F.binds b,ok _ F⟩
theorem cls(T:.cQ)(x:Str)(g:nsIn K mainGlobals x=some (some<|.ref C):=by k_is)(a:qK K C oK=true:=by k_is)(b:qI K C=true:=by k_is)(c:yZ K C=true:=by k_is)(d:findIn K .I "__setattr__"=.el:=by k_is):x6 K C:=⟨a,b,c,d⟩
theorem na(e:findIn K .I m=.am:=by k_is):bM K C m:=e
theorem xcl{cd:ClassData}(a:Fe K C=some cd:=by k_is)(b:XL.mG cd.mro=true:=by rfl)(c:cd.hasDict=true:=by rfl)(d:findIn K .I "__setattr__"=.el:=by k_is)(e:findIn K .I "__getattribute__"=.fL:=by k_is)(g:findIn K .I "__getattr__"=.am:=by k_is)
  (t:y9 K .I=some .bN:=by k_is):Ep K C cd:=⟨a,b,c,d,e,g,t⟩
theorem xmk{nm q:Str}{N:Addr}{bs bm:.u}{c:Bool}{d:.L}{sub:.u}{g:Bool}{b:Option Bool}{h:.bS}{j k m n o:.br}(l:K.lookup C=some (excClassObj nm q C N bs bm c d sub g b h j k m n o "Exception.__new__"):=by k_is)
  (a:(bm.contains (.type "Exception")&&bm.contains .cy&&!bm.contains (.type "AttributeError")&&!bm.contains (.type "NameError"))=true:=by rfl) (e:findIn K .I "__init__"=.c2:=by k_is) (i:isFn K .aG=true:=by k_is) (p:keepIn K .I=true:=by k_is):Tf K C f:=by
 simp only[cn,zf] at a;exact⟨⟨nm,q,N,bs,bm,c,d,sub,g,b,h,j,k,m,n,o,l,a.1.1.1,a.1.1.2,a.1.2,a.2⟩,e,i,p⟩
theorem Z5{z:Int}{cd:ClassData}(T:.cQ)(x:Str)(ok:∀fd,d8 K "__init__" q st f fd->aX P w K mg base bV 2 f fd .ae (Im K z))(b:Bd "__init__" q st .ae:=by exact ZM)(g:nsIn K mainGlobals x=some (some<|.ref C):=by k_is)(a:Tf K C f:=by exact xmk)(d:Ep K C cd:=by exact xcl)(n:bM K C "number":=by exact na)
  (l:.fh:=by k_is) (c:codeIn K cdv q=true:=by k_is) (e:keepIn K .aG=true:=by k_is):
  D0 P w K mg base x C z f .fz cd:=
 let F:=tI (st:=st) l c e
 ⟨cst T g,a,ok _ F,F.binds b,d,n⟩
theorem mkR(T:.cQ)(ok:∀fd,d8 K "__init__" q st f fd->aX P w K mg base bV 1 f fd .cn (JT K))(b:Bd "__init__" q st .cn:=by exact ZM)(g:nsIn K mainGlobals "Refusal"=some (some<|.ref C):=by k_is)(d:qJ K .I "__getattribute__"=some (some<|.builtin "type.__getattribute__"):=by k_is)(e:y6 K C .bN=true:=by k_is)
  (i:y8 K .I .bN "__init__"=some (.val<|.ref f):=by k_is) (l:.fh:=by k_is) (c:codeIn K cdv q=true:=by k_is) (a:keepIn K .aG=true:=by k_is):
  Io P w K mg base C f .fz:=
 let F:=tI (st:=st) l c a
 ⟨cst T g,d,e,i,a,ok _ F,F.binds b⟩
theorem mkF{cd:ClassData}(T:.cQ)(ok:∀fd,d8 K "__init__" q st f fd->aX P w K mg base bV 1 f fd .d9 (QR K))(b:Bd "__init__" q st .d9:=by exact ZM)(g:nsIn K mainGlobals "Fault"=some (some<|.ref C):=by k_is)(a:Tf K C f:=by exact xmk)(d:Ep K C cd:=by exact xcl)(e:bM K C "kind":=by exact na)(i:bM K C "line":=by exact na)
  (l:.fh:=by k_is) (c:codeIn K cdv q=true:=by k_is) (j:keepIn K .aG=true:=by k_is):
  UO P w K mg base "Fault" C f .fz cd:=
 let F:=tI (st:=st) l c j
 ⟨cst T g,a,ok _ F,F.binds b,d,e,i⟩
theorem Wb{fd:FuncData}(F:d8 K m q st f fd)(b:Bd m q st ps:=by exact ZM)(s:Shared)(us:.u)(a:us.length=ps.length):BindsTo s fd ⟨us,[]⟩ (ps.zip us):=by
 obtain⟨oc,od,kV,doc,pm,an,cdv,ct,osl,rfl,_⟩:=F.ex;exact .of_eq<|b kV doc pm an cdv ct us a
theorem xr{c:CA}{x:Str}{n:Int}{fd:FuncData}{cd:ClassData}(X:D0 P w K mg base x C n f fd cd)(r:cd.mro.contains (.ref c.R)=true:=by rfl):XR K c C:=⟨cd,X.xc,r,X.na⟩
theorem Xq{α:Type}{Q:α->Nat->Prop}:∀{as:.aP} {n:Nat},Paired Q as (qG n as.length)->∀(i:Nat) d,as[i]?=.aS->Q d (n+i)
 |[],_,_,i,d,e=>by simp at e
 |a::as,n,.cons q _,0,d,e=>by cases e;exact q
 |a::as,n,.cons _ t,i+1,d,e=>by have:=Xq t i d e;rwa[Nat.add_assoc,zd 1] at this
theorem krd{cS cJ cP cR:Addr}(_:.aA)(k:.by):.by:=k
theorem cak{cS cJ cP cH c g D h:Addr}{i fd:FuncData}{cd:ClassData}(_:Io P w K mg base D h i)(_:UO P w K mg base "Fault" C f fd cd)(a:.aA)(b:WY K cH)(d:x6 K c)(e:x6 K g)(k:.aA->WY K cH->x6 K c->x6 K g->ly K ⟨cS,cJ,cP,cH,c,g,C,D⟩):ly K ⟨cS,cJ,cP,cH,c,g,C,D⟩:=k a b d e
theorem tus{a b c:Addr}(_:.cQ)(s:QT P w K mg a b c):QT P w K mg a b c:=s
theorem cgs{c:CA}{cR cF:ClassData}(_:ly K c)(s:Kj K mg c cR cF):Kj K mg c cR cF:=s
theorem kt{its:.aE}{n:Nat}{a:Addr}{xs:.r}(l:K.lookup a=some ⟨ .bz,od,.seq its n,osl⟩:=by k_is)(z:its.size<=sizeLine:=by decide)(v:Vals xs its.toList:=by repeat (first|exact .nil|refine .cons .Y ?_)):KTup K a xs:=⟨_,its,n,l,rfl,rfl,z,v⟩
theorem tab{a:Addr}{kvs:.an}{es:Array DictEntry}{b:Nat}(hk:K.lookup a=some { cls:=.type "dict",data:=.dict es b }:=by k_is)(ne:.dd:=by decide)(R:tK w es.toList kvs:=by repeat (first|exact .nil|refine .cons .Y rfl .Y ?_|refine .cons .Y rfl rfl ?_))(c:(kvs.map (·.1)).Nodup:=by decide):pB P w K a kvs:=pB.of ne hk R c
theorem sts{a:Addr}{as:.B}(_:.cQ)(c:mg "STEPS"=some .E)(t:pB P w K a (nQ as))(l:as.length=18:=by rfl)(p:Paired (λd i=>KTup K d (abc i)) as (qG 0 as.length):=by repeat (first|exact .nil|refine .cons kt ?_)):Iq P w K mg a as:=⟨c,t,l,λi d e=>by
 have:=Xq p i d e;rwa[kO] at this⟩
theorem fos{a b:Addr}{as:.B}(_:.cQ)(c:mg "FORMS"=some .E)(t:pB P w K a (Be as))(e:mg "ENDS"=some .aM)(n:KTup K b (lN.map V.str))(l:as.length=8:=by rfl)(p:Paired (λt (p:Str×List Str)=>KTup K t (p.2.map V.str)) as sI:=by repeat (first|exact .nil|refine .cons kt ?_)):Rw P w K mg a b as:=⟨c,t,l,λi q t f d=>by
 obtain⟨x,g,z⟩:=xn p f;rw[g] at d;cases d;exact z,e,n⟩
theorem okb{a:Addr}{as:.B}{fd:FuncData}(_:Iq P w K mg a as)(F:d8 K "within_bounds" "within_bounds" yz f fd)(B:nG mg)(X:Nz mg):aX P w K mg base bV 1 f fd ["words"] (Bg K as):=NE F B X
end
end Pr
open PySem PySem.W PyProof.Rows L2 Pr
set_option maxRecDepth 100000 in
set_option maxHeartbeats 0 in
theorem PySem.Challenge.cw_pipewater_s01_answers_holds : PySem.Challenge.rw_pipewater_s01_answers.Holds := by
 w_on;k_headS;(case hw=>exact⟨[.list [.int 2,.int 0]],.aq,.aq⟩)
 k_fillS;refine L2.JH (r:=uQ) (k:=12) (CX:=L2.bV) (ps:=["calls"]) (sp:=λK=>Pr.De K) .aq rfl rfl ⟨rfl,.O,.O⟩ (λw h Y=>PySem.W.kIn_of Y) ?F ?S λ_ _ _ _ z=>z;case F=>
  intro w mg fa h Y KX G hmg;have T0:Tp uQ.prog w _ mg h h:=⟨KX,G⟩;have F0:=gfn (x:="answers") (st:=Bu) T0;cases hmg.symm.trans F0.1;refine⟨_,Wb F0.2,λbase _ _=>?_⟩;have T:Tp uQ.prog w _ mg base h:=⟨KX,G⟩;have B:nG mg:=by constructor<;>exact E8 KX G<|by k_is
  have KL:pH _ _ _ _:=⟨cls T "System",cls T "Joint",cls T "Pipe",na,na,na,na,na,na,na,na,na,na,na,na,na,.O⟩;have KH:WY _ _:=⟨cls T "Heights",na,na⟩;have KN:kF mg:=by constructor<;>exact⟨_,cst T⟩
  have CN:Ek mg:=by constructor<;>exact⟨_,cst T⟩
  have TX:Nz mg:=by constructor<;>exact⟨_,cst T⟩
  have KR:=krd KL ⟨cls T "Reader",na,na,na,na,na,na,.O,.O,.O,.O,.O⟩;have RI:=mkR T λ_ F=>UN F;have sN:=mkF T λ_ F=>Yz F;have CK:=cak RI sN KL KH (cls T "Water") (cls T "CallList") λa b c d=>⟨a,b,c,na,na,d,na,na,.O,.O,.O,.O,.O,.O,.O,.O,.O⟩;have SS:=sts (as:=[_,_,_,_,_,_,_,_,_,_,_,_,_,_,_,_,_,_]) T (cst T) tab;have TU:=tus T ⟨cst T,tab,cst T,tab,cst T,tab⟩;have FO:=fos (as:=[_,_,_,_,_,_,_,_]) T (cst T) tab (cst T) kt;have CG:=cgs CK ⟨RI.yc,xcl,sN.yc,sN.xc,rfl,rfl,sN.na,sN.nb⟩;have IW:=ZN T "System" λ_ F=>YZ F KL;have LU:=nW T λ_ F=>Rc F;have xt:=nW T λ_ F=>U0 F B LU;have wz:=qe T KH.cl λ_ F=>Vu F B KH xt;have sk:=qe T KL.J λ_ F=>NL F KL;have NW:=ZN T "Heights" λ_ F=>Y8 F KL KH wz sk;have wB:=qe T CK.w λ_ F=>V1 F CK NW;have Wc:=ZN T "Water" λ_ F=>abU F CK IW wB;have Kl:=ZN T "CallList" λ_ F=>ZK F CK;have sQ:=qe T CK.l λ_ F=>V9 F B CK;have j8:=qe T CK.l λ_ F=>S7 F CK;have sR:=qe T CK.l λ_ F=>S8 F CK j8;have NX:=nW T λ_ F=>U5 F B TX;have Tc:=ZN T "Reader" λ_ F=>Zw F KR KN IW;have fq:=qe T KR.R λ_ F=>VC F KR sN;have xW:=nW T λ_ F=>Rt F B;have IX:=nW T λ_ F=>Ru F B TX xW;have Td:=nW T λ_ F=>Rv F IX;have NY:=nW T λ_ F=>NA F B TX xW;have Bw:=nW T λ_ F=>Q7 F SS;have Km:=nW T λ_ F=>YN F FO IX Td NY Bw;have NZ:=nW T λ_ F=>U7 F B FO Km;have yg:=nW T λ_ F=>okb SS F B TX;have gO:=qe T KR.R λ_ F=>J9 F KR KN fq;have Wd:=ZN T "Joint" λ_ F=>YX F KL;have mV:=qe T KL.S λ_ F=>Vk F B KL Wd;have lD:=qe T KR.R λ_ F=>Ss F KL KR;have tY:=qe T KR.R λ_ F=>SD F B KL KR KN gO fq mV lD;have xu:=qe T KR.R λ_ F=>Zt F KR KN fq;have Kn:=nW T λ_ F=>UV F B;have ZO:=nW T λ_ F=>U1 F B TU Kn;have mW:=qe T KL.S λ_ F=>Y1 F B KL (cst T) (cst T) (cst T) kt ZO;have ZP:=nW T λ_ F=>U2 F B (cst T) (cst T) Kn;have ZQ:=ZN T "Pipe" λ_ F=>YY F KL;have wC:=qe T KL.S λ_ F=>Y0 F KL;have tZ:=nW T λ_ F=>YH F B;have wD:=qe T KL.S λ_ F=>Vl F B KL mV ZP ZQ wC tZ;have xw:=qe T KR.R λ_ F=>Zu F B KL KR KN fq mW wD;have eL:=qe T KR.R λ_ F=>Sr F KL KR KN fq;have uc:=qe T KR.R λ_ F=>Sy F gO eL lD;have sS:=qe T KR.R λ_ F=>NP F KL KR gO eL;have mX:=qe T KL.S (λ_ F=>Vm F B KL .O wC tZ);have xx:=qe T KR.R λ_ F=>Zv F KL KR KN fq eL mW mX tZ;have wF:=qe T KR.R λ_ F=>VM F KL KR eL;have Ko:=nW T λ_ F=>Rj F B<|cst T;have Bx:=nW T λ_ F=>Q8 F SS;have sU:=qe T KR.R λ_ F=>NT F B KR SS ⟨⟨_,_,tY⟩,⟨_,_,xu⟩,⟨_,_,xw⟩,⟨_,_,uc⟩,⟨_,_,sS⟩,⟨_,_,xx⟩,⟨_,_,wF⟩⟩ Ko Bx;have ud:=qe T KR.R λ_ F=>SI SS.len F KR KN fq NZ yg sU;have IY:=nW T λ_ F=>VR F KR KN NX Tc ud fq;have lz:=qe T KL.S λ_ F=>Nv F B KL;have BP:=qe T KL.S λ_ F=>UH F B KL;have El:=qe T CK.w λ_ F=>SW F B CK (cst T) IY wB lz BP;have ue:=qe T KL.S λ_ F=>Vr F B KL;have xX:=Z5 T "NotValves" λ_ F=>YA F RI;have fe:=qe T CK.w λ_ F=>SV F B CK ue xX;have LV:=nW T λ_ F=>QG F B KL;have xy:=qe T KL.S λ_ F=>JQ F B KL;have sr:=nW T λ_ F=>Yw F KL xy;have xA:=nW T λ_ F=>UJ F B;have Df:=nW T λ_ F=>UL F B KL (cst T) LV sr xA;have BQ:=qe T CK.w λ_ F=>SX F CK fe Df;have IZ:=qe T CK.w λ_ F=>ZE F B CK fe Df;have wG:=Z5 T "NoSuchPipe" λ_ F=>YD F RI;have nL:=qe T CK.w λ_ F=>SY F B CK wG;have Wf:=nW T λ_ F=>QP F B KL (cst T) LV sr xA lz;have N0:=gfn (x:="find_way") (st:=K5) T;have uf:=nW T λ_ F=>UB F B<|cst T;have Kp:=gfn (x:="count_ways") (st:=DR) T;have qg:=nW T λ_ F=>QA F B uf.yc N0.2 uf.bd uf.ok;have Ja:=nW T λ_ F=>QD F qg.yc Kp.2 qg.bd qg.ok;have Dg:=Z5 T "TooMany" λ_ F=>YB F RI;have sv:=Z5 T "NothingHelps" λ_ F=>YC F RI;have yh:=nW T λ_ F=>YF F B KL (cst T) (cst T) lz Wf Ja Dg sv;have yi:=qe T CK.w λ_ F=>ZF F CK nL yh;have xB:=qe T KL.S λ_ F=>Vt F B KL (cst T) kt;have sV:=qe T KL.S λ_ F=>Y4 F KL;have sx:=nW T λ_ F=>Zc F sV;have BR:=nW T (λ_ F=>Zd F B (E8 T.X T.G<|by k_is) KL KH xB sx);have mY:=nW T λ_ F=>Zi F KH xA BR;have sZ:=Z5 T "NoSuchJoint" λ_ F=>ZI F RI;have Dh:=Z5 T "NoLevel" λ_ F=>ZH F RI;have BS:=qe T CK.w λ_ F=>SZ F B CK fe mY sZ Dh;have Em:=nW T λ_ F=>Zo F KL xt;have Jb:=nW T λ_ F=>Zm F KL;have Jc:=nW T λ_ F=>Zn F KL;have En:=nW T λ_ F=>UZ F;have xC:=nW T λ_ F=>Vx F KL Kn En;have Bz:=nW T λ_ F=>Sl F KL (cst T) (cst T) kt Jb Jc xt xC LU sk;have wH:=nW T λ_ F=>Vy F Em Bz;have Jd:=qe T CK.w λ_ F=>ZG F B CK fe nL mY wH;have ZR:=nW T λ_ F=>UY F;have Wg:=nW T λ_ F=>Re F;have BU:=nW T λ_ F=>Vz F KL (cst T) kt ZR Wg wH;have Eo:=qe T CK.w λ_ F=>S0 F B CK fe mY BU;have Je:=nW T λ_ F=>Wa F CK CN (xr xX) (xr wG) (xr Dg) (xr sv) (xr sZ) (xr Dh) j8 sR El BQ IZ yi BS Jd Eo;have Te:=nW T λ_ F=>NV F CK CN CG Je;have N1:=nW T λ_ F=>Kk F B CK Wc Kl sQ Te;exact N1.ok
 case S=>
  intro K H xs a hO hwi adk hx;cases hx with
  |cons h1 h2=>
   cases h2;cases h1 with
   |lst hs ha=>
    have e:=L2.KW a.1 _ ha;subst e;have q:((Codec.inLen 0 30000 a.1&&a.1.all (Codec.inInt 0 4294967295))&&true)=true:=hwi;rw[cn,cn] at q;exact⟨_,a.1,rfl,hs,(Codec.inNat_iff.mp q.1.1).2,adk,λH' p hp=>.lst (L2.bh.of hp)<|L2.KU _⟩
