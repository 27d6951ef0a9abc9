import PyProof.Rows.All
import Wide.All
import OpenK.AllK
import Wide.FinOn
import PyProof.EqAt
import PyProof.EqKinds
import PyProof.TupleCall
import KE.BitLaws
import KE.OsGo
import Open.SpecLaws
import PySem.Challenge.RW_greyreel_s01_answers
set_option Elab.async false
set_option linter.all false
set_option maxRecDepth 100000
set_option compiler.extract_closed false
set_option bootstrap.genMatcherCode false
set_option genSizeOf false
open List renaming mem_cons_self->ae,length_map->ah,mem_cons_of_mem->ai,length_append->aj,replicate->aq,range->ar,mem_map->ay,length_take->aA,mem_cons->aB,getElem?_map->aE,map_map->aF,size_toArray->aG,getElem?_eq_getElem->aI,length_cons->aJ,length_replicate->aP,getD_eq_getElem?_getD->aR,map_congr_left->aW,map_append->aY,length_drop->ba,nodup_cons->bc,map_cons->bg,getElem?_eq_some_iff->bh,append_nil->br,getElem?_eq_none->bu,mem_append_right->bB,mem_of_getElem?->bJ,append_assoc->bM,length_zip->bZ,getElem?_set_ne->cf,flatten_cons->ck,getElem?_set_self->cy,take_of_length_le->cz,getElem?_append_right->cM,mem_filterMap->cR,zipWith->cS,flatten_append->dc,take_length->dB,getElem?_append_left->dD,getElem?_range->dE,map_replicate->dU,lookup_cons->ee,filterMap_cons->eH,replicate_succ->eI,length_set->eL,foldl_cons->eM,mem_append_left->fm,length_range->fv,nodup_append->fA,map_nil->fG,range_succ_eq_map->fH,drop_eq_nil_of_le->fJ,getElem_mem->fS,drop_eq_getElem_cons->gm,mem_append->gq,take_succ_eq_append_getElem->gD,eq_of_mem_replicate->gJ,length_zipWith->gR,ext_getElem->gV,length->h9,getElem_replicate->ic,zip_cons_cons->ig,mem_of_mem_take->i5,map_zipWith->jf,of_mem_zip->jG,lookup->jM,getElem?_replicate->jN,length_eq_zero_iff->jP,length_filter_le->kR,getElem_map->k8,any_cons->lp,nil_append->lP,map_set->mj,mem_replicate->mz,getElem?_eq_none_iff->ni,getElem?_take_of_lt->oi,all_eq_true->o9,any_eq_true->pb,map_flatten->pd,zipWith_map->pj,not_mem_nil->pq,foldl->qd,forIn_cons->qx,range_succ->qF,getElem_set_self->rW,eq_replicate_iff->rX,forIn_nil->sS,mem_of_mem_drop->sU,sum_cons->uL,getElem?_drop->wj,getElem_range->wm,filter_append->wq,ext_getElem?->xp,foldl_append->xq,replicate_append_replicate->xY,idxOf_lt_length_of_mem->A4,mem_range->BB,foldl_nil->BC,drop_drop->BD,map->BF,mem_or_eq_of_mem_set->CK,getElem?_zip_eq_some->CO,all_cons->D1,map_take->D4,map_drop->D5,append_cancel_right->D6,cons->Eb,filter_cons_of_pos->Ec,filter_cons_of_neg->Ed,any_map->FX,length_singleton->Gf,set_append_right->Gn,take_append_drop->Gp,getElem_set_ne->JF,length_reverse->JI,mem_singleton->Ls,getElem?_set->LI,mem_flatten->OH,filter_cons->OI,zipIdx_cons->OK,cons_append->OL,mem_reverse->OM
open PySem renaming sizeLine_eq->af,starEach->ak,Shared->ao,Expr->aS,model->aU,foldedSetIterable->bL,mem_of_lookup->bN,Program->bR,mainGlobals->bS,wpAny_field->b9,backTo->cw,Around->cG,cellsFrom->cO,Spec->cP,World->du,bootBuiltins->dv,compareOp->dG,compEnvC->dJ,swapsWith->eA,wpAny_callSpecial?_slot->eC,behindInMarks->eR,keywordEach->e8,sliceBounds->e9,attributeBase->fu,wpAny_truthy_bool->fF,wpAny_newObj_type->fI,wpAny_call_entry->f7,assignEach->gr,NameKind->gu,wpAny_seqItems->ik,wpAny_of_eq->iE,wpAny_Call_Name_kw->iF,wpAny_passesOwn->iU,backToKw->iV,wpAny_holding->i4,binaryOp->js,wpAny_setField->ju,getMethod->jF,wpAny_setField_rec->kv,pushCells->kG,assign->lh,Builtin->lj,builtinLookup_eq_fast->lQ,noteFrame->oq,FuncData->ox,isSubtype_type->oz,CmpOp->qb,slot_list_getitem->qc,wpAny_standAt->qo,wpAny_getItem_list_slice->qt,wpAny_attempt->qC,pyNext->t5,letOwnedTupleGo->uF,wpAny_specialOf->uG,typeLookup_type->uH,Within->wx,Operator->wy,sizeLine_eq->wz,firstArgMember->wC,slicePick->xk,Keyword->xm,swapsWithSole->yA,swappedStores->yB,comprehension->yC,call_meets->yZ,wpAny_rule->zb,setItem->AV,wpAny_assign_Name->AW,wpAny_pyIter_list->AX,codeAny_mono->AY,wpAny_isInstance->CN,wpAny_Slice->D0,bindArgs->Gd,wpAny_listPart->Gh,wpAny_letOwnedTupleGo_zip->HZ,evalPart_none->JC,wpAny_comprehension_free->JD,Comprehension->JE,signature?_of->JH,PassesOwn->Lp,lastMarks->Lq,field->Lr,wpAny_pyNext_range_end->LA,seqIndex_neg->LB,codeAny_compStart_list->LF,argsOk->LJ,callerA->LL,wpAny_isTrue_Compare1->OF,exec_Assign_Name_used->OG,wpAny_loadName_local->OU,seqIndex_of->OW,wpAny_loadName_cell->Rx,builtinsNs->Sn,wpAny_Name->So,wpAny_pyIter_tuple->Ss,wpAny_pyIter_range->Su,sliceRange->Sw,slot_list_setitem->Vd,slicePick_size_le->Ve,wpAny_execs_cons->VE
open PySem.W renaming Frag->ag,keepIn->cT,mg_none_of->dm,nsIn->dA,findIn->er,fnOf->eX,hideAll_get->fq,instObj->fY,codeIn->jO,hideAll->lg,of_hideAll->lV,plainGet->nj,isFn->ou,methodCall_KW->pV,lookIn->qs,plainGet_of->sD,callWith_K0->sE,mg_of->sZ,callWith_K->t7,methodObj->uI,hasDictIn->uJ,takerIn->xU,makesIn->xV,excIn->A9,cellsFrom_some->CJ,hideAll_none->D9,plainOver->HY,handedIn->JB
open PySem.Heap renaming get?_push_of_some->au,get?_push_size->aK,lt_size->aN,size_push->bz,get?_update_self->fX,SameBut->jd,get?_update_other->kg,ExtBut->zl
open Bool renaming false_ne_true->aw,and_eq_true->aH,false_eq_true->cq,or_eq_false_iff->eh,or_eq_true->eP,eq_iff_iff->fB,true_and->fM,not_false->i8,true_eq_false->jJ,not_eq_true'->nz,not_true->D3
open Rd16 renaming nats->aD,blank->aZ,sizeOk->bp,does->bw,expected->bA,stepOk->bD,blockBits->bT,count->cu,left->cQ,Bytes->df,num->dw,rdSquares->dy,STEPS->dF,vecOf->dW,backward->eD,signedNum->eE,way->eF,cheapest->fj,within->fK,search->fL,Abs->fW,bitsIn->gE,vecBits->gI,shown->gK,tells->gL,rdBlocks->gN,squaresBits->gW,there->ij,turned->iq,far->iz,rdSquare->iD,values->i6,smooth->i7,rdZ->i9,forward->jg,kinds->jK,vecCost->ki,rdN->lB,pairs->my,shows->mD,rdBlock->nr,levels->ny,rdBlocks->oy,code->pv,read->pz,rdPairs->qh,heard->qj,partOf->qy,best->sG,wholeBest->sW,turned->sX,before->sY,distance->uO,ORDER->wt,wholeBest->xo,squared->xt,bit->xu,rdBlock->xw,refused->xy,nats->zd,values->zi,flatOf->zm,Square->zo,smoothAcross->A5,rdNum->A6,WHOLE->BG,weigh->BH,rdBits->CL,best->Ee,forward->FY,squares->FZ,byRows->Gj,PLACES->Gk,expected->Gm
open Nat renaming le_refl->aO,lt_of_lt_of_le->aX,mul_comm->bE,mul_le_mul_left->b6,ne_of_lt->cA,mul_le_mul->cX,lt_irrefl->c9,mul_le_mul_right->dz,le_trans->dR,mul_succ->eJ,zero_le->eS,succ_mul->fk,le_add_right->g9,le_of_eq->ko,zero_add->ku,add_assoc->lA,le_of_succ_le->oj,lt_succ_of_lt->om,div_eq_of_lt->pX,add_sub_cancel_left->pY,ne_of_gt->qp,add_comm->qu,sub_self->qB,min_eq_left->rY,div_lt_of_lt_mul->ua,pow_le_pow_right->ub,add_zero->xW,lt_succ_self->yX,le_of_not_lt->zc,mod_eq_of_lt->zf,div_add_mod->AZ,mul_add_div->A0,mul_add_mod->A3,le_of_lt->Gb,mul_zero->Gi,mod_lt->LG,lt_of_le_of_ne->LH,min_eq_right->OX,succ_ne_zero->OY
open Option.some renaming inj->bo,injEq->dY
open PySem.Value renaming ref->bt,none->cK,int->kP,bool->kQ
open Int renaming toNat_natCast->bC,eq_ofNat_of_zero_le->pW,add_zero->qA,ediv_eq_zero_of_lt->qE,add_mul_ediv_left->sH,mul_one->t6,toNat_of_nonneg->uM,fdiv_eq_ediv_of_nonneg->CH
open Function renaming comp->bP
open Option renaming map_eq_some_iff->bU,getD_some->eT,isNone_some->fT,map_some->jt,getD_none->xj
open Rd16Neutral renaming step->b7,bytesOf->cC,sixtyFour->jL,needs->lR,isBytes->pZ,begunAll->A8,asked1->CP,begins->CQ
open PySem.Challenge renaming rw_greyreel_s01_answers->cj
open PyProof.Rows renaming callWith_type1->cx,AllBare->ot,Call_->qg,IntsAre->t9,subscriptTail->wo,AllBare->xh,Subscript_->xZ,bitAnd_m1->yE,envOfC->yY,tail_any->zj,IntsAre->AQ,OwnCls->A7,subscriptTail_builtinR->LC,boot_range->Sv
open PySem.Builtin.SmallTypes renaming nextOf->cE,ownedTupleIsFree->eY,ownedTupleHandOut->mx,newRecord->qf,newClass->qD,iterAll->rZ
open PyRd16 renaming shape->de,answers->dr,whole->gn,answers_asked->gp
open PySem.SeqAt renaming EqAt->eB
open False renaming elim->eW
open PySem.Obj renaming data_mapFields->fc,isFreed_of_fields->k9,mapSeq->mY,mapFields->oA,cls_mapFields->OJ
open PySem.Builtin.Range renaming rangeSize->fZ,small->AO
open PySem.Heap.SameBut renaming update->f9
open Prod.mk renaming injEq->ie
open Ne renaming symm->iy
open PySem.Builtin.Int renaming intBits->iG
open PySem.Builtin.List renaming listTooLong->iQ,listSubscript?->uK,listAllItems->wA,listSameRef->xn
open Classical renaming byContradiction->iR
open Array renaming getElem?_eq_some_iff->iW,size_setIfInBounds->nv,length_toList->HX,append_assoc->JA,toList_inj->LD
open ForInStep renaming yield->je
open PySem.F renaming slot_tuple_iterator_next->jh,plainAttrs_list->nu,slot_zip_next->sV,slot_int_bit_length->yD,slot_list_count->BE,args_tuple_iterator_next_1->CM,entry_tuple_iterator_next->D2,slot_tuple_getitem->LK,args_zip_next_1->Ry,entry_zip_next->Sx
open PyFlat renaming calls->ke,call->xX,played->BI,told->F6
open PySem.Str renaming ofString->kq
open PySem.NameKind renaming free->ks,cell->sF
open PySem.Heap.IsSliceOf renaming new->kF
open UInt8 renaming toNat_ofNat_of_lt'->nq,toNat_ofNat'->JG
open PySem.W.KFB renaming if_not->qw
open PySem.W.WData renaming int->sT
open Sum renaming inl->uD,inr->uE
open PySem.Spec renaming part->uN
open PySem.PassesOwn renaming never->wB
open Rd16.Pic renaming square->xr
open PySem.Builtin renaming bitAnd->yW
open PySem.Calls renaming Name_function_global->AU,callWith_builtin->Ea,evalArgs_plain->Ge
open PyProof renaming noPylong_small->CI
open PySem.SeqAt.EqAt renaming int_str->DX,str_int->DY
open PySem.Around renaming under->DZ
open PySem.Code renaming isFrame->FW
open PySem.IsL renaming isList->Gg
namespace Hd
open PySem PySem.W
def pw : Program := PySem.Challenge.rw_greyreel_s01_answers.prog
def ann : Option Value := some (.ref 6)
def sizes : List (Nat × Nat) := [(9,381),(4,397),(7,399),(19,397),(7,397),(8,225),(8,399),(14,369),(7,384),(6,156),(1,525),(12,337)]
def envOf : Thread → Option Env
  | ⟨_, .body _ e, _, _⟩ => some e
  | _ => none
def stA (w0 : World) : Option (Shared × Thread) := (fencedOpening table pw w0 9000).bind fun s => topGo table pw w0 11 ann 12 s (topStub pw)
def run (w0 : World) : Option (List (Shared × Pos)) := do
  let (s, t) ← stA w0
  let env ← envOf t
  let mut s := s
  let mut pos := t.pos
  let mut b := behindTheImports pw
  let mut out := #[(s, pos)]
  for (k, n) in sizes do
    let r ← segRun table pw w0 11 ann 1 n s (piecesOf (b.take k) env t.code pos [topFrame ⟨0,0,0,0⟩])
    s := r.2.1
    pos := r.2.2.2
    b := b.drop k
    out := out.push (s, pos)
  return out.toList
open Lean
def natT (n : Nat) : MacroM Term := `(nat_lit $(quote n))
def listT (ty : Term) (l : List Term) : MacroM Term := l.foldrM (fun x r => `(@List.cons $ty $x $r)) =<< `(@List.nil $ty)
def sx (tw : Bool) : Nat → Lean.Expr → MacroM Term
  | 0, _ => Macro.throwError "fuel"
  | f+1, e => match e with
    | .const n _ => if n == `P' then pure (mkIdent `P) else `(@$(mkCIdent n))
    | .lit (.natVal n) => natT n
    | .lit (.strVal s) => do
      let n : Name := (`PySem.W.SL).str ("s" ++ toString (hash s) ++ "x" ++ toString s.length)
      if tw && (← Macro.hasDecl n) then return mkCIdent n
      return quote s
    | .mdata _ b => sx tw f b
    | .app .. => do
      if tw && e.isAppOfArity ``PySem.Str.ofString 1 then
        if let .lit (.strVal s) := e.appArg! then
          let ns ← s.toList.mapM fun c => natT c.toNat
          let l ← listT (← `(Nat)) ns
          return ← `(PySem.Str.mk (@Array.mk Nat $l))
      let fn ← sx tw f e.getAppFn
      let as ← e.getAppArgs.mapM (sx tw f)
      return Syntax.mkApp fn as
    | _ => Macro.throwError "form"
def keep : List Nat := [1,2,3,4,5,6,7,8,9,10,12,13,14,15,16,17,18,19,20,21,23,24,25,26,27,28,29,30,31,32,33,35,36,37,38,39,40,41,42,43,44,45,46,48,49,50,51,52,54,55,56,57,58,60,61,62,63,64,65,66,68,69,70,72,73,74,76,77,78,79,80,82,83,84,85,86,88,89,91,92,93,94,95,97,98,99,100,101]
def treeT (os : Array Name) : Nat → Nat → Nat → MacroM Term
  | 0, _, _ => Macro.throwError "fuel"
  | f+1, a, b => match os[b]? with
    | some n => do `(PySem.W.BT.node ($(mkCIdent n) P) $(← treeT os f (2*a) (a+b)) $(← treeT os f (2*a) (2*a+b)))
    | none => `(PySem.W.BT.nil)
def id_ (s : String) (i : Nat) : Ident := mkIdent (Name.mkSimple (s ++ toString i))
def cmds : MacroM (Array Syntax) := do
  let some l := run (aWorld 1) | Macro.throwError "run"
  let some l2 := run (aWorld 2) | Macro.throwError "run"
  let some s0 := fencedOpening table pw (aWorld 1) 9000 | Macro.throwError "run"
  let P := mkConst `P'
  let Pi := mkIdent `P
  let sxT (e : Lean.Expr) := sx true 100000 e
  let sxO (e : Lean.Expr) := sx false 100000 e
  let mut out : Array Syntax := #[]
  let sts := pw.main.body
  let mut k := 0
  let mut bt : Array Term := #[]
  for s in sts do
    out := out.push (← `(command| noncomputable abbrev $(id_ "u" k) : PySem.Stmt := $(← sxT (toExpr s))))
    bt := bt.push (id_ "u" k)
    k := k + 1
  out := out.push (← `(command| noncomputable abbrev $(mkIdent `scT) : PySem.Scope := $(← sxT (toExpr pw.main.scope))))
  out := out.push (← `(command| noncomputable abbrev $(mkIdent `pwT) : PySem.Program := { PySem.Challenge.rw_greyreel_s01_answers.prog with main := { PySem.Challenge.rw_greyreel_s01_answers.prog.main with body := $(← listT (← `(PySem.Stmt)) bt.toList), scope := $(mkIdent `scT) } }))
  out := out.push (← `(command| noncomputable abbrev $(mkIdent `vwT) : PySem.Program := { $(mkIdent `pwT) with main := { ($(mkIdent `pwT)).main with body := $(← listT (← `(PySem.Stmt)) (keep.filterMap fun i => bt[i]?)) } }))
  let mut vo : Array Term := #[]
  k := 0
  for i in keep do
    if let some s := sts[i]? then vo := vo.push (← sxO (toExpr s))
  out := out.push (← `(command| noncomputable abbrev $(mkIdent `vw) : PySem.Program := { PySem.Challenge.rw_greyreel_s01_answers.prog with main := { PySem.Challenge.rw_greyreel_s01_answers.prog.main with body := $(← listT (← `(PySem.Stmt)) vo.toList) } }))
  k := 0
  let mut known : Array (Lean.Expr × Name) := s0.heap.objs.mapIdx fun i o => (objE P o, (`PySem.W).str s!"boot_o_{i}")
  let mut j := 0
  for (s, _) in l do
    let mut now : Array (Lean.Expr × Name) := #[]
    for i in [0:s.heap.objs.size] do
      let e := objE P s.heap.objs[i]!
      match known[i]? with
      | some (e', n) => if e == e' then now := now.push (e, n); continue
      | none => pure ()
      let n : Name := Name.mkSimple s!"o{k}"
      k := k + 1
      out := out.push (← `(command| noncomputable abbrev $(mkIdent n) : PySem.Params → PySem.Obj := fun $Pi => $(← sxT e)))
      now := now.push (e, `Hd ++ n)
    known := now
    let tr ← treeT (known.map (·.2)) 60 1 0
    out := out.push (← `(command| noncomputable abbrev $(id_ "t" j) : PySem.Params → PySem.W.BT := fun $Pi => $(⟨tr.raw.replaceM (m := Id) fun s => if s.isIdent && s.getId.eraseMacroScopes == `P then some Pi.raw else none⟩)))
    if j == 0 || j == 12 then
      let os ← known.toList.mapM fun (_, n) => `($(mkCIdent n) $Pi)
      let lT ← listT (← `(PySem.Obj)) os
      out := out.push (← `(command| noncomputable abbrev $(id_ "h" j) : PySem.Params → PySem.Heap := fun $Pi => PySem.Heap.mk (@Array.mk PySem.Obj $lT) $(← sxT (toExpr s.heap.life))))
    j := j + 1
  let some (s, _) := l.getLast? | Macro.throwError "run"
  let some (s', _) := l2.getLast? | Macro.throwError "run"
  let fr := fragOf P (some PySem.Challenge.rw_greyreel_s01_answers.name.toString) s.heap s'.heap
  let pr ← `(Nat × PySem.Obj)
  let ps ← fr.mapM fun (a, _, e) => do `(@Prod.mk Nat PySem.Obj $(← natT a) $(← sxO e))
  out := out.push (← `(command| noncomputable abbrev $(mkIdent `K) : PySem.Params → PySem.W.Frag := fun $Pi => $(← listT pr ps)))
  out := out.push (← `(command| noncomputable abbrev $(mkIdent `asL) : List PySem.Addr := $(← listT (← `(Nat)) (← fr.mapM fun (a, _, _) => natT a))))
  return out
local macro_rules | `(command| #check "gen") => do
  return mkNullNode (← cmds)
#check "gen"
end Hd
namespace Hd
open PySem PySem.W PySem.Calls PyProof.Rows
abbrev pq : Program := PySem.Challenge.rw_greyreel_s01_answers.prog
theorem ep : pq = pwT := by kernel_rfl
theorem ev : vw = vwT := by kernel_rfl
noncomputable abbrev env : Env := { scope := pwT.main.scope, locals := mainNs, globals := mainNs, cells := [], code := .ref 13, frame := some 14 }
noncomputable abbrev bb : List Stmt := behindTheImports pwT
noncomputable abbrev cc : Code := .body bb env
abbrev zz : Pos := ⟨0,0,0,0⟩
abbrev an : Option Value := some (.ref 6)
abbrev S (t : Params → BT) (n k : Nat) (w : World) (os : OsState) : SharedT := ⟨t w.params, n, {}, Array.mk [], {}, k, os⟩
abbrev Z (h : Params → Heap) (k : Nat) (w : World) (os : OsState) : Shared := ⟨h w.params, Array.mk [], {}, k, os⟩
noncomputable abbrev Z0 (w : World) (os : OsState) : Shared := ⟨boot_heap w.params, Array.mk [], boot_drawn, boot_toks, os⟩
noncomputable abbrev sl (a k : Nat) : List Stmt := (bb.drop a).take k
section
variable (w : World) (os : OsState)
theorem pr : topGo treeTable pwT w 11 an 12 (Z0 w os) (topStub pwT) = some (Z h0 187 w os, ⟨denote treeTable cc, cc, zz, [topFrame zz]⟩) := by
  rewrite [PySem.W.Fast.te15667345088766844465, PySem.W.Fast.te14364793385576792824, PySem.W.Fast.te11892475500146522536]
  kernel_rfl
theorem bl : segRun treeTable pwT w 11 an 1 1 (Z h0 187 w os) (blockOf bb env cc zz [topFrame zz]) = some (.next, (S t0 15 187 w os).abs, cc, zz) := by
  rewrite [PySem.W.Fast.te14374325043358763698, PySem.W.Fast.te14364793385576792824]
  kernel_rfl
theorem p0 : segRunT treeTable pwT w 11 an 1 381 (S t0 15 187 w os) (piecesOf (sl 0 9) env cc ⟨0,0,0,0⟩ [topFrame zz]) = some (.next, S t1 68 255 w os, cc, ⟨16,0,24,14⟩) := by
  rewrite [PySem.W.Fast.te10110043849684766642, PySem.W.Fast.te14364793385576792824]
  kernel_rfl
theorem p1 : segRunT treeTable pwT w 11 an 1 397 (S t1 68 255 w os) (piecesOf (sl 9 4) env cc ⟨16,0,24,14⟩ [topFrame zz]) = some (.next, S t2 122 328 w os, cc, ⟨64,0,64,4⟩) := by
  rewrite [PySem.W.Fast.te10110043849684766642, PySem.W.Fast.te14364793385576792824]
  kernel_rfl
theorem p2 : segRunT treeTable pwT w 11 an 1 399 (S t2 122 328 w os) (piecesOf (sl 13 7) env cc ⟨64,0,64,4⟩ [topFrame zz]) = some (.next, S t3 177 409 w os, cc, ⟨87,0,88,64⟩) := by
  rewrite [PySem.W.Fast.te10110043849684766642, PySem.W.Fast.te14364793385576792824]
  kernel_rfl
theorem p3 : segRunT treeTable pwT w 11 an 1 397 (S t3 177 409 w os) (piecesOf (sl 20 19) env cc ⟨87,0,88,64⟩ [topFrame zz]) = some (.next, S t4 242 519 w os, cc, ⟨147,0,147,4⟩) := by
  rewrite [PySem.W.Fast.te10110043849684766642, PySem.W.Fast.te14364793385576792824]
  kernel_rfl
theorem p4 : segRunT treeTable pwT w 11 an 1 397 (S t4 242 519 w os) (piecesOf (sl 39 7) env cc ⟨147,0,147,4⟩ [topFrame zz]) = some (.next, S t5 298 605 w os, cc, ⟨183,0,187,17⟩) := by
  rewrite [PySem.W.Fast.te10110043849684766642, PySem.W.Fast.te14364793385576792824]
  kernel_rfl
theorem p5 : segRunT treeTable pwT w 11 an 1 225 (S t5 298 605 w os) (piecesOf (sl 46 8) env cc ⟨183,0,187,17⟩ [topFrame zz]) = some (.next, S t6 325 713 w os, cc, ⟨207,0,207,8⟩) := by
  rewrite [PySem.W.Fast.te10110043849684766642, PySem.W.Fast.te14364793385576792824]
  kernel_rfl
theorem p6 : segRunT treeTable pwT w 11 an 1 399 (S t6 325 713 w os) (piecesOf (sl 54 8) env cc ⟨207,0,207,8⟩ [topFrame zz]) = some (.next, S t7 390 862 w os, cc, ⟨229,0,232,64⟩) := by
  rewrite [PySem.W.Fast.te10110043849684766642, PySem.W.Fast.te14364793385576792824]
  kernel_rfl
theorem p7 : segRunT treeTable pwT w 11 an 1 369 (S t7 390 862 w os) (piecesOf (sl 62 14) env cc ⟨229,0,232,64⟩ [topFrame zz]) = some (.next, S t8 461 973 w os, cc, ⟨310,0,310,8⟩) := by
  rewrite [PySem.W.Fast.te10110043849684766642, PySem.W.Fast.te14364793385576792824]
  kernel_rfl
theorem p8 : segRunT treeTable pwT w 11 an 1 384 (S t8 461 973 w os) (piecesOf (sl 76 7) env cc ⟨310,0,310,8⟩ [topFrame zz]) = some (.next, S t9 511 1052 w os, cc, ⟨337,0,343,24⟩) := by
  rewrite [PySem.W.Fast.te10110043849684766642, PySem.W.Fast.te14364793385576792824]
  kernel_rfl
theorem p9 : segRunT treeTable pwT w 11 an 1 156 (S t9 511 1052 w os) (piecesOf (sl 83 6) env cc ⟨337,0,343,24⟩ [topFrame zz]) = some (.next, S t10 537 1107 w os, cc, ⟨382,0,382,10⟩) := by
  rewrite [PySem.W.Fast.te10110043849684766642, PySem.W.Fast.te14364793385576792824]
  kernel_rfl
theorem p10 : segRunT treeTable pwT w 11 an 1 525 (S t10 537 1107 w os) (piecesOf (sl 89 1) env cc ⟨382,0,382,10⟩ [topFrame zz]) = some (.next, S t11 619 1224 w os, cc, ⟨383,0,446,72⟩) := by
  rewrite [PySem.W.Fast.te10110043849684766642, PySem.W.Fast.te14364793385576792824]
  kernel_rfl
theorem p11 : segRunT treeTable pwT w 11 an 1 337 (S t11 619 1224 w os) (piecesOf (sl 90 12) env cc ⟨383,0,446,72⟩ [topFrame zz]) = some (.next, S t12 687 1330 w os, cc, ⟨503,0,512,59⟩) := by
  rewrite [PySem.W.Fast.te10110043849684766642, PySem.W.Fast.te14364793385576792824]
  kernel_rfl
theorem fi : topRun treeTable pwT w 11 an 2 (S t12 687 1330 w os).abs ⟨doneF .next, cc, ⟨503,0,512,59⟩, [topFrame zz]⟩ = some (Z h12 1330 w os) := by
  rewrite [PySem.W.Fast.te14082659384304107361, PySem.W.Fast.te14364793385576792824]
  kernel_rfl
end
theorem eb : bb = (sl 0 9 ++ (sl 9 4 ++ (sl 13 7 ++ (sl 20 19 ++ (sl 39 7 ++ (sl 46 8 ++ (sl 54 8 ++ (sl 62 14 ++ (sl 76 7 ++ (sl 83 6 ++ (sl 89 1 ++ (sl 90 12 ++ [])))))))))))) := by kernel_rfl
theorem ru (w : World) (os : OsState) : topRun treeTable pwT w 11 an (12 + (1 + (381 + (397 + (399 + (397 + (397 + (225 + (399 + (369 + (384 + (156 + (525 + (337 + 2)))))))))))))) (Z0 w os) (topStub pwT) = some (Z h12 1330 w os) := by
  refine go_top (pr w os) (piece_block (bl w os) ?_)
  rewrite [show restOf bb = restOf (sl 0 9 ++ (sl 9 4 ++ (sl 13 7 ++ (sl 20 19 ++ (sl 39 7 ++ (sl 46 8 ++ (sl 54 8 ++ (sl 62 14 ++ (sl 76 7 ++ (sl 83 6 ++ (sl 89 1 ++ (sl 90 12 ++ [])))))))))))) from congrArg restOf eb]
  exact (piece_app (segRun_of (p0 w os)) (piece_app (segRun_of (p1 w os)) (piece_app (segRun_of (p2 w os)) (piece_app (segRun_of (p3 w os)) (piece_app (segRun_of (p4 w os)) (piece_app (segRun_of (p5 w os)) (piece_app (segRun_of (p6 w os)) (piece_app (segRun_of (p7 w os)) (piece_app (segRun_of (p8 w os)) (piece_app (segRun_of (p9 w os)) (piece_app (segRun_of (p10 w os)) (piece_app (segRun_of (p11 w os)) (piece_nil (fi w os))))))))))))))
theorem si (w : World) : ((boot_heap w.params).isNs mainGlobals && (Array.mk [] : Array GenState).size == 0, (boot_heap w.params).objs.size, (boot_heap w.params).nsMap mainGlobals "__annotations__") = (true, 11, an) := by
  rewrite [PySem.W.Fast.te8920871248978507458]
  kernel_rfl
theorem op : opening pwT = plainProg pwT.main.scope.names := by kernel_rfl
theorem fe (s : Shared) : fenceModules? pwT s = some s := by kernel_rfl
noncomputable abbrev md : List Str := importedModules pwT.main.body
noncomputable abbrev Xt (q : Program) (s : Shared) : Bool := xlAt q [] s && recOk [] s
section
variable (w : World) (os : OsState)
local macro_rules | `(tactic| walk_at "rk") => `(tactic| (
  try rewrite [PySem.W.Fast.te5923862056798008813]
  try rewrite [PySem.W.Fast.te5160383126252970620]
  try rewrite [PySem.W.Fast.te3399658132070893891]
  try rewrite [PySem.W.Fast.te5991557255702980513]
  try rewrite [PySem.W.Fast.te10880121769531294198]
  try rewrite [PySem.W.Fast.te821141287760084731]
  try rewrite [PySem.W.Fast.te7409074990110511671]
  try rewrite [PySem.W.Fast.te13664370479719496447]
  try rewrite [PySem.W.Fast.te14722251495701143533]
  try rewrite [PySem.W.Fast.te10994771534591457954]
  try rewrite [PySem.W.Fast.te479339242167458305]
  try rewrite [PySem.W.Fast.te16090120013241838585]
  try rewrite [PySem.W.Fast.te3247288618530077131]
  try rewrite [PySem.W.Fast.te2386780881361962483]
  try rewrite [PySem.W.Fast.te11698064438423848299]
  try rewrite [PySem.W.Fast.te7317090234206586261]
  try rewrite [PySem.W.Fast.te7369524293546568484]
  kernel_rfl))
theorem l1 : (staticsOk md (boot_heap w.params) (h12 w.params) && namesBound pwT (h12 w.params) && gensDone (Z h12 1330 w os) && laidKept (boot_heap w.params) (h12 w.params)) = true := by walk_at "rk"
theorem m0 : seen ((recsOf vwT).map (·.name)) (ownsOf vwT) [] { (Z h12 1330 w os) with gens := #[] } = expectedOf vwT := by walk_at "rk"
theorem m1 : (Z h12 1330 w os).heap.bltView = bltViewBooted := by walk_at "rk"
theorem m2 : ((Z h12 1330 w os).heap.keysOk (looseW vwT []) ((recsOf vwT).map (·.name)) ((litsOf vwT).map (·.1)) ((clssOf vwT (looseW vwT [])).map (·.name)) && (Z h12 1330 w os).heap.accountedOkI md && (Z h12 1330 w os).heap.isNs mainGlobals && (Z h12 1330 w os).heap.isNs builtinsNs && tablesOk vwT (Z h12 1330 w os).heap && Xt vwT (Z h12 1330 w os) && (Z h12 1330 w os).gens.size == 0) = true := by walk_at "rk"
theorem m3 : tabsOk vwT (Z h12 1330 w os) = true := by walk_at "rk"
theorem m4 : pinSeenD vwT (drecsOf vwT) (Z h12 1330 w os) = pinGoodD (drecsOf vwT) := by walk_at "rk"
theorem m5 : plainSeenE vwT (looseW vwT []) (Z h12 1330 w os) = plainGoodE vwT (looseW vwT []) := by walk_at "rk"
theorem m6 : plainSeenD vwT [] (Z h12 1330 w os) = plainGoodD vwT [] := by walk_at "rk"
theorem m7 : wideSeen vwT (Z h12 1330 w os) = wideGood vwT := by walk_at "rk"
theorem m8 : clsSeenW vwT [] (Z h12 1330 w os) = clsGoodW vwT [] := by walk_at "rk"
theorem l2 : openSeen vwT [] md (Xt vwT) true (Z h12 1330 w os) = openGood vwT [] := by
  unfold openSeen openGood
  exact looks_pair (m0 w os) (looks_pair (m1 w os) (looks_pair (m2 w os) (looks_pair (m3 w os) (looks_pair (m4 w os) (looks_pair (m5 w os) (looks_pair (m6 w os) (looks_pair (m7 w os) (m8 w os))))))))
theorem eK (P : Params) : asL = (K P).map (·.1) := by kernel_rfl
noncomputable abbrev HK : Hook := kHook K asL eK
theorem l3 : HK.obs (Z h12 1330 w os) = HK.val w := by kernel_rfl
end
theorem lT : LeftO pwT vwT [] (Xt vwT) HK.obs HK.val 8834 true :=
  LeftO.of_pieces (boot_open op (by kernel_rfl) fe) si ru (by kernel_rfl) fun w => funext fun os => looks_pair (l1 w os) (looks_pair (l2 w os) (l3 w os))
theorem lO : LeftO pq vw [] (Xt vw) HK.obs HK.val 8834 true := by
  rewrite [ep, ev]
  exact lT
theorem ws : PySem.Challenge.rw_greyreel_s01_answers.wellSaid = true := by decide +kernel
theorem br : PySem.Challenge.rw_greyreel_s01_answers.prog.bare := ⟨rfl,rfl,rfl,rfl,rfl,by decide +kernel⟩
end Hd
namespace L2
open PySem PySem.Spec PyProof.Rows
abbrev F8:=Sum Int Str
def RN:F8->Value->Bool
 | .inl k,v=>Value.isInt k v
 | .inr x,v=>Value.isStrOf x v
def Z7 (w:du):F8->Int
 | .inl k=>hashInt k
 | .inr x=>hashStr w x
theorem gc:∀{k:F8} {v:Value},RN k v=true->(∃i t,k=uD i/\v=kP i t)\/(∃x t,k=uE x/\v=Value.str x t)
 | .inl i,v,h=>by
  obtain⟨t,e⟩:=Value.isInt_shape (k:=i) (v:=v) h
  exact .inl ⟨i,t,rfl,e⟩
 | .inr x,v,h=>by
  obtain⟨t,e⟩:=Value.isStrOf_shape (x:=x) (v:=v) h
  exact .inr ⟨x,t,rfl,e⟩
theorem Tc (a b:Int):decide ((uD a:F8)=uD b)=(a==b):=by
 by_cases e:a=b
 ·subst e;simp
 ·have h:¬(uD a:F8)=uD b:=λq=>e (uD.inj q)
  rw[decide_eq_false h]
  exact(beq_eq_false_iff_ne.mpr e).symm
theorem Td (a b:Str):decide ((uE a:F8)=uE b)=decide (a=b):=by
 by_cases e:a=b
 ·subst e;simp
 ·have h:¬(uE a:F8)=uE b:=λq=>e (uE.inj q)
  rw[decide_eq_false h,decide_eq_false e]
theorem Tu (a:Int) (b:Str):decide ((uD a:F8)=uE b)=false:=decide_eq_false (λq=>nomatch q)
theorem S8 (a:Str) (b:Int):decide ((uE a:F8)=uD b)=false:=decide_eq_false (λq=>nomatch q)
def Ih (prog:bR) (w:du):PySem.KeyKind prog w F8 where
 is:=RN
 hash:=Z7 w
 inj:=λv a b ha hb=>by
  rcases gc ha with ⟨i,t,rfl,rfl⟩|⟨x,t,rfl,rfl⟩
  ·rcases gc hb with ⟨j,u,rfl,e⟩|⟨y,u,rfl,e⟩
   ·injection e with e1 _;rw[e1]
   ·exact nomatch e
  ·rcases gc hb with ⟨j,u,rfl,e⟩|⟨y,u,rfl,e⟩
   ·exact nomatch e
   ·injection e with e1 _;rw[e1]
 byValue:=λk v h=>by
  rcases gc h with ⟨i,t,rfl,rfl⟩|⟨x,t,rfl,rfl⟩<;>rfl
 pyHash:=λhv h=>by
  rcases gc hv with ⟨i,t,rfl,rfl⟩|⟨x,t,rfl,rfl⟩
  ·exact wpAny_pyHash_int h
  ·exact wpAny_pyHash_str h
 eqBool:=λhu hv h=>by
  rcases gc hu with ⟨i,t,rfl,rfl⟩|⟨x,t,rfl,rfl⟩
  ·rcases gc hv with ⟨j,u,rfl,rfl⟩|⟨y,u,rfl,rfl⟩
   ·rw[Tc]at h;exact wpAny_eqBool_int h
   ·rw[Tu]at h;exact DX i t y u _ _ _ _ h
  ·rcases gc hv with ⟨j,u,rfl,rfl⟩|⟨y,u,rfl,rfl⟩
   ·rw[S8]at h;exact DY x t j u _ _ _ _ h
   ·rw[Td]at h;exact wpAny_eqBool_str h
 «strs»:=λk x t v h=>by
  rcases gc h with ⟨i,u,rfl,e⟩|⟨y,u,rfl,e⟩
  ·exact nomatch e
  ·injection e with e1 _
   subst e1
   cases v<;>rfl
end L2
namespace L2
open PySem PySem.Spec PyProof.Rows
inductive V where
 |non|bl (b:Bool)|int (i:Int)|str (x:Str)|byt (b:Array UInt8)|flt (b:UInt64)|ref (a:Addr)|ty (n:String)
 deriving DecidableEq
def dQ:V->Value->Prop
 | .non,u=>u=cK
 | .bl b,u=>u=kQ b
 | .int i,u=>∃t,u=kP i t
 | .str x,u=>∃t,u=Value.str x t
 | .byt b,u=>∃t,u=Value.bytes b t
 | .flt b,u=>∃t,u=Value.float b t
 | .ref a,u=>u=bt a
 | .ty n,u=>u=Value.type n
abbrev b8:List V->List Value->Prop:=Paired dQ
theorem b8.length {xs:List V} {us:List Value} (r:b8 xs us):xs.length=us.length:=Paired.length r
theorem b8.get:∀{xs:List V} {us:List Value} {i:Nat} {x:V},b8 xs us->xs[i]? =some x->∃u,us[i]? =some u/\dQ x u
 |_,_,_,_,.nil,e=>by simp at e
 |_,_,0,_,.cons r _,e=>by simp at e;subst e;exact⟨_,rfl,r⟩
 |_,_,i+1,x,.cons _ t,e=>by
  obtain⟨u,h1,h2⟩:=b8.get (i:=i) (x:=x) t (by simpa using e)
  exact⟨u,by simpa using h1,h2⟩
theorem b8.set {x:V} {u:Value} (r:dQ x u):∀{xs:List V} {us:List Value} (i:Nat),b8 xs us->b8 (xs.set i x) (us.set i u)
 |_,_,_,.nil=> .nil
 |_,_,0,.cons _ t=> .cons r t
 |_,_,i+1,.cons q t=> .cons q (b8.set r i t)
theorem b8.append:∀{xs ys:List V} {us ws:List Value},b8 xs us->b8 ys ws->b8 (xs++ys) (us++ws)
 |_,_,_,_,.nil,s=>s
 |_,_,_,_,.cons r t,s=> .cons r (b8.append t s)
theorem b8.take:∀{xs:List V} {us:List Value} (n:Nat),b8 xs us->b8 (xs.take n) (us.take n)
 |_,_,0,_=> .nil
 |_,_,_+1,.nil=> .nil
 |_,_,n+1,.cons r t=> .cons r (b8.take n t)
theorem b8.drop:∀{xs:List V} {us:List Value} (n:Nat),b8 xs us->b8 (xs.drop n) (us.drop n)
 |_,_,0,r=>r
 |_,_,_+1,.nil=> .nil
 |_,_,n+1,.cons _ t=>b8.drop n t
theorem b8.none_of:∀{xs:List V} {us:List Value} {i:Nat},b8 xs us->xs[i]? =none->us[i]? =none:=λ{xs us i} r e=>by
 have h1:=r.length
 have h2:xs.length<=i:=ni.mp e
 exact ni.mpr (by lia)
def Bm:Option V->Option Value->Prop
 |some v,some u=>dQ v u
 |none,none=>True
 |_,_=>False
def KV {κ:Type}:List (κ×V)->List (κ×Value)->Prop:=Paired λ(p:κ×V) (q:κ×Value)=>p.1=q.1/\dQ p.2 q.2
def kV:F8->V
 | .inl i=> .int i
 | .inr x=> .str x
inductive HO where
 |lst (xs:List V)
 |tup (xs:List V)
 |dK (EJ:List (F8×V))|dT (EJ:List (List F8×V))
 |set (S:Int->Bool) (n:Nat)
 |ins (C dx:Addr) (fs:List (Str×V))
 |own (x:Addr)
 |xd (fs:List (Str×V))
 |met (f x:Addr)
 |rng (lo hi:Int)
 |frz (o:Obj) (u:HO)
 |tbl (ps:Array Value)
 |ext (φ:Heap->Prop)
abbrev Hp:=Addr->Option HO
def fC (H:Hp) (a:Addr) (o:HO):Hp:=λb=>if b=a then some o else H b
theorem cp {H:Hp} {a:Addr} {o:HO}:fC H a o a=some o:=by unfold fC;rw[if_pos rfl]
theorem cb {H:Hp} {a b:Addr} {o:HO} (h:b≠a):fC H a o b=H b:=by unfold fC;rw[if_neg h]
theorem cJ {H:Hp} {a b:Addr} {o:HO} (h:H a=some o) (h':H b=none):a≠b:=by
 intro e;subst e;rw[h]at h';cases h'
section
variable (P:bR) (w:du)
def kW (H:Hp) (h:Heap) (a:Addr):HO->Prop
 | .lst xs=>xs.length<=sizeLine/\∃(bW:List Value) (n:Nat),b8 xs bW/\h.get? a=some {cls:= .type "list",data:= .seq bW.toArray n}
 | .tup xs=>xs.length<=sizeLine/\∃bW:List Value,b8 xs bW/\IsTup h a bW.toArray
 | .dK EJ=>EJ.length<=sizeLine/\(a==sysModules)=false/\∃vs,KV EJ vs/\h.DictOf (Ih P w) a vs
 | .dT EJ=>EJ.length<=sizeLine/\(a==sysModules)=false/\∃xs:List (List F8×Addr×Value),
   Paired (λ(p:List F8×V) (q:List F8×Addr×Value)=>p.1=q.1/\H q.2.1=some (.tup (p.1.map kV))/\dQ p.2 q.2.2) EJ xs/\
   ∃o es ep,h.get? a=some o/\o.ExactDict/\o.data= .dict es ep/\es.toList=xs.map (entryOfKey (tupleKind (Ih P w)))/\(xs.map (·.1)).Nodup
 | .set S n=>h.SetOf (intKind P w) a S n
 | .ins C dx fs=>H dx=some (.own a)/\fs.length<=1000/\dx≠a/\h.get? a=some (fY C dx)/\
   ∃mA,h.Ns1 dx mA/\(∀f,Bm (fs.lookup f) (mA f))/\wx mA (fs.map (·.1))
 | .own _=>∃o,h.get? a=some o
 | .xd fs=>∃mA,h.Ns1 a mA/\∀f,Bm (fs.lookup f) (mA f)
 | .rng lo hi=>∃t u v,h.get? a=some {cls:= .type "range",data:= .fields #[.int lo t,.int hi u,.int 1 v]}
 | .frz o u=>h.get? a=some o/\kW H h a u
 | .tbl ps=>h.get? a=some {cls:= .none,data:= .fields ps}
 | .met f x=>h.get? a=some (uI (.ref f) (.ref x))
 | .ext φ=>φ h/\(∃o,h.get? a=some o)/\∀h1 h2:Heap,φ h1->(∀o,h1.get? a=some o->h2.get? a=some o)->φ h2
def yn (H:Hp) (h:Heap):Prop:=∀a o,H a=some o->kW P w H h a o
end
section
variable {P:bR} {w:du} {H H':Hp} {h h':Heap} {a:Addr} {o:HO}
theorem kW.lt (x:kW P w H h a o):a<h.objs.size:=by
 cases o with
 |lst xs=>obtain⟨_,_,_,_,e⟩:=x;exact aN e
 |tup xs=>obtain⟨_,_,_,p⟩:=x;exact p.lt
 |dK EJ=>obtain⟨_,_,_,_,o,_,_,e,_⟩:=x;exact aN e
 |dT EJ=>obtain⟨_,_,_,_,o,_,_,e,_⟩:=x;exact aN e
 |set S n=>obtain⟨o,_,_,_,e,_⟩:=x;exact aN e
 |ins C dx fs=>obtain⟨_,_,_,e,_⟩:=x;exact aN e
 |own y=>obtain⟨_,e⟩:=x;exact aN e
 |xd fs=>obtain⟨_,⟨_,_,_,e,_⟩,_⟩:=x;exact aN e
 |rng lo hi=>obtain⟨_,_,_,e⟩:=x;exact aN e
 |frz ob u=>obtain⟨e,_⟩:=x;exact aN e
 |tbl ps=>exact aN (show h.get? a=some _ from x)
 |met f y=>exact aN (show h.get? a=some _ from x)
 |ext φ=>obtain⟨_,⟨_,e⟩,_⟩:=x;exact aN e
theorem Paired.mapP {α β:Type} {F G:α->β->Prop}:∀{l₁:List α} {l₂:List β},Paired F l₁ l₂->(∀a b,F a b->G a b)->Paired G l₁ l₂
 |_,_,.nil,_=> .nil
 |_,_,.cons r t,f=> .cons (f _ _ r) (Paired.mapP t f)
theorem kW.stay (x:kW P w H h a o) (k:∀b u,(b=a\/H b=some (.own a))->h.get? b=some u->h'.get? b=some u)
  (ho:∀b,H b=some (.own a)->H' b=some (.own a)) (ht:∀b xs,H b=some (.tup xs)->H' b=some (.tup xs)):kW P w H' h' a o:=by
 induction o with
 |lst xs=>obtain⟨z,bW,n,r,e⟩:=x;exact⟨z,bW,n,r,k _ _ (.inl rfl) e⟩
 |tup xs=>obtain⟨z,bW,r,ob,e,c⟩:=x;exact⟨z,bW,r,ob,k _ _ (.inl rfl) e,c⟩
 |dK EJ=>obtain⟨z,y,vs,r,ob,es,ep,e,c⟩:=x;exact⟨z,y,vs,r,ob,es,ep,k _ _ (.inl rfl) e,c⟩
 |dT EJ=>
  obtain⟨z,y,xs,r,ob,es,ep,e,c⟩:=x
  exact⟨z,y,xs,Paired.mapP r λp q z=>⟨z.1,ht _ _ z.2.1,z.2.2⟩,ob,es,ep,k _ _ (.inl rfl) e,c⟩
 |set S n=>obtain⟨ob,es,ep,t,e,c⟩:=x;exact⟨ob,es,ep,t,k _ _ (.inl rfl) e,c⟩
 |ins C dx fs=>
  obtain⟨d,z,ne,e,mA,⟨od,es,ep,e2,c⟩,r⟩:=x
  exact⟨ho _ d,z,ne,k _ _ (.inl rfl) e,mA,⟨od,es,ep,k _ _ (.inr d) e2,c⟩,r⟩
 |own y=>obtain⟨ob,e⟩:=x;exact⟨ob,k _ _ (.inl rfl) e⟩
 |xd fs=>obtain⟨mA,⟨od,es,ep,e,c⟩,r⟩:=x;exact⟨mA,⟨od,es,ep,k _ _ (.inl rfl) e,c⟩,r⟩
 |rng lo hi=>obtain⟨t,u,v,e⟩:=x;exact⟨t,u,v,k _ _ (.inl rfl) e⟩
 |frz ob u ih=>obtain⟨e,q⟩:=x;exact⟨k _ _ (.inl rfl) e,ih q⟩
 |tbl ps=>
  have e:h.get? a=some {cls:= .none,data:= .fields ps}:=x
  show h'.get? a=some {cls:= .none,data:= .fields ps}
  exact k a _ (.inl rfl) e
 |met f y=>
  have e:h.get? a=some (uI (.ref f) (.ref y)):=x
  show h'.get? a=some (uI (.ref f) (.ref y))
  exact k a _ (.inl rfl) e
 |ext φ=>obtain⟨p,⟨o,e⟩,st⟩:=x;exact⟨st _ _ p λo q=>k _ _ (.inl rfl) q,⟨o,k _ _ (.inl rfl) e⟩,st⟩
theorem yn.lt (x:yn P w H h) (e:H a=some o):a<h.objs.size:=(x a o e).lt
theorem yn.fresh (x:yn P w H h) (e:h.objs.size<=a):H a=none:=by
 cases q:H a with
 |none=>rfl
 |some u=>exact absurd (aX (x.lt q) e) (c9 _)
theorem yn.kept (x:yn P w H h) (k:∀b u,h.get? b=some u->h'.get? b=some u):yn P w H h':=λa o e=>
 (x a o e).stay (λb u _ q=>k b u q) (λ_ q=>q) λ_ _ q=>q
theorem yn.laid (x:yn P w H h) (k:∀b u,h.get? b=some u->h'.get? b=some u) (hp:h.objs.size<=a) (new:kW P w (fC H a o) h' a o):yn P w (fC H a o) h':=λb u e=>by
 have hn:=x.fresh hp
 by_cases hb:b=a
 ·subst hb;rw[cp]at e;cases e;exact new
 ·rw[cb hb]at e
  exact(x b u e).stay (λc v _ q=>k c v q) (λc q=>by rw[cb (cJ q hn)];exact q) λc xs q=>by rw[cb (cJ q hn)];exact q
end
def Rd (H:Hp) (a:Addr) (u:HO):Prop:=H a=some u\/∃o,H a=some (.frz o u)
theorem Rd.ok {P:bR} {w:du} {H:Hp} {h:Heap} {a:Addr} {u:HO} (r:Rd H a u) (x:yn P w H h):kW P w H h a u:=by
 rcases r with r|⟨o,r⟩
 ·exact x a u r
 ·obtain⟨_,q⟩:=x a _ r
  exact q
def XG:Option HO->Prop
 |some (.lst _)=>True
 |some (.dK _)=>True
 |some (.dT _)=>True
 |some (.set _ _)=>True
 |some (.ins _ _ _)=>True
 |some (.ext _)=>True
 |_=>False
section
variable {P:bR} {w:du} {H:Hp} {h h':Heap} {x e:Addr} {o':HO}
theorem yn.write (ok:yn P w H h) (mu:XG (H x)) (he:e=x\/H e=some (.own x)) (k:∀b u,b≠e->h.get? b=some u->h'.get? b=some u) (Vm:∃u,h'.get? e=some u)
  (new:kW P w (fC H x o') h' x o'):yn P w (fC H x o') h':=λb u q=>by
 have nown:∀c y,H c=some (.own y)->c≠x:=λc y r z=>by subst z;rw[r]at mu;exact mu
 have ntup:∀c xs,H c=some (.tup xs)->c≠x:=λc xs r z=>by subst z;rw[r]at mu;exact mu
 by_cases hb:b=x
 ·subst hb;rw[cp]at q;cases q;exact new
 ·rw[cb hb]at q
  by_cases U0:b=e
  ·have q':H b=some (.own x):=by
    rcases he with z|z
    ·exact absurd (U0.trans z) hb
    ·rw[U0];exact z
   rw[q]at q';cases q'
   obtain⟨v,hv⟩:=Vm
   exact⟨v,by rw[U0];exact hv⟩
  ·refine(ok b u q).stay (λc v hc r=>k c v ?_ r) (λc r=>by rw[cb (nown c b r)];exact r) λc xs r=>by rw[cb (ntup c xs r)];exact r
   rcases hc with rfl|hc
   ·exact U0
   ·rintro rfl
    rcases he with z|z
    ·exact nown c b hc z
    ·rw[hc]at z;cases z;exact hb rfl
end
structure Un (fs ex:List Addr) (H H':Hp) (h h':Heap):Prop where
 keep:∀b o,h.get? b=some o->H b=none->b∉fs->b∉ex->h'.get? b=some o
 slot:∀b o,h.get? b=some o->H b=none->b∈fs->b∉ex->∃sl,h'.get? b=some {o with slots:=sl}
 free:∀b o,h.get? b=some o->H b=none->b∉ex->H' b=none
 there:∀b o,h.get? b=some o->b∉ex->∃o',h'.get? b=some o'
 tups:∀b xs,H b=some (.tup xs)->H' b=some (.tup xs)
 frzs:∀b o u,H b=some (.frz o u)->H' b=some (.frz o u)
 tbls:∀b ps,H b=some (.tbl ps)->∃more,H' b=some (.tbl (ps++more))
section
variable {fs Vg ex ex':List Addr} {H H1 H2:Hp} {h h1 h2 h':Heap} {a x e:Addr} {o:HO}
theorem Un.any (u:Un fs ex H H1 h h1) {b:Addr} {ob:Obj} (q:h.get? b=some ob) (n:H b=none) (hx:b∉ex):∃sl,h1.get? b=some {ob with slots:=sl}:=by
 by_cases hb:b∈fs
 ·exact u.slot b ob q n hb hx
 ·exact⟨ob.slots,u.keep b ob q n hb hx⟩
theorem Un.kept (k:∀b u,h.get? b=some u->h'.get? b=some u):Un fs ex H H h h':=
 ⟨λb ob q _ _ _=>k b ob q,λb ob q _ _ _=>⟨ob.slots,k b ob q⟩,λ_ _ _ n _=>n,λb ob q _=>⟨ob,k b ob q⟩,λ_ _ q=>q,λ_ _ _ q=>q,λ_ ps q=>⟨#[],by rw[q];simp⟩⟩
theorem Un.refl:Un fs ex H H h h:=Un.kept λ_ _ q=>q
theorem Un.laid (k:∀b u,h.get? b=some u->h'.get? b=some u) (hp:h.objs.size<=a) (hn:H a=none):Un fs ex H (fC H a o) h h' where
 keep:=λb u q _ _ _=>k b u q
 slot:=λb u q _ _ _=>⟨u.slots,k b u q⟩
 free:=λb u q n _=>by rw[cb (cA (aX (aN q) hp))];exact n
 there:=λb u q _=>⟨u,k b u q⟩
 tups:=λb xs q=>by rw[cb (cJ q hn)];exact q
 frzs:=λb u xs q=>by rw[cb (cJ q hn)];exact q
 tbls:=λb ps q=>⟨#[],by rw[cb (cJ q hn),q];simp⟩
theorem Un.write (mu:XG (H x)) (he:e=x\/H e=some (.own x)) (k:∀b u,b≠e->h.get? b=some u->h'.get? b=some u) (Vm:∃u,h'.get? e=some u):Un fs ex H (fC H x o) h h':=by
 have hx:∀b,H b=none->b≠x:=λb n z=>by subst z;rw[n]at mu;exact mu
 have hb:∀b,H b=none->b≠e:=λb n z=>by
  subst z
  rcases he with r|r
  ·exact hx b n r
  ·rw[n]at r;cases r
 have hm:∀b u,H b=some u->¬XG (some u)->b≠x:=λb u q nm z=>by subst z;rw[q]at mu;exact nm mu
 refine⟨λb u q n _ _=>k b u (hb b n) q,λb u q n _ _=>⟨u.slots,k b u (hb b n) q⟩,λb u q n _=>by rw[cb (hx b n)];exact n,λb u q _=>?_,
  λb xs q=>by rw[cb (hm b _ q λz=>z)];exact q,λb u xs q=>by rw[cb (hm b _ q λz=>z)];exact q,λb ps q=>⟨#[],by rw[cb (hm b _ q λz=>z),q];simp⟩⟩
 by_cases U0:b=e
 ·subst U0;exact Vm
 ·exact⟨u,k b u U0 q⟩
end
def Xm (h:Heap) (H:Hp):List Addr:=(ar h.objs.size).filter λa=>(H a).isSome
def Dd (h:Heap) (H:Hp):Heap:=lg h (Xm h H)
theorem J0 (h:Heap) (H:Hp):(Dd h H).objs.size=h.objs.size:=PySem.W.hideAll_size _ _
theorem NQ {h:Heap} {H:Hp} {b:Addr} {o:Obj} (e:h.get? b=some o) (n:H b=none):(Dd h H).get? b=some o:=
 fq _ e λhm=>by
  have q:(H b).isSome=true:=(List.mem_filter.mp hm).2
  rw[n]at q;simp at q
theorem QF {h:Heap} {H:Hp} {b:Addr} {o:Obj} (e:(Dd h H).get? b=some o):h.get? b=some o/\H b=none:=by
 have e':h.get? b=some o:=lV (Xm h H) e
 refine⟨e',?_⟩
 cases q:H b with
 |none=>rfl
 |some x=>
  have hm:b∈Xm h H:=List.mem_filter.mpr ⟨BB.mpr (aN e'),by simp[q]⟩
  have z:(Dd h H).get? b=none:=D9 (Xm h H) hm
  rw[z]at e;cases e
end L2
namespace L2
open PySem PySem.Spec PyProof.Rows
structure Mod (K:ag) (mg:Str->Option Value) (base:Heap):Prop where
 kin:K.In base
 glob:base.Ns bS mg
 blt:∃mb,base.Ns Sn mb/\∀x:Str,x≠"__name__"->mb x=dv x
 nolimit:base.NoLimit
structure Cx where
 prog:bR
 w:du
 K:ag
 mg:Str->Option Value
 base:Heap
 A:cG
 N:List Str
 s_0:ao
 H_0:Hp
 env:Env
 outer:List Env
 stack:List Env
 ex:List Addr
 fn:Str->Bool
 calm:Bool
 pn:List (Addr×Obj)
 xe:Value->ao->Prop
def yi (l:List Env):List Addr:=l.filterMap (·.frame)
abbrev Cx.fs (X:Cx):List Addr:=yi X.outer
def VB (sc:Scope) (x:Str):Prop:=sc.names.lookup x=some .local\/sc.names.lookup x=some .cell\/sc.names.lookup x=some .free
def TN (sc:Scope) (x:Str):Prop:=sc.names.lookup x=some .local\/sc.names.lookup x=some .cell
def aag (env:Env) (h:Heap) (m:Str->Option Value) (x:Str) (u:Value):Prop:=
 (env.kindOf x=some .local/\m x=some u)\/((env.kindOf x=some .cell\/env.kindOf x=some .free)/\∃c,env.cells.lookup x=some c/\h.IsCell c (some u))
structure Cx.Ok (X:Cx):Prop where
 mod:Mod X.K X.mg X.base
 kind:X.env.scope.kind= .function
 glob:X.env.globals=bS
 blt:X.env.builtins=Sn
 above:X.s_0.heap.objs.size<=X.env.locals
 inj:∀x y c,X.env.cells.lookup x=some c->X.env.cells.lookup y=some c->x=y
 has:∀x,(X.env.kindOf x=some .cell\/X.env.kindOf x=some .free)->∃c,X.env.cells.lookup x=some c
 cab:∀x c,X.fn x=true->X.env.cells.lookup x=some c->X.s_0.heap.objs.size<=c
 hd:X.calm=true->X.A.handled=none
 frames:X.A.frames=some X.stack
 stk:X.stack=X.outer\/(X.stack=X.env::X.outer/\X.env.frame=some X.env.locals)
 exf:∀b∈X.ex,b≠X.env.locals/\∀x c,X.env.cells.lookup x=some c->c≠b
 bs:∀b o,X.base.get? b=some o->X.s_0.heap.get? b=some o/\X.H_0 b=none
 bsz:X.base.objs.size<=X.s_0.heap.objs.size
 noex:∀b o,X.base.get? b=some o->b∉X.ex
 exfs:∀b∈X.ex,b∉X.fs
 funs:X.s_0.heap.FunFrames X.base X.outer
 frf:∀b∈X.fs,X.H_0 b=none
structure bG (X:Cx) (pins:List (Addr×Obj)) (σ:List (Option V)) (H:Hp) (s:ao):Prop where
 ok:X.Ok
 os:s.os=X.s_0.os
 bare:xh s.gens
 base:Un X.fs X.ex X.H_0 H X.s_0.heap s.heap
 loc:∃m,s.heap.Ns X.env.locals m/\∀(i:Nat) (x:Str) (v:V),X.N[i]? =some x->σ[i]? =some (some v)->VB X.env.scope x->∃u,dQ v u/\aag X.env s.heap m x u
 cell:∀x c,X.env.cells.lookup x=some c->∃v,s.heap.IsCell c v
 free:H X.env.locals=none
 freeC:∀x c,X.env.cells.lookup x=some c->H c=none
 pin:∀p∈X.pn++pins,s.heap.get? p.1=some p.2/\H p.1=none/\p.1≠X.env.locals/\p.1∉X.fs/\∀v,p.2.data≠.cell v
 hok:yn X.prog X.w H s.heap
 len:σ.length=X.N.length
section
variable {X:Cx} {pins:List (Addr×Obj)} {σ:List (Option V)} {H H':Hp} {s:ao} {h':Heap}
theorem Cx.Ok.nofr (ok:X.Ok) {b:Addr} {o:Obj} (e:X.base.get? b=some o):b∉X.fs:=λhb=>by
 have:=(ok.funs.mem hb).1
 rw[e]at this;cases this
theorem bG.bs (I:bG X pins σ H s):∀b o,X.base.get? b=some o->s.heap.get? b=some o/\H b=none:=λb o e=>
 ⟨I.base.keep b o (I.ok.bs b o e).1 (I.ok.bs b o e).2 (I.ok.nofr e) (I.ok.noex b o e),I.base.free b o (I.ok.bs b o e).1 (I.ok.bs b o e).2 (I.ok.noex b o e)⟩
theorem bG.bk (I:bG X pins σ H s):∀b o,X.base.get? b=some o->s.heap.get? b=some o:=λb o e=>(I.bs b o e).1
theorem bG.mod (I:bG X pins σ H s):Mod X.K X.mg X.base:=I.ok.mod
theorem bG.kIn (I:bG X pins σ H s):X.K.In s.heap:=I.ok.mod.kin.keeps I.bk
theorem bG.fr (I:bG X pins σ H s):∃m,Fr X.base X.env.locals s.heap m:=
 let ⟨m,hn,_⟩:=I.loc
 ⟨m,hn,I.bk,dR I.ok.bsz I.ok.above⟩
theorem bG.lt (I:bG X pins σ H s):X.env.locals<s.heap.objs.size:=let ⟨_,hn,_⟩:=I.loc;hn.lt
theorem bG.sz (I:bG X pins σ H s):X.s_0.heap.objs.size<=s.heap.objs.size:=dR I.ok.above (Gb I.lt)
theorem bG.nofs (I:bG X pins σ H s) {a:Addr} (h:s.heap.objs.size<=a):a∉X.fs:=λhb=>by
 obtain⟨_,o,ho,_⟩:=I.ok.funs.mem hb
 exact absurd (aX (aN ho) (dR I.sz h)) (c9 _)
theorem bG.cne (I:bG X pins σ H s):∀x c,X.env.cells.lookup x=some c->c≠X.env.locals:=λx c e z=>by
 obtain⟨v,o,ho,hd⟩:=I.cell x c e
 obtain⟨m,⟨o',es,ep,ho',XD,_⟩,_⟩:=I.loc
 rw[z,ho']at ho;cases ho;rw[XD]at hd;cases hd
theorem bG.funs (I:bG X pins σ H s):s.heap.FunFrames X.base X.outer:=by
 have all:∀(l:List Env),(∀b∈yi l,b∈X.fs)->X.s_0.heap.FunFrames X.base l->s.heap.FunFrames X.base l:=by
  intro l
  induction l with
  |nil=>intro _ _;trivial
  |cons env r ih=>
   intro hs hl
   obtain⟨hk,⟨L,o,hf,hn,ho,hd⟩,hr⟩:=hl
   have hL:L∈X.fs:=hs L (by unfold yi;rw[eH,hf];exact ae)
   obtain⟨sl,e⟩:=I.base.slot L o ho (I.ok.frf L hL) hL λz=>I.ok.exfs L z hL
   exact⟨hk,⟨L,_,hf,hn,e,hd⟩,ih (λb hb=>hs b (by unfold yi;rw[eH,hf];exact ai _ hb)) hr⟩
 exact all X.outer (λ_ hb=>hb) I.ok.funs
theorem bG.stack (I:bG X pins σ H s):s.heap.FunFrames X.base X.stack:=by
 rcases I.ok.stk with e|⟨e,hf⟩
 ·rw[e];exact I.funs
 ·rw[e]
  obtain⟨m,hn,_⟩:=I.loc
  refine .cons (by rw[I.ok.kind];decide) hf hn ?_ I.funs
  exact Heap.get?_none_of_le (dR I.ok.bsz I.ok.above)
theorem bG.stkSub (I:bG X pins σ H s):∀b∈yi X.stack,b∈X.env.locals::X.fs:=λb hb=>by
 rcases I.ok.stk with e|⟨e,hf⟩
 ·rw[e]at hb;exact ai _ hb
 ·rw[e]at hb
  unfold yi at hb
  rw[eH,hf]at hb
  exact hb
theorem bG.stkFree (I:bG X pins σ H s):∀b∈yi X.stack,H b=none:=λb hb=>by
 rcases aB.mp (I.stkSub b hb)with e|hb
 ·rw[e];exact I.free
 ·obtain⟨_,o,ho,_⟩:=I.ok.funs.mem hb
  exact I.base.free b o ho (I.ok.frf b hb) λz=>I.ok.exfs b z hb
theorem bG.step {g':Array GenState} {t':Nat} {d':Drawn} {ch:List Addr} (I:bG X pins σ H s)
  (wu:∀b∈ch,(b∈X.ex\/X.s_0.heap.objs.size<=b)/\b≠X.env.locals/\(∀x c,X.env.cells.lookup x=some c->c≠b)/\∀p∈X.pn++pins,p.1≠b)
  (keep:∀b o,b≠X.env.locals->b∉X.fs->b∉ch->s.heap.get? b=some o->H b=none->h'.get? b=some o)
  (slot:∀b o,b≠X.env.locals->b∈X.fs->b∉ch->s.heap.get? b=some o->H b=none->∃sl,h'.get? b=some {o with slots:=sl}) (free:∀b o,b∉ch->s.heap.get? b=some o->H b=none->H' b=none)
  (there:∀b o,b∉ch->s.heap.get? b=some o->∃o',h'.get? b=some o')
  (tups:∀b xs,H b=some (.tup xs)->H' b=some (.tup xs)) (frzs:∀b o u,H b=some (.frz o u)->H' b=some (.frz o u)) (tbls:∀b ps,H b=some (.tbl ps)->∃more,H' b=some (.tbl (ps++more)))
  (ns:∀m,s.heap.Ns X.env.locals m->h'.Ns X.env.locals m) (hok:yn X.prog X.w H' h') (hg:xh g'):
  bG X pins σ H' {s with heap:=h',gens:=g',drawn:=d',toks:=t'}:=by
 have neL:∀b o,X.s_0.heap.get? b=some o->b≠X.env.locals:=λb o e=>cA (aX (aN e) I.ok.above)
 have Xz:∀b o,X.s_0.heap.get? b=some o->b∉X.ex->b∉ch:=λb o e hx hb=>by
  rcases(wu b hb).1 with z|z
  ·exact hx z
  ·exact absurd (aX (aN e) z) (c9 _)
 have cellK:∀x c,X.env.cells.lookup x=some c->∀v,s.heap.IsCell c v->h'.IsCell c v:=λx c e v ⟨o,ho,hd⟩=>by
  have W7:c∉ch:=λz=>(wu c z).2.2.1 x c e rfl
  by_cases hc:c∈X.fs
  ·obtain⟨sl,q⟩:=slot c o (I.cne x c e) hc W7 ho (I.freeC x c e)
   exact⟨_,q,hd⟩
  ·exact⟨o,keep c o (I.cne x c e) hc W7 ho (I.freeC x c e),hd⟩
 refine⟨I.ok,I.os,hg,⟨λb o e n hb hx=>?_,λb o e n hb hx=>?_,λb o e n hx=>?_,λb o e hx=>?_,λb xs e=>tups b xs (I.base.tups b xs e),λb o xs e=>frzs b o xs (I.base.frzs b o xs e),λb ps e=>?_⟩,?_,λx c e=>?_,?_,λx c e=>?_,λp hp=>?_,hok,I.len⟩
 ·exact keep b o (neL b o e) hb (Xz b o e hx) (I.base.keep b o e n hb hx) (I.base.free b o e n hx)
 ·obtain⟨sl,e1⟩:=I.base.slot b o e n hb hx
  obtain⟨sl',e2⟩:=slot b _ (neL b o e) hb (Xz b o e hx) e1 (I.base.free b o e n hx)
  exact⟨sl',e2⟩
 ·obtain⟨o',e1⟩:=I.base.there b o e hx
  exact free b o' (Xz b o e hx) e1 (I.base.free b o e n hx)
 ·obtain⟨o',e1⟩:=I.base.there b o e hx
  exact there b o' (Xz b o e hx) e1
 ·obtain⟨m1,e1⟩:=I.base.tbls b ps e
  obtain⟨m2,e2⟩:=tbls b _ e1
  exact⟨m1++m2,by rw[e2,JA]⟩
 ·obtain⟨m,hn,hl⟩:=I.loc
  refine⟨m,ns m hn,λi x v e1 e2 e3=>?_⟩
  obtain⟨u,r,l⟩:=hl i x v e1 e2 e3
  refine⟨u,r,?_⟩
  rcases l with l|⟨k,c,e,z⟩
  ·exact .inl l
  ·exact .inr ⟨k,c,e,cellK x c e _ z⟩
 ·obtain⟨v,z⟩:=I.cell x c e
  exact⟨v,cellK x c e v z⟩
 ·obtain⟨m,⟨o,_,_,ho,_⟩,_⟩:=I.loc
  exact free _ o (λz=>(wu _ z).2.1 rfl) ho I.free
 ·obtain⟨v,o,ho,hd⟩:=I.cell x c e
  exact free c o (λz=>(wu c z).2.2.1 x c e rfl) ho (I.freeC x c e)
 ·obtain⟨e,n,ne,nf,d⟩:=I.pin p hp
  have W7:p.1∉ch:=λz=>(wu p.1 z).2.2.2 p hp rfl
  exact⟨keep p.1 p.2 ne nf W7 e n,free p.1 p.2 W7 e n,ne,nf,d⟩
theorem bG.un {t':Nat} (I:bG X pins σ H s) (u:Un X.fs [] H H' s.heap h') (hok:yn X.prog X.w H' h'):bG X pins σ H' {s with heap:=h',toks:=t'}:=by
 obtain⟨m,⟨o,es,ep,ho,r⟩,_⟩:=id I.loc
 obtain⟨sl,hL⟩:=u.any ho I.free (by simp)
 exact I.step (g':=s.gens) (d':=s.drawn) (ch:=[]) (λ_ z=>nomatch z) (λb o _ hb _ e n=>u.keep b o e n hb (by simp)) (λb o _ hb _ e n=>u.slot b o e n hb (by simp)) (λb o _ e n=>u.free b o e n (by simp)) (λb o _ e=>u.there b o e (by simp)) u.tups u.frzs u.tbls (λm' hm=>by
  obtain⟨o',es',Z8,ho',r'⟩:=hm
  rw[ho]at ho';cases ho'
  exact⟨_,es',Z8,hL,r'⟩) hok I.bare
theorem bG.call {g':Array GenState} {t':Nat} {d':Drawn} {ch:List Addr} (I:bG X pins σ H s) (u:Un (yi X.stack) ch H H' s.heap h') (hok:yn X.prog X.w H' h') (hg:xh g')
  (wu:∀b∈ch,(b∈X.ex\/X.s_0.heap.objs.size<=b)/\b≠X.env.locals/\(∀x c,X.env.cells.lookup x=some c->c≠b)/\∀p∈X.pn++pins,p.1≠b):
  bG X pins σ H' {s with heap:=h',gens:=g',drawn:=d',toks:=t'}:=by
 obtain⟨m,⟨o,es,ep,ho,r⟩,_⟩:=id I.loc
 obtain⟨sl,hL⟩:=u.any ho I.free λz=>(wu _ z).2.1 rfl
 exact I.step (ch:=ch) wu (λb o hL hb hc e n=>u.keep b o e n (λz=>(aB.mp (I.stkSub b z)).elim hL hb) hc) (λb o _ _ hc e n=>u.any e n hc) (λb o hc e n=>u.free b o e n hc) (λb o hc e=>u.there b o e hc) u.tups u.frzs u.tbls (λm' hm=>by
  obtain⟨o',es',Z8,ho',r'⟩:=hm
  rw[ho]at ho';cases ho'
  exact⟨_,es',Z8,hL,r'⟩) hok hg
theorem bG.turned {t':Nat} {it:Addr} (I:bG X pins σ H s) (k:∀b o,b≠it->s.heap.get? b=some o->h'.get? b=some o) (hn:H it=none) (hL:it≠X.env.locals)
  (h1:it∈X.ex\/X.s_0.heap.objs.size<=it) (h2:∀x c,X.env.cells.lookup x=some c->c≠it) (h3:∀p∈X.pn++pins,p.1≠it):bG X pins σ H {s with heap:=h',toks:=t'}:=by
 have Se:∀b u,H b=some u->b≠it:=λb u e z=>by rw[z,hn]at e;cases e
 refine I.step (g':=s.gens) (d':=s.drawn) (ch:=[it]) (λb hb=>?_) (λb o _ _ hc e _=>k b o (λz=>hc (by simp[z])) e) (λb o _ _ hc e _=>⟨o.slots,k b o (λz=>hc (by simp[z])) e⟩) (λ_ _ _ _ n=>n)
  (λb o hc e=>⟨o,k b o (λz=>hc (by simp[z])) e⟩) (λ_ _ e=>e) (λ_ _ _ e=>e) (λb ps e=>⟨#[],by rw[e];simp⟩) (λm hm=>?_) (λb u e=>?_) I.bare
 ·have e:b=it:=by simpa using hb
  subst e
  exact⟨h1,hL,h2,h3⟩
 ·obtain⟨o,es,ep,ho,r⟩:=hm
  exact⟨o,es,ep,k _ o (iy hL) ho,r⟩
 ·refine(I.hok b u e).stay (λc v hc q=>k c v ?_ q) (λ_ q=>q) λ_ _ q=>q
  rcases hc with z|z
  ·rw[z];exact Se b u e
  ·exact Se c _ z
theorem bG.tok (I:bG X pins σ H s) (t:Nat):bG X pins σ H {s with toks:=t}:=I.un (h':=s.heap) (t':=t) Un.refl I.hok
theorem bG.kept {t':Nat} (I:bG X pins σ H s) (k:∀b u,s.heap.get? b=some u->h'.get? b=some u):bG X pins σ H {s with heap:=h',toks:=t'}:=I.un (Un.kept k) (I.hok.kept k)
theorem bG.laid {a:Addr} {o:HO} {t':Nat} (I:bG X pins σ H s) (k:∀b u,s.heap.get? b=some u->h'.get? b=some u) (hp:s.heap.objs.size<=a) (new:kW X.prog X.w (fC H a o) h' a o):
  bG X pins σ (fC H a o) {s with heap:=h',toks:=t'}:=I.un (Un.laid k hp (I.hok.fresh hp)) (I.hok.laid k hp new)
theorem bG.write {x e:Addr} {o:HO} {t':Nat} (I:bG X pins σ H s) (mu:XG (H x)) (he:e=x\/H e=some (.own x)) (k:∀b u,b≠e->s.heap.get? b=some u->h'.get? b=some u) (Vm:∃u,h'.get? e=some u)
  (new:kW X.prog X.w (fC H x o) h' x o):bG X pins σ (fC H x o) {s with heap:=h',toks:=t'}:=I.un (Un.write mu he k Vm) (I.hok.write mu he k Vm new)
theorem bG.weak {σ':List (Option V)} (I:bG X pins σ H s) (hl:σ'.length=σ.length) (w:∀(i:Nat) v,σ'[i]? =some (some v)->σ[i]? =some (some v)):bG X pins σ' H s:=
 ⟨I.ok,I.os,I.bare,I.base,let ⟨m,hn,hl'⟩:=I.loc;⟨m,hn,λi x v e1 e2 e3=>hl' i x v e1 (w i v e2) e3⟩,I.cell,I.free,I.freeC,I.pin,I.hok,hl.trans I.len⟩
theorem bG.pins_of {RG:List (Addr×Obj)} (I:bG X pins σ H s) (h:∀p∈RG,s.heap.get? p.1=some p.2/\H p.1=none/\p.1≠X.env.locals/\p.1∉X.fs/\∀v,p.2.data≠.cell v):bG X RG σ H s:=
 ⟨I.ok,I.os,I.bare,I.base,I.loc,I.cell,I.free,I.freeC,λp hp=>(gq.mp hp).elim (λz=>I.pin p (fm _ z)) (h p),I.hok,I.len⟩
theorem gh {N:List Str} (hN:N.Nodup) {i j:Nat} {x:Str} (a:N[i]? =some x) (b:N[j]? =some x):i=j:=by
 obtain⟨h1,e1⟩:=bh.mp a
 obtain⟨h2,e2⟩:=bh.mp b
 exact(List.getElem_inj hN).mp (e1.trans e2.symm)
theorem wO {M:Model} {A:cG} {E:Value->ao->Prop} {i:Nat} {x:Str} {v:V} {u:Value} {Q:Unit->ao->Prop} (I:bG X pins σ H s) (hN:X.N.Nodup) (hi:X.N[i]? =some x) (hx:TN X.env.scope x) (r:dQ v u)
  (h:∀s',bG X pins (σ.set i (some v)) H s'->(∃a,jd a s.heap s'.heap/\(a=X.env.locals\/X.env.cells.lookup x=some a))->Q () s') (hf:X.fn x=true\/X.env.scope.names.lookup x=some .local:=by first|exact .inl rfl|exact .inr rfl|assumption):wpAny M A (storeName X.env x u) Q E s:=by
 obtain⟨m,hn,hl⟩:=id I.loc
 have Bp:(X.env.scope.kind== .class||(X.env.scope.kind== .module&&X.env.locals !=X.env.globals))=false:=by rw[I.ok.kind];rfl
 have hiσ:i<σ.length:=by rw[I.len];exact(bh.mp hi).1
 have cne:=I.cne
 have tracked:∀{a:Addr} {h':Heap},(∃o,s.heap.get? a=some o/\H a=none)->jd a s.heap h'->yn X.prog X.w H h':=λ{a h'} ha hs b ob e=>by
  obtain⟨_,_,xE⟩:=ha
  refine(I.hok b ob e).stay (λc w' hc q=>(hs.2 c ?_).trans q) (λ_ q=>q) λ_ _ q=>q
  rintro rfl
  rcases hc with rfl|hc
  ·rw[xE]at e;cases e
  ·rw[xE]at hc;cases hc
 rcases hx with hk|hk
 ·refine wpAny_storeName_local hk hn (λh' hn' hs=>?_) Bp
  obtain⟨oL,_,_,hoL,_⟩:=id hn
  refine h _ ⟨I.ok,I.os,I.bare,⟨λb o e n hb hx=>?_,λb o e n hb hx=>?_,I.base.free,λb o e hx=>?_,I.base.tups,I.base.frzs,I.base.tbls⟩,⟨_,hn',λj y v' e1 e2 e3=>?_⟩,λy c e=>?_,I.free,I.freeC,λp hp=>?_,tracked ⟨oL,hoL,I.free⟩ hs,by simpa using I.len⟩ ⟨_,hs,.inl rfl⟩
  ·exact(hs.2 b (cA (aX (aN e) I.ok.above))).trans (I.base.keep b o e n hb hx)
  ·obtain⟨sl,e1⟩:=I.base.slot b o e n hb hx
   exact⟨sl,(hs.2 b (cA (aX (aN e) I.ok.above))).trans e1⟩
  ·obtain⟨o',e1⟩:=I.base.there b o e hx
   exact⟨o',(hs.2 b (cA (aX (aN e) I.ok.above))).trans e1⟩
  ·by_cases hj:j=i
   ·subst hj
    rw[hi]at e1;cases e1
    rw[cy hiσ]at e2
    cases e2
    exact⟨u,r,.inl ⟨hk,by simp⟩⟩
   ·rw[cf (iy hj)]at e2
    obtain⟨u',r',q⟩:=hl j y v' e1 e2 e3
    refine⟨u',r',?_⟩
    rcases q with ⟨k,e⟩|⟨k,c,e,z⟩
    ·refine .inl ⟨k,?_⟩
     have:y≠x:=λe=>hj (gh hN e1 (e▸hi))
     simp[this,e]
    ·exact .inr ⟨k,c,e,z.sameBut hs (cne y c e)⟩
  ·obtain⟨w',z⟩:=I.cell y c e
   exact⟨w',z.sameBut hs (cne y c e)⟩
  ·obtain⟨e,n,ne,nf,d⟩:=I.pin p hp
   exact⟨(hs.2 p.1 ne).trans e,n,ne,nf,d⟩
 ·have Zi:X.fn x=true:=by
   rcases hf with z|z
   ·exact z
   ·rw[z]at hk;cases hk
  obtain⟨c,hc⟩:=I.ok.has x (.inl hk)
  obtain⟨w',z⟩:=I.cell x c hc
  refine wpAny_storeName_cell I.ok.kind hk hc z (λh' hc' hs=>?_)
  obtain⟨oc,hoc,YA⟩:=id z
  refine h {s with heap:=h'} ⟨I.ok,I.os,I.bare,⟨λb o e n hb hx=>?_,λb o e n hb hx=>?_,I.base.free,λb o e hx=>?_,I.base.tups,I.base.frzs,I.base.tbls⟩,⟨m,hn.sameBut hs (iy (cne x c hc)),λj y v' e1 e2 e3=>?_⟩,λy c' e=>?_,I.free,I.freeC,λp hp=>?_,tracked ⟨oc,hoc,I.freeC x c hc⟩ hs,by simpa using I.len⟩ ⟨c,hs,.inr hc⟩
  ·exact(hs.2 b (cA (aX (aN e) (I.ok.cab x c Zi hc)))).trans (I.base.keep b o e n hb hx)
  ·obtain⟨sl,e1⟩:=I.base.slot b o e n hb hx
   exact⟨sl,(hs.2 b (cA (aX (aN e) (I.ok.cab x c Zi hc)))).trans e1⟩
  ·obtain⟨o',e1⟩:=I.base.there b o e hx
   exact⟨o',(hs.2 b (cA (aX (aN e) (I.ok.cab x c Zi hc)))).trans e1⟩
  ·by_cases hj:j=i
   ·subst hj
    rw[hi]at e1;cases e1
    rw[cy hiσ]at e2
    cases e2
    exact⟨u,r,.inr ⟨.inl hk,c,hc,hc'⟩⟩
   ·rw[cf (iy hj)]at e2
    obtain⟨u',r',q⟩:=hl j y v' e1 e2 e3
    refine⟨u',r',?_⟩
    rcases q with q|⟨k,c',e,z'⟩
    ·exact .inl q
    ·refine .inr ⟨k,c',e,z'.sameBut hs ?_⟩
     rintro rfl
     exact hj (gh hN e1 (I.ok.inj _ _ _ e hc▸hi))
  ·by_cases Vk:c'=c
   ·subst Vk;exact⟨_,hc'⟩
   ·obtain⟨w2,z2⟩:=I.cell y c' e
    exact⟨w2,z2.sameBut hs Vk⟩
  ·obtain⟨e,n,ne,nf,d⟩:=I.pin p hp
   refine⟨(hs.2 p.1 ?_).trans e,n,ne,nf,d⟩
   intro q
   rw[q,hoc]at e
   have q':oc=p.2:=bo e
   exact d w' (by rw[<-q'];exact YA)
theorem zr {M:Model} {A:cG} {E:Value->ao->Prop} {i:Nat} {x:Str} {v:V} {u:Value} {Q:Unit->ao->Prop} (I:bG X pins σ H s) (hN:X.N.Nodup) (hi:X.N[i]? =some x) (hx:TN X.env.scope x) (r:dQ v u)
  (h:∀s',bG X pins (σ.set i (some v)) H s'->Q () s') (hf:X.fn x=true\/X.env.scope.names.lookup x=some .local:=by first|exact .inl rfl|exact .inr rfl|assumption):wpAny M A (storeName X.env x u) Q E s:=
 wO I hN hi hx r (λs' I' _=>h s' I') hf
theorem bG.call' {s':ao} {ch:List Addr} (I:bG X pins σ H s) (ho:s'.os=s.os) (u:Un (yi X.stack) ch H H' s.heap s'.heap) (hok:yn X.prog X.w H' s'.heap) (hg:xh s'.gens)
  (wu:∀b∈ch,(b∈X.ex\/X.s_0.heap.objs.size<=b)/\b≠X.env.locals/\(∀x c,X.env.cells.lookup x=some c->c≠b)/\∀p∈X.pn++pins,p.1≠b):bG X pins σ H' s':=by
 obtain⟨h',g',d',t',o'⟩:=s'
 have e:o'=s.os:=ho
 subst e
 exact I.call (g':=g') (t':=t') (d':=d') u hok hg wu
end
abbrev XK:=Value->Option Addr->Hp->Prop
abbrev St:=List (Option V)
abbrev VK:=V->Hp->Prop
abbrev TE:=St->Hp->VK->Prop
abbrev TT:=St->Hp->(Bool->Hp->Prop)->Prop
abbrev TA:=St->Hp->(List V->Hp->Prop)->Prop
structure uw where
 nx:St->Hp->Prop
 rt:VK
 bk:St->Hp->Prop:=λ_ _=>False
 ct:St->Hp->Prop:=λ_ _=>False
abbrev TS:=uw->St->Hp->Prop
def EP (X:Cx) (pins:List (Addr×Obj)) (σ:St) (Q:VK) (u:Value) (s':ao):Prop:=∃v H',bG X pins σ H' s'/\dQ v u/\Q v H'
def TP (X:Cx) (pins:List (Addr×Obj)) (σ:St) (Q:Bool->Hp->Prop) (b:Bool) (s':ao):Prop:=∃H',bG X pins σ H' s'/\Q b H'
def AP (X:Cx) (pins:List (Addr×Obj)) (σ:St) (Q:List V->Hp->Prop) (us:List Value) (s':ao):Prop:=∃vs H',bG X pins σ H' s'/\b8 vs us/\Q vs H'
def SP (X:Cx) (pins:List (Addr×Obj)) (D:uw) (f:Flow) (s':ao):Prop:=
 match f with
 | .next=>∃σ' H',bG X pins σ' H' s'/\D.nx σ' H'
 | .brk=>∃σ' H',bG X pins σ' H' s'/\D.bk σ' H'
 | .cont=>∃σ' H',bG X pins σ' H' s'/\D.ct σ' H'
 | .ret u=>∃v σ' H',bG X pins σ' H' s'/\dQ v u/\D.rt v H'
def PE (X:Cx) (e:aS) (t:TE):Prop:=
 ∀(pins:List (Addr×Obj)) (s:ao) (σ:St) (H:Hp) (Q:VK),bG X pins σ H s->t σ H Q->wpAny (aU X.prog X.w) X.A (eval e X.env) (EP X pins σ Q) X.xe s
def PT (X:Cx) (e:aS) (t:TT):Prop:=
 ∀(pins:List (Addr×Obj)) (s:ao) (σ:St) (H:Hp) (Q:Bool->Hp->Prop),bG X pins σ H s->t σ H Q->wpAny (aU X.prog X.w) X.A (isTrue e X.env (eval e X.env)) (TP X pins σ Q) X.xe s
def PW (X:Cx) (e:aS) (t:TT):Prop:=
 ∀(whole:Sem Value) (pins:List (Addr×Obj)) (s:ao) (σ:St) (H:Hp) (Q:Bool->Hp->Prop),bG X pins σ H s->t σ H Q->wpAny (aU X.prog X.w) X.A (isTrue e X.env whole) (TP X pins σ Q) X.xe s
def PA (X:Cx) (es:List aS) (t:TA):Prop:=
 ∀(pos:Pos) (pins:List (Addr×Obj)) (s:ao) (σ:St) (H:Hp) (Q:List V->Hp->Prop),bG X pins σ H s->t σ H Q->wpAny (aU X.prog X.w) X.A (spliced (cw pos (ak es X.env))) (AP X pins σ Q) X.xe s
def PS (X:Cx) (st:Stmt) (t:TS):Prop:=
 ∀(pins:List (Addr×Obj)) (s:ao) (σ:St) (H:Hp) (D:uw),bG X pins σ H s->t D σ H->wpAny (aU X.prog X.w) X.A (exec st X.env) (SP X pins D) X.xe s
def B8 (X:Cx) (st:List Stmt) (t:TS):Prop:=
 ∀(pins:List (Addr×Obj)) (s:ao) (σ:St) (H:Hp) (D:uw),bG X pins σ H s->t D σ H->wpAny (aU X.prog X.w) X.A (execs st X.env) (SP X pins D) X.xe s
theorem fb {α:Type} {t:Sem α} {Q Q':α->ao->Prop} {M:Model} {A:cG} {E:Value->ao->Prop} {s:ao} (h:wpAny M A t Q E s) (hQ:∀a s,Q a s->Q' a s):wpAny M A t Q' E s:=wpAny_mono h hQ λ_ _ x=>x
end L2
namespace L2
open PySem PySem.Spec PyProof.Rows
section
variable {X:Cx}
theorem bin {a b:aS} {ta tb:TE} (ha:PE X a ta) (hb:PE X b tb) {pins:List (Addr×Obj)} {s:ao} {σ:St} {H:Hp} {R:V->V->Hp->Prop} (I:bG X pins σ H s) (h:ta σ H λx H1=>tb σ H1 λy H2=>R x y H2)
  {α:Type} {Q:α->ao->Prop} {f:Value->Value->Sem α}
  (hf:∀v u s2 x y H2,bG X pins σ H2 s2->dQ x v->dQ y u->R x y H2->wpAny (aU X.prog X.w) X.A (f v u) Q X.xe s2):
  wpAny (aU X.prog X.w) X.A (eval a X.env) (λv s₁=>wpAny (aU X.prog X.w) X.A (eval b X.env) (λu s₂=>wpAny (aU X.prog X.w) X.A (f v u) Q X.xe s₂) X.xe s₁) X.xe s:=by
 refine fb (ha pins s σ H _ I h) λv s1 ⟨x,H1,I1,r1,q1⟩=>?_
 refine fb (hb pins s1 σ H1 _ I1 q1) λu s2 ⟨y,H2,I2,r2,q2⟩=>?_
 exact hf v u s2 x y H2 I2 r1 r2 q2
def ZZ (i:Nat):TE:=λσ H Q=>∃v,σ[i]? =some (some v)/\Q v H
def tC (v:V):TE:=λ_ H Q=>Q v H
theorem T9 {i:Nat} {x:Str} {pos:Pos} (hN:X.N[i]? =some x) (hv:VB X.env.scope x) (hd:(x==("__debug__":Str))=false:=by decide) (Ir:(x==("__classdict__":Str))=false:=by decide):PE X (.Name x pos) (ZZ i):=by
 intro pins s σ H Q I h
 obtain⟨v,e,h⟩:=h
 obtain⟨m,hn,hl⟩:=I.loc
 obtain⟨u,r,l⟩:=hl i x v hN e hv
 have fin:EP X pins σ Q u s:=⟨v,H,I,r,h⟩
 rcases l with ⟨hk,hm⟩|⟨hk,c,hc,Ia⟩
 ·exact So (OU I.ok.kind hk hn hm fin) hd
 ·rcases hk with hk|hk
  ·exact So (Rx I.ok.kind hk hc Ia fin) hd
  ·exact So (wpAny_loadName_free I.ok.kind hk hc Ia fin Ir) hd
theorem UH {i j pos}:PE X (.Constant (.int i) j pos) (tC (.int i)):=λ_ _ _ H _ I h=>wpAny_Constant_int ⟨.int i,H,I.tok _,⟨_,rfl⟩,h⟩
theorem VQ {b j pos}:PE X (.Constant (.bool b) j pos) (tC (.bl b)):=λ_ _ _ H _ I h=>Constant_bool ⟨.bl b,H,I,rfl,h⟩
theorem U1 {j pos}:PE X (.Constant .none j pos) (tC .non):=λ_ _ _ H _ I h=>Constant_none ⟨.non,H,I,rfl,h⟩
theorem UB {x j pos}:PE X (.Constant (.str x) j pos) (tC (.str x)):=λ_ _ _ H _ I h=>Calls.Constant_str ⟨.str x,H,I.tok _,⟨_,rfl⟩,h⟩
def Gl (X:Cx) (x:Str):Prop:=X.env.kindOf x=some .globalImplicit
theorem oR {E:Value->ao->Prop} {pins:List (Addr×Obj)} {s:ao} {σ:St} {H:Hp} {x:Str} {u:Value} {pos:Pos} {Q:Value->ao->Prop} (I:bG X pins σ H s) (hg:Gl X x) (hm:X.mg x=some u) (h:Q u s)
  (hd:(x==("__debug__":Str))=false:=by decide):wpAny (aU X.prog X.w) X.A (eval (.Name x pos) X.env) Q E s:=
 AU I.ok.kind hg (Calls.loadGlobal_global (by rw[I.ok.glob];exact I.mod.glob.keeps I.bk) hm h) hd
theorem oG {E:Value->ao->Prop} {pins:List (Addr×Obj)} {s:ao} {σ:St} {H:Hp} {x:Str} {u:Value} {pos:Pos} {Q:Value->ao->Prop} (I:bG X pins σ H s) (hg:Gl X x) (hm:X.mg x=none) (hv:dv x=some u) (h:Q u s)
  (hn:x≠"__name__":=by decide) (hd:(x==("__debug__":Str))=false:=by decide):wpAny (aU X.prog X.w) X.A (eval (.Name x pos) X.env) Q E s:=by
 obtain⟨mb,h1,h2⟩:=I.mod.blt
 exact AU I.ok.kind hg (Calls.loadGlobal_builtin (by rw[I.ok.glob];exact I.mod.glob.keeps I.bk) hm (by rw[I.ok.blt];exact h1.keeps I.bk) ((h2 x hn).trans hv) h) hd
theorem QO {x:Str} {v:V} {u:Value} {pos:Pos} (hg:Gl X x) (hm:X.mg x=some u) (r:dQ v u) (hd:(x==("__debug__":Str))=false:=by decide):PE X (.Name x pos) (tC v):=
 λ_ _ _ H _ I h=>oR I hg hm ⟨v,H,I,r,h⟩ hd
variable {a b:aS} {ta tb:TE} {pos:Pos}
def PC (X:Cx) (op:qb) (a b:aS) (t:TE):Prop:=
 ∀(pins:List (Addr×Obj)) (s:ao) (σ:St) (H:Hp) (Q:VK),bG X pins σ H s->t σ H Q->
  wpAny (aU X.prog X.w) X.A (eval a X.env) (λv s₁=>wpAny (aU X.prog X.w) X.A (eval b X.env) (λu s₂=>wpAny (aU X.prog X.w) X.A (dG op v u) (EP X pins σ Q) X.xe s₂) X.xe s₁) X.xe s
theorem FP (b:aS) {op:qb} (h:op≠.In) (h2:op≠.NotIn):eR op b=false:=by
 have e1:(op==qb.In)=false:=by cases op<;>first|rfl|exact absurd rfl h
 have e2:(op==qb.NotIn)=false:=by cases op<;>first|rfl|exact absurd rfl h2
 cases b<;>simp[eR,e1,e2]
def ZU (ta:TE):TE:=λσ H Q=>ta σ H λx H1=>Q (.bl (decide (x= .non))) H1
def WY (ta:TE):TE:=λσ H Q=>ta σ H λx H1=>Q (.bl (!decide (x= .non))) H1
theorem dQ.none_iff {x:V} {v:Value} (r:dQ x v):(v==cK)=decide (x= .non):=by
 cases x with
 |non=>cases r;rfl
 |bl _=>cases r;rfl
 |int _=>obtain⟨t,rfl⟩:=r;rfl
 |str _=>obtain⟨t,rfl⟩:=r;rfl
 |byt _=>obtain⟨t,rfl⟩:=r;rfl
 |flt _=>obtain⟨t,rfl⟩:=r;rfl
 |ref _=>cases r;rfl
 |ty _=>cases r;rfl
theorem U6 {j pos'} (ha:PE X a ta):PC X .Is a (.Constant .none j pos') (ZU ta):=by
 intro pins s σ H Q I h
 refine fb (ha pins s σ H _ I h) λv s1 ⟨x,H1,I1,r1,q1⟩=>?_
 exact Constant_none (is_none_gen ⟨.bl _,H1,I1,by rw[r1.none_iff];rfl,q1⟩)
theorem Qk {j pos'} (ha:PE X a ta):PC X .IsNot a (.Constant .none j pos') (WY ta):=by
 intro pins s σ H Q I h
 refine fb (ha pins s σ H _ I h) λv s1 ⟨x,H1,I1,r1,q1⟩=>?_
 exact Constant_none (isnot_none_gen ⟨.bl _,H1,I1,by rw[r1.none_iff];rfl,q1⟩)
def tB (t:TE):TT:=λσ H Q=>t σ H λx H1=>∃c,x= .bl c/\Q c H1
theorem UR {op:qb} {t:TE} (h:PC X op a b t) (h1:eR op b=false:=by first|exact FP _ (by decide) (by decide)|rfl):PE X (.Compare a [op] [b] pos) t:=λpins s σ H Q I hw=>wpAny_Compare1 (h pins s σ H Q I hw) h1
theorem Um {op:qb} {t:TE} (h:PC X op a b t) (h1:eR op b=false:=by first|exact FP _ (by decide) (by decide)|rfl):PT X (.Compare a [op] [b] pos) (tB t):=by
 intro pins s σ H Q I hw
 refine OF (fb (h pins s σ H _ I hw) λv s1 h1=>fb h1 λu s2 h2=>fb h2 λc s3 ⟨x,H1,I1,r1,q1⟩=>?_) h1
 obtain⟨d,rfl,q⟩:=q1
 cases r1
 exact fF ⟨H1,I1,q⟩
theorem Sy {e:aS} {t:TE} (h:PE X e t) (he:∀whole,isTrue e X.env whole=(do let v<-whole;standAt e.pos;holding [v] (truthy v)):=by intro _;rfl):PT X e (tB t):=by
 intro pins s σ H Q I hw
 refine isTrue_plain (fb (h pins s σ H _ I hw) λv s1 ⟨x,H1,I1,r1,q1⟩=>?_) (he _)
 obtain⟨d,rfl,q⟩:=q1
 cases r1
 exact fF ⟨H1,I1,q⟩
variable {tA XF:TT} {rest:List aS}
def ZR (t u:TT):TT:=λσ H Q=>t σ H λc H1=>if c=true then u σ H1 Q else Q false H1
def tOr (t u:TT):TT:=λσ H Q=>t σ H λc H1=>if c=true then Q true H1 else u σ H1 Q
def Z4 (t:TT):TT:=λσ H Q=>t σ H λc H1=>Q (!c) H1
theorem QP (ha:PT X a tA):PW X (.BoolOp .And [a] pos) tA:=by
 intro wh pins s σ H Q I h
 refine isTrue_and (fb (ha pins s σ H Q I h) λc s1 e=>?_)
 cases c with
 |true=>exact isTrue_and_nil e
 |false=>exact e
theorem T1 (ha:PT X a tA):PW X (.BoolOp .Or [a] pos) tA:=by
 intro wh pins s σ H Q I h
 refine isTrue_or (fb (ha pins s σ H Q I h) λc s1 e=>?_)
 cases c with
 |false=>exact isTrue_or_nil e
 |true=>exact e
theorem SU (ha:PT X a tA) (hb:PW X (.BoolOp .And (b::rest) pos) XF):PW X (.BoolOp .And (a::b::rest) pos) (ZR tA XF):=by
 intro wh pins s σ H Q I h
 refine isTrue_and (fb (ha pins s σ H _ I h) λc s1 ⟨H1,I1,q1⟩=>?_)
 cases c with
 |true=>exact hb wh pins s1 σ H1 Q I1 q1
 |false=>exact⟨H1,I1,q1⟩
theorem WB (ha:PT X a tA) (hb:PW X (.BoolOp .Or (b::rest) pos) XF):PW X (.BoolOp .Or (a::b::rest) pos) (tOr tA XF):=by
 intro wh pins s σ H Q I h
 refine isTrue_or (fb (ha pins s σ H _ I h) λc s1 ⟨H1,I1,q1⟩=>?_)
 cases c with
 |true=>exact⟨H1,I1,q1⟩
 |false=>exact hb wh pins s1 σ H1 Q I1 q1
theorem SO (ha:PT X a tA):PT X (.UnaryOp .Not a pos) (Z4 tA):=by
 intro pins s σ H Q I h
 exact isTrue_not (ha pins s σ H (λc H1=>Q (!c) H1) I h)
def WH (ta tb:TE):TE:=λσ H Q=>ta σ H λx H1=>∃c,x= .bl c/\if c=true then tb σ H1 Q else Q (.bl false) H1
theorem Vb {op} {t:TE} (h:PE X a t):PE X (.BoolOp op [a] pos) t:=λpins s σ H Q I hw=>BoolOp_one (h pins s σ H Q I hw)
theorem T3 (ha:PE X a ta) (hb:PE X (.BoolOp .And (b::rest) pos) tb):PE X (.BoolOp .And (a::b::rest) pos) (WH ta tb):=by
 intro pins s σ H Q I h
 refine BoolOp_and (fb (ha pins s σ H _ I h) λv s1 ⟨x,H1,I1,r1,q1⟩=>?_)
 obtain⟨c,rfl,q1⟩:=q1
 cases r1
 refine fF ?_
 cases c with
 |true=>exact hb pins s1 σ H1 Q I1 q1
 |false=>exact⟨.bl false,H1,I1,rfl,q1⟩
def tIf (t:TT) (ta tb:TE):TE:=λσ H Q=>t σ H λc H1=>if c=true then ta σ H1 Q else tb σ H1 Q
theorem EM {c:aS} (hc:PT X c tA) (ha:PE X a ta) (hb:PE X b tb):PE X (.IfExp c a b pos) (tIf tA ta tb):=by
 intro pins s σ H Q I h
 refine wpAny_IfExp (fb (hc pins s σ H _ I h) λd s1 ⟨H1,I1,q1⟩=>?_)
 cases d with
 |true=>exact ha pins s1 σ H1 Q I1 q1
 |false=>exact hb pins s1 σ H1 Q I1 q1
end
end L2
namespace L2
open PySem PySem.Spec PyProof.Rows
def iL (K:ag) (H:Hp) (a:Addr) (xs:List V):Prop:=
 Rd H a (.lst xs)\/
  ∃(o:Obj) (bW:Array Value) (n:Nat),K.lookup a=some o/\o.cls= .type "list"/\o.dict=none/\o.data= .seq bW n/\bW.size<=sizeLine/\b8 xs bW.toList
def o8 (K:ag) (H:Hp) (a:Addr) (xs:List V):Prop:=
 Rd H a (.tup xs)\/
  ∃(o:Obj) (bW:Array Value) (n:Nat),K.lookup a=some o/\o.cls= .type "tuple"/\o.data= .seq bW n/\bW.size<=sizeLine/\b8 xs bW.toList
def Zj:Value->Option V
 | .none=>some .non
 | .bool b=>some (.bl b)
 | .int i _=>some (.int i)
 | .str x _=>some (.str x)
 | .bytes b _=>some (.byt b)
 | .float b _=>some (.flt b)
 | .ref a=>some (.ref a)
 | .type n=>some (.ty n)
 |_=>none
theorem dQ.abs {x:V} {u:Value} (r:dQ x u):Zj u=some x:=by
 cases x with
 |non=>cases r;rfl
 |bl _=>cases r;rfl
 |int _=>obtain⟨t,rfl⟩:=r;rfl
 |str _=>obtain⟨t,rfl⟩:=r;rfl
 |byt _=>obtain⟨t,rfl⟩:=r;rfl
 |flt _=>obtain⟨t,rfl⟩:=r;rfl
 |ref _=>cases r;rfl
 |ty _=>cases r;rfl
theorem dQ.inj {x y:V} {u:Value} (r:dQ x u) (q:dQ y u):x=y:=bo (r.abs.symm.trans q.abs)
theorem b8.inj:∀{xs ys:List V} {us:List Value},b8 xs us->b8 ys us->xs=ys
 |_,_,_,.nil,.nil=>rfl
 |_,_,_,.cons r t,.cons r' t'=>by rw[r.inj r',b8.inj t t']
section
variable {X:Cx} {pins:List (Addr×Obj)} {σ:St} {H:Hp} {s:ao} {a:Addr} {xs ys:List V}
theorem iL.of {K:ag} (h:H a=some (.lst xs)):iL K H a xs:= .inl (.inl h)
theorem o8.of {K:ag} (h:H a=some (.tup xs)):o8 K H a xs:= .inl (.inl h)
theorem bG.list (I:bG X pins σ H s) (h:iL X.K H a xs):∃bW:List Value,b8 xs bW/\PlainL s.heap a bW.toArray/\xs.length<=sizeLine:=by
 rcases h with h|⟨o,bW,n,hk,hc,hd,hs,hz,r⟩
 ·obtain⟨z,bW,n,r,e⟩:=h.ok I.hok
  exact⟨bW,r,⟨_,n,e,rfl,rfl,rfl⟩,z⟩
 ·refine⟨bW.toList,r,⟨o,n,I.kIn a o hk,hc,hd,by simpa using hs⟩,?_⟩
  have e:=r.length
  simp only[HX]at e
  lia
theorem bG.tuple (I:bG X pins σ H s) (h:o8 X.K H a xs):∃bW:List Value,b8 xs bW/\IsTup s.heap a bW.toArray/\xs.length<=sizeLine:=by
 rcases h with h|⟨o,bW,n,hk,hc,hs,hz,r⟩
 ·obtain⟨z,bW,r,p⟩:=h.ok I.hok
  exact⟨bW,r,p,z⟩
 ·refine⟨bW.toList,r,⟨o,I.kIn a o hk,hc,n,by simpa using hs⟩,?_⟩
  have e:=r.length
  simp only[HX]at e
  lia
theorem bG.list_inj (I:bG X pins σ H s) (h:iL X.K H a xs) (h':iL X.K H a ys):xs=ys:=by
 obtain⟨bW,r,⟨o,n,e,_,_,d⟩,_⟩:=I.list h
 obtain⟨its',r',⟨o',n',e',_,_,d'⟩,_⟩:=I.list h'
 rw[e]at e';cases e'
 rw[d]at d'
 injection d' with d1 _
 have:bW=its':=by simpa using congrArg Array.toList d1
 subst this
 exact r.inj r'
theorem bG.tuple_inj (I:bG X pins σ H s) (h:o8 X.K H a xs) (h':o8 X.K H a ys):xs=ys:=by
 obtain⟨bW,r,⟨o,e,_,n,d⟩,_⟩:=I.tuple h
 obtain⟨its',r',⟨o',e',_,n',d'⟩,_⟩:=I.tuple h'
 rw[e]at e';cases e'
 rw[d]at d'
 injection d' with d1 _
 have:bW=its':=by simpa using congrArg Array.toList d1
 subst this
 exact r.inj r'
end
abbrev Cx.wish (X:Cx) (E:Value->ao->Prop):Cx:={X with xe:=E}
abbrev Cx.nox (X:Cx):Cx:=X.wish λ_ _=>False
theorem Cx.Ok.wish {X:Cx} (ok:X.Ok) (E:Value->ao->Prop):(X.wish E).Ok:=
 ⟨ok.mod,ok.kind,ok.glob,ok.blt,ok.above,ok.inj,ok.has,ok.cab,ok.hd,ok.frames,ok.stk,ok.exf,ok.bs,ok.bsz,ok.noex,ok.exfs,ok.funs,ok.frf⟩
theorem Cx.Ok.unwish {X:Cx} {E:Value->ao->Prop} (ok:(X.wish E).Ok):X.Ok:=
 ⟨ok.mod,ok.kind,ok.glob,ok.blt,ok.above,ok.inj,ok.has,ok.cab,ok.hd,ok.frames,ok.stk,ok.exf,ok.bs,ok.bsz,ok.noex,ok.exfs,ok.funs,ok.frf⟩
section
variable {X:Cx} {pins:List (Addr×Obj)} {σ:St} {H:Hp} {s:ao} {E:Value->ao->Prop}
theorem bG.wish (I:bG X pins σ H s) (E:Value->ao->Prop):bG (X.wish E) pins σ H s:=⟨I.ok.wish E,I.os,I.bare,I.base,I.loc,I.cell,I.free,I.freeC,I.pin,I.hok,I.len⟩
theorem bG.unwish (I:bG (X.wish E) pins σ H s):bG X pins σ H s:=⟨I.ok.unwish,I.os,I.bare,I.base,I.loc,I.cell,I.free,I.freeC,I.pin,I.hok,I.len⟩
theorem SP.unwish {D:uw} {f:Flow} {s':ao} (h:SP (X.wish E) pins D f s'):SP X pins D f s':=by
 cases f with
 |next=>obtain⟨σ',H',I,q⟩:=h;exact⟨σ',H',I.unwish,q⟩
 |brk=>obtain⟨σ',H',I,q⟩:=h;exact⟨σ',H',I.unwish,q⟩
 |cont=>obtain⟨σ',H',I,q⟩:=h;exact⟨σ',H',I.unwish,q⟩
 |ret u=>obtain⟨v,σ',H',I,r,q⟩:=h;exact⟨v,σ',H',I.unwish,r,q⟩
theorem B8.nox {st:List Stmt} {t:TS} (h:B8 X.nox st t):B8 X st t:=λpins s σ H D I hw=>
 wpAny_mono (h pins s σ H D (I.wish _) hw) (λ_ _ q=>q.unwish) λ_ _ z=>eW z
end
section
variable {X:Cx} {st:Stmt} {rest:List Stmt} {t u:TS} {e:aS} {te:TE} {pos:Pos}
def WZ:TS:=λD σ H=>D.nx σ H
def aaj (t u:TS):TS:=λD σ H=>t {D with nx:=u D} σ H
theorem PB:B8 X [] WZ:=λ_ _ σ H _ I h=>wpAny_execs_nil ⟨σ,H,I,h⟩
theorem EN (h1:PS X st t) (h2:B8 X rest u):B8 X (st::rest) (aaj t u):=by
 intro pins s σ H D I h
 refine VE (fb (h1 pins s σ H {D with nx:=u D} I h) λf s1 q=>?_)
 cases f with
 |next=>
  obtain⟨σ',H',I',q⟩:=q
  exact h2 pins s1 σ' H' D I' q
 |ret v=>exact q
 |brk=>exact q
 |cont=>exact q
theorem P9 (h1:PS X st t):B8 X [st] t:=by
 intro pins s σ H D I h
 refine VE (fb (h1 pins s σ H D I h) λf s1 q=>?_)
 cases f with
 |next=>exact wpAny_execs_nil q
 |ret v=>exact q
 |brk=>exact q
 |cont=>exact q
theorem bG.quiet {pins:List (Addr×Obj)} {σ:St} {H:Hp} {s:ao} (I:bG X pins σ H s):interactive X.env=false:=by simp[interactive,I.ok.kind]
def VJ (te:TE):TS:=λD σ H=>te σ H λ_ H1=>D.nx σ H1
theorem IV (he:PE X e te) (hs:eA e none pos.line X.env=pure false:=by rfl):PS X (.Expr e pos) (VJ te):=by
 intro pins s σ H D I h
 exact wpAny_Expr_any (fb (he pins s σ H _ I h) λv s1 ⟨x,H1,I1,r1,q1⟩=>⟨σ,H1,I1,q1⟩) I.quiet hs
def aae (te:TE):TS:=λD σ H=>te σ H D.rt
theorem Of (he:PE X e te):PS X (.Return (some e) pos) (aae te):=by
 intro pins s σ H D I h
 exact wpAny_Return_some (fb (he pins s σ H _ I h) λv s1 ⟨x,H1,I1,r1,q1⟩=>⟨x,σ,H1,I1,r1,q1⟩)
def YH (c:TT) (t u:TS):TS:=λD σ H=>c σ H λb H1=>if b=true then t D σ H1 else u D σ H1
theorem RY {c:aS} {a b:List Stmt} {tc:TT} (hc:PT X c tc) (ha:B8 X a t) (hb:B8 X b u):PS X (.If c a b pos) (YH tc t u):=by
 intro pins s σ H D I h
 refine wpAny_If (fb (hc pins s σ H _ I h) λd s1 ⟨H1,I1,q1⟩=>?_)
 cases d with
 |true=>exact ha pins s1 σ H1 D I1 q1
 |false=>exact hb pins s1 σ H1 D I1 q1
end
abbrev TG:=V->St->Hp->(St->Hp->Prop)->Prop
abbrev RB:=List V->St->Hp->(St->Hp->Prop)->Prop
def PG (X:Cx) (target:aS) (t:TG):Prop:=
 ∀(pins:List (Addr×Obj)) (s:ao) (σ:St) (H:Hp) (v:V) (u:Value) (Q:St->Hp->Prop),bG X pins σ H s->dQ v u->t v σ H Q->
  wpAny (aU X.prog X.w) X.A (lh target X.env u) (λ_ s'=>∃σ' H',bG X pins σ' H' s'/\Q σ' H') X.xe s
def Xh (X:Cx) (ts:List aS) (t:RB):Prop:=
 ∀(pins:List (Addr×Obj)) (s:ao) (σ:St) (H:Hp) (vs:List V) (us:List Value) (Q:St->Hp->Prop),bG X pins σ H s->b8 vs us->t vs σ H Q->
  wpAny (aU X.prog X.w) X.A (assignInOrder ((gr ts X.env).map (·.2)) us) (λ_ s'=>∃σ' H',bG X pins σ' H' s'/\Q σ' H') X.xe s
abbrev UX:=V->V->V->Hp->(Hp->Prop)->Prop
def WA (X:Cx) (t:UX):Prop:=
 ∀(pins:List (Addr×Obj)) (s:ao) (σ:St) (H:Hp) (o i v:V) (ov iv u:Value) (Q:Hp->Prop),bG X pins σ H s->dQ o ov->dQ i iv->dQ v u->t o i v H Q->
  wpAny (aU X.prog X.w) X.A (AV ov iv u) (λ_ s'=>∃H',bG X pins σ H' s'/\Q H') X.xe s
abbrev Xx:=V->V->Hp->VK->Prop
def PIp (X:Cx) (op:wy) (t:Xx):Prop:=
 ∀(pins:List (Addr×Obj)) (s:ao) (σ:St) (H:Hp) (x y:V) (v u:Value) (Q:VK),bG X pins σ H s->dQ x v->dQ y u->t x y H Q->
  wpAny (aU X.prog X.w) X.A (inplaceOp op v u) (EP X pins σ Q) X.xe s
section
variable {X:Cx} {pos:Pos}
def AE (i:Nat):TG:=λv σ H Q=>Q (σ.set i (some v)) H
theorem Im {i:Nat} {x:Str} (hN:X.N.Nodup) (hi:X.N[i]? =some x) (hx:TN X.env.scope x) (hf:X.fn x=true\/X.env.scope.names.lookup x=some .local:=by first|exact .inl rfl|exact .inr rfl|assumption):PG X (.Name x pos) (AE i):=by
 intro pins s σ H v u Q I r h
 exact AW (zr I hN hi hx r (λs' I'=>⟨_,H,I',h⟩) hf)
def Zw:RB:=λvs σ H Q=>vs=[]/\Q σ H
def Wa (t:TG) (u:RB):RB:=λvs σ H Q=>∃v r,vs=v::r/\t v σ H λσ' H'=>u r σ' H' Q
theorem PZ:Xh X [] Zw:=by
 intro pins s σ H vs us Q I r h
 obtain⟨e,h⟩:=h
 subst e
 cases r
 exact assignInOrder_nil ⟨σ,H,I,h⟩
theorem LY {e:aS} {es:List aS} {t:TG} {u:RB} (h1:PG X e t) (h2:Xh X es u)
  (hs:(gr (e::es) X.env).map (·.2)=lh e X.env::(gr es X.env).map (·.2):=by rfl):Xh X (e::es) (Wa t u):=by
 intro pins s σ H vs us Q I r h
 obtain⟨v,vr,e1,h⟩:=h
 subst e1
 cases r with
 |cons r rr=>
  rw[hs]
  refine assignInOrder_cons (fb (h1 pins s σ H _ _ _ I r h) λ_ s1 ⟨σ1,H1,I1,q1⟩=>?_)
  exact h2 pins s1 σ1 H1 _ _ Q I1 rr q1
def aab (K:ag) (n:Nat) (t:RB):TG:=λv σ H Q=>∃a xs,v= .ref a/\o8 K H a xs/\xs.length=n/\t xs σ H Q
theorem UT {es:List aS} {k:Nat} {t:RB} {n:Nat} (hc:X.calm=true) (h:Xh X es t)
  (hn:(gr es X.env).length=n:=by rfl) (D7:(gr es X.env).findIdx? (·.1)=none:=by rfl):PG X (.Tuple es k pos) (aab X.K n t):=by
 intro pins s σ H v u Q I r hw
 obtain⟨a,xs,e1,hq,hl,hw⟩:=hw
 subst e1
 cases r
 obtain⟨bW,rv,ht,hz⟩:=I.tuple hq
 refine assign_Tuple_tuple (I.ok.hd hc) ht (by simp[hn,<-hl,rv.length]) D7 λh' hx=>?_
 have I1:bG X pins σ H {s with heap:=h'}:=I.kept (t':=s.toks) λb o e=>hx b o (cA (aN e)) e
 exact h pins _ σ H xs _ Q I1 (by simpa using rv) hw
def Yb (to ti:TE) (t:UX):TG:=λv σ H Q=>to σ H λo H1=>ti σ H1 λi H2=>t o i v H2 λH3=>Q σ H3
theorem Ua {o i:aS} {to ti:TE} {t:UX} (ho:PE X o to) (hi:PE X i ti) (hs:WA X t)
  (ha:∀v,lh (.Subscript o i pos) X.env v=(do
   let ov<-holding [v] (eval o X.env)
   let iv<-holding [v,ov] (eval i X.env)
   standAt pos
   holding [v,ov,iv] (AV ov iv v)
   release [v,ov,iv] []):=by intro _;rfl):PG X (.Subscript o i pos) (Yb to ti t):=by
 intro pins s σ H v u Q I r h
 rw[ha]
 refine wpAny_bind (i4 (fb (ho pins s σ H _ I h) λov s1 ⟨x,H1,I1,r1,q1⟩=>?_))
 refine wpAny_bind (i4 (fb (hi pins s1 σ H1 _ I1 q1) λiv s2 ⟨y,H2,I2,r2,q2⟩=>?_))
 refine wpAny_bind (qo (wpAny_bind (i4 (fb (hs pins s2 σ H2 x y v ov iv u _ I2 r1 r2 r q2) λ_ s3 ⟨H3,I3,q3⟩=>?_))))
 exact wpAny_release ⟨σ,H3,I3,q3⟩
def O7 (te:TE) (g:TG):TS:=λD σ H=>te σ H λx H1=>g x σ H1 D.nx
theorem Gy {tg e:aS} {te:TE} {g:TG} (he:PE X e te) (hg:PG X tg g) (hs:yA [tg] e pos.line X.env=pure false:=by rfl) (hw:yB [tg] e X.env=pure none:=by rfl)
  (h1:(gr [tg] X.env).map (·.2)=[lh tg X.env]:=by rfl):PS X (.Assign [tg] e pos) (O7 te g):=by
 intro pins s σ H D I h
 refine wpAny_Assign_stores (fb (he pins s σ H _ I h) λv s1 ⟨x,H1,I1,r1,q1⟩=>?_) hs hw
 rw[h1]
 exact fb (hg pins s1 σ H1 x v _ I1 r1 q1) λ_ s2 q=>q
theorem Gu {i:Nat} {x:Str} {e:aS} {te:TE} {pos':Pos} (hN:X.N.Nodup) (hi:X.N[i]? =some x) (hx:TN X.env.scope x) (he:PE X e te) (hs:eA e (some (.Name x pos')) pos.line X.env=pure false:=by rfl) (hf:X.fn x=true\/X.env.scope.names.lookup x=some .local:=by first|exact .inl rfl|exact .inr rfl|assumption):
  PS X (.Assign [.Name x pos'] e pos) (O7 te (AE i)):=by
 intro pins s σ H D I h
 refine wpAny_Assign_Name (fb (he pins s σ H _ I h) λv s1 ⟨y,H1,I1,r1,q1⟩=>?_) hs
 exact zr I1 hN hi hx r1 (λs2 I2=>⟨_,H1,I2,q1⟩) hf
def aau (i:Nat) (te:TE) (ti:Xx):TS:=λD σ H=>∃x,σ[i]? =some (some x)/\te σ H λy H1=>ti x y H1 λz H2=>D.nx (σ.set i (some z)) H2
theorem Nd {i:Nat} {x:Str} {e:aS} {te:TE} {op:wy} {ti:Xx} {pos':Pos} (hN:X.N.Nodup) (hi:X.N[i]? =some x) (hx:TN X.env.scope x) (he:PE X e te) (ho:PIp X op ti) (hf:X.fn x=true\/X.env.scope.names.lookup x=some .local:=by first|exact .inl rfl|exact .inr rfl|assumption):
  PS X (.AugAssign (.Name x pos') op e pos) (aau i te ti):=by
 intro pins s σ H D I h
 obtain⟨v,e1,h⟩:=h
 obtain⟨m,hn,hl⟩:=I.loc
 have vis:VB X.env.scope x:=by rcases hx with k|k;exact .inl k;exact .inr (.inl k)
 obtain⟨u,r,l⟩:=hl i x v hi e1 vis
 refine wpAny_AugAssign_Name ?_
 have go:wpAny (aU X.prog X.w) X.A (eval e X.env) (λw s₂=>wpAny (aU X.prog X.w) X.A (inplaceOp op u w) (λr s₃=>wpAny (aU X.prog X.w) X.A (storeName X.env x r) (λ_=>SP X pins D .next) X.xe s₃) X.xe s₂) X.xe s:=by
  refine fb (he pins s σ H _ I h) λw s1 ⟨y,H1,I1,r1,q1⟩=>?_
  refine fb (ho pins s1 σ H1 v y u w _ I1 r r1 q1) λz s2 ⟨zv,H2,I2,r2,q2⟩=>?_
  exact zr I2 hN hi hx r2 (λs3 I3=>⟨_,H2,I3,q2⟩) hf
 rcases l with ⟨hk,hm⟩|⟨hk,c,hc,Ia⟩
 ·exact OU I.ok.kind hk hn hm go
 ·rcases hk with hk|hk
  ·exact Rx I.ok.kind hk hc Ia go
  ·rcases hx with k|k
   ·have:X.env.scope.names.lookup x=some .free:=hk
    rw[k]at this;cases this
   ·have:X.env.scope.names.lookup x=some .free:=hk
    rw[k]at this;cases this
def ipI (f:Int->Int->Int):Xx:=λx y H Q=>∃i j,x= .int i/\y= .int j/\Q (.int (f i j)) H
theorem MW:PIp X .Add (ipI λi j=>i+j):=by
 intro pins s σ H x y v u Q I r1 r2 h
 obtain⟨i,j,e1,e2,q⟩:=h
 subst e1;subst e2
 obtain⟨t,rfl⟩:=r1
 obtain⟨t',rfl⟩:=r2
 exact iadd_int ⟨.int _,H,I.tok _,⟨_,rfl⟩,q⟩
end
section
variable {X:Cx} {pos:Pos}
def U3 (c:TT) (tb:TS):TS:=λD σ H=>∃W:Nat->St->Hp->Prop,(∃m,W m σ H)/\∀m σ H,W m σ H->
 c σ H λb H1=>if b=true then ∃N:St->Hp->Prop,(∀σ' H',N σ' H'->∃m',m'<m/\W m' σ' H')/\tb {D with nx:=N,ct:=N,bk:=D.nx} σ H1 else D.nx σ H1
theorem EL {c:aS} {body:List Stmt} {tc:TT} {tb:TS} (hp:Lp (aU X.prog X.w) X.A X.env X.xe) (hc:PT X c tc) (hb:B8 X body tb):PS X (.While c body [] pos) (U3 tc tb):=by
 intro pins s σ H D I h
 obtain⟨W,⟨m0,w0⟩,turn⟩:=h
 refine wpAny_While (codeAny_whileLoop (λn s'=>∃σ' H',bG X pins σ' H' s'/\W n σ' H') ?_ m0 ⟨σ,H,I,w0⟩)
 rintro n s1 ⟨σ1,H1,I1,w1⟩
 refine iU hp (fb (hc pins s1 σ1 H1 _ I1 (turn n σ1 H1 w1)) λb s2 ⟨H2,I2,q2⟩=>?_)
 cases b with
 |true=>
  obtain⟨N,hN,q2⟩:=q2
  rw[if_pos rfl]
  refine iU hp (fb (hb pins s2 σ1 H2 _ I2 q2) λf s3 q3=>?_)
  cases f with
  |next=>
   obtain⟨σ3,H3,I3,n3⟩:=q3
   obtain⟨m',hm,w3⟩:=hN σ3 H3 n3
   exact⟨m',hm,σ3,H3,I3,w3⟩
  |cont=>
   obtain⟨σ3,H3,I3,n3⟩:=q3
   obtain⟨m',hm,w3⟩:=hN σ3 H3 n3
   exact⟨m',hm,σ3,H3,I3,w3⟩
  |brk=>exact q3
  |ret v=>exact q3
 |false=>
  rw[if_neg aw]
  exact wpAny_execs_nil ⟨σ1,H2,I2,q2⟩
end
structure It where
 go:Nat->Hp->Prop
 yld:Nat->Hp->V->Hp->Prop
 stop:Nat->Hp->Prop
def qL (X:Cx) (pins:List (Addr×Obj)) (H:Hp) (b:Addr):Prop:=
 H b=none/\b≠X.env.locals/\b∉X.fs/\(b∈X.ex\/X.s_0.heap.objs.size<=b)/\(∀x c,X.env.cells.lookup x=some c->c≠b)/\∀p∈X.pn++pins,p.1≠b
theorem bG.fpOk {X:Cx} {pins:List (Addr×Obj)} {σ:St} {H H':Hp} {s:ao} {b:Addr} (I:bG X pins σ H s) (hb:s.heap.objs.size<=b) (hn:H' b=none):qL X pins H' b:=by
 refine⟨hn,qp (aX I.lt hb),I.nofs hb,.inr (dR I.sz hb),λx c e z=>?_,λp hp z=>?_⟩
 ·obtain⟨v,q⟩:=I.cell x c e
  exact absurd (aX q.lt (by rw[z];exact hb)) (c9 _)
 ·exact absurd (aX (aN (I.pin p hp).1) (by rw[z];exact hb)) (c9 _)
structure DG (P:bR) (w:du) (K:ag) (tg:aS) (J:It) (fp:List Addr) (it:Addr) (tn:Nat->Heap->Prop):Prop where
 mem:it∈fp
 obj:∀i h,tn i h->∀b∈fp,∃o,h.get? b=some o/\∀v,o.data≠.cell v
 keep:∀i h h',tn i h->(∀b∈fp,∀o,h.get? b=some o->h'.get? b=some o)->tn i h'
 item:∀(X:Cx),X.prog=P->X.w=w->X.K=K->X.calm=true->∀(i:Nat) (pins:List (Addr×Obj)) (s:ao) (σ:St) (H:Hp) (E:Value->ao->Prop),bG X pins σ H s->(∀b∈fp,qL X pins H b)->tn i s.heap->J.go i H->
  wpAny (aU P w) X.A (t5 (.ref it)) (λr s1=>∃u,r=some u/\
   wpAny (aU P w) X.A (uF tg (.ref it) u) (λ_ s2=>∃x H',bG X pins σ H' s2/\dQ x u/\J.yld i H x H'/\tn (i+1) s2.heap/\∀b∈fp,H' b=none) E s1) E s
 done:∀(X:Cx),X.prog=P->X.w=w->X.K=K->X.calm=true->∀(i:Nat) (pins:List (Addr×Obj)) (s:ao) (σ:St) (H:Hp) (E:Value->ao->Prop),bG X pins σ H s->(∀b∈fp,qL X pins H b)->tn i s.heap->J.stop i H->
  wpAny (aU P w) X.A (t5 (.ref it)) (λr s1=>r=none/\bG X pins σ H s1) E s
 self:∀(A:cG) (i:Nat) (s:ao) (Q:Value->ao->Prop) (E:Value->ao->Prop),tn i s.heap->Q (.ref it) s->wpAny (aU P w) A (pyIter (.ref it)) Q E s
abbrev TI:=St->Hp->(It->Hp->Prop)->Prop
def Wm (X:Cx) (pins:List (Addr×Obj)) (σ:St) (tg:aS) (R:It->Hp->Prop) (XC:Value) (s2:ao):Prop:=
 ∃(it:Addr) (fp:List Addr) (tn:Nat->Heap->Prop) (J:It) (H':Hp),XC= .ref it/\bG X pins σ H' s2/\DG X.prog X.w X.K tg J fp it tn/\tn 0 s2.heap/\(∀b∈fp,qL X pins H' b)/\R J H'
def PI (X:Cx) (tg iter:aS) (wi:TI):Prop:=
 ∀(pins:List (Addr×Obj)) (s:ao) (σ:St) (H:Hp) (R:It->Hp->Prop),bG X pins σ H s->wi σ H R->
  wpAny (aU X.prog X.w) X.A (eval iter X.env) (λv s1=>wpAny (aU X.prog X.w) X.A (pyIter v) (Wm X pins σ tg R) X.xe s1) X.xe s
theorem E5 {M:Model} {A:cG} {E:Value->ao->Prop} {s:ao} {tg:aS} {it:Addr} {u:Value} {o:Obj} {n:String} {vs:Array Value} {Q:Unit->ao->Prop} (ho:s.heap.get? it=some o) (hc:o.cls= .type n) (hd:o.data= .fields vs)
  (hn:["enumerate","zip","dict_itemiterator","dict_reverseitemiterator","odict_iterator","itertools.zip_longest","itertools.pairwise"].contains n=false) (hQ:Q () s):wpAny M A (uF tg (.ref it) u) Q E s:=by
 unfold uF
 cases tg<;>first
  |exact wpAny_pure hQ
  |(cases u<;>first
    |exact wpAny_pure hQ
    |(refine wpAny_bind (wpAny_load ho ?_)
      rw[hc,hd]
      show wpAny M A (if (["enumerate","zip","dict_itemiterator","dict_reverseitemiterator","odict_iterator","itertools.zip_longest","itertools.pairwise"].contains n&&vs[0]? ==some (rawInt _))=true then _ else _) Q E s
      rw[if_neg (by intro h;rw[hn,Bool.false_and]at h;cases h)]
      exact wpAny_pure hQ))
def Itl (K:ag) (a:Addr):It:=
 ⟨λi H=>∃xs x,iL K H a xs/\xs[i]? =some x,λi H x H'=>H'=H/\∀xs,iL K H a xs->xs[i]? =some x,λi H=>∃xs,iL K H a xs/\xs.length<=i⟩
def Itt (K:ag) (a:Addr):It:=
 ⟨λi H=>∃xs x,o8 K H a xs/\xs[i]? =some x,λi H x H'=>H'=H/\∀xs,o8 K H a xs->xs[i]? =some x,λi H=>∃xs,o8 K H a xs/\xs.length<=i⟩
def VY (lo:Int) (n:Nat):It:=⟨λi _=>i<n,λi H x H'=>H'=H/\x= .int (lo+i),λi _=>n<=i⟩
theorem Kb {P:bR} {w:du} {K:ag} {tg:aS} (a it:Addr):DG P w K tg (Itl K a) [it] it (λi h=>h.IsListIter it a i) where
 mem:=by simp
 obj:=λi h st b hb=>by
  have e:b=it:=by simpa using hb
  subst e
  obtain⟨o,e,c,d⟩:=st
  exact⟨o,e,λv z=>by rw[d]at z;cases z⟩
 keep:=λi h h' st k=>st.at λo e=>k it (by simp) o e
 item:=by
  intro X hP hw hK hc i pins s σ H E I hf st hg
  subst hP hw hK
  obtain⟨xs,x,hq,hx⟩:=hg
  obtain⟨bW,rv,p,hz⟩:=I.list hq
  obtain⟨u,hu,ru⟩:=rv.get hx
  obtain⟨f0,f1,f2,f3,f4,f5⟩:=hf it (by simp)
  refine wpAny_pyNext_list_item st p.isList (x:=u) (by simpa using hu) λh' HG sb=>?_
  have I1:bG X pins σ H {s with heap:=h'}:=I.turned (t':=s.toks) (λb o hb e=>(sb.2 b hb).trans e) f0 f1 f3 f4 f5
  obtain⟨o,e,c,d⟩:=id HG
  exact⟨u,rfl,E5 (s:={s with heap:=h'}) e c d (by decide) ⟨x,H,I1,ru,⟨rfl,λys hy=>by rw[I.list_inj hy hq];exact hx⟩,HG,λb hb=>(hf b hb).1⟩⟩
 done:=by
  intro X hP hw hK hc i pins s σ H E I hf st hg
  subst hP hw hK
  obtain⟨xs,hq,hx⟩:=hg
  obtain⟨bW,rv,p,hz⟩:=I.list hq
  obtain⟨f0,f1,f2,f3,f4,f5⟩:=hf it (by simp)
  have hl:=rv.length
  exact wpAny_pyNext_list_end (I.ok.hd hc) st p.isList (by simp;lia) λh' eb=>⟨rfl,I.turned (t':=s.toks) (λb o hb e=>eb b o hb e) f0 f1 f3 f4 f5⟩
 self:=λ_ _ _ _ _ st h=>wpAny_pyIter_listiter st h
theorem GO {P:bR} {w:du} {K:ag} {tg:aS} (a it:Addr):DG P w K tg (Itt K a) [it] it (λi h=>h.IsTupleIter it a i) where
 mem:=by simp
 obj:=λi h st b hb=>by
  have e:b=it:=by simpa using hb
  subst e
  obtain⟨o,e,c,d⟩:=st
  exact⟨o,e,λv z=>by rw[d]at z;cases z⟩
 keep:=λi h h' st k=>st.at λo e=>k it (by simp) o e
 item:=by
  intro X hP hw hK hc i pins s σ H E I hf st hg
  subst hP hw hK
  obtain⟨xs,x,hq,hx⟩:=hg
  obtain⟨bW,rv,p,hz⟩:=I.tuple hq
  obtain⟨u,hu,ru⟩:=rv.get hx
  obtain⟨f0,f1,f2,f3,f4,f5⟩:=hf it (by simp)
  refine wpAny_pyNext_tuple_item st (show s.heap.IsTuple a bW.toArray from p) (x:=u) (by simpa using hu) λh' HG sb=>?_
  have I1:bG X pins σ H {s with heap:=h'}:=I.turned (t':=s.toks) (λb o hb e=>(sb.2 b hb).trans e) f0 f1 f3 f4 f5
  obtain⟨o,e,c,d⟩:=id HG
  exact⟨u,rfl,E5 (s:={s with heap:=h'}) e c d (by decide) ⟨x,H,I1,ru,⟨rfl,λys hy=>by rw[I.tuple_inj hy hq];exact hx⟩,HG,λb hb=>(hf b hb).1⟩⟩
 done:=by
  intro X hP hw hK hc i pins s σ H E I hf st hg
  subst hP hw hK
  obtain⟨xs,hq,hx⟩:=hg
  obtain⟨bW,rv,p,hz⟩:=I.tuple hq
  obtain⟨f0,f1,f2,f3,f4,f5⟩:=hf it (by simp)
  have hl:=rv.length
  exact wpAny_pyNext_tuple_end (I.ok.hd hc) st (show s.heap.IsTuple a bW.toArray from p) (by simp;omega) λh' eb=>⟨rfl,I.turned (t':=s.toks) (λb o hb e=>eb b o hb e) f0 f1 f3 f4 f5⟩
 self:=λ_ _ _ _ _ st h=>wpAny_pyIter_tupleiter st h
theorem Hy {P:bR} {w:du} {K:ag} {tg:aS} (it:Addr) (lo:Int) (n:Nat):DG P w K tg (VY lo n) [it] it (λi h=>IsRangeIter h it (lo+(i:Nat)*1) ((n:Int)-(i:Nat)) 1) where
 mem:=by simp
 obj:=λi h st b hb=>by
  have e:b=it:=by simpa using hb
  subst e
  exact⟨_,st,λv z=>by
   have z':Data.fields _=Data.cell v:=z
   cases z'⟩
 keep:=λi h h' st k=>k it (by simp) _ st
 item:=by
  intro X hP hw hK hc i pins s σ H E I hf st hg
  subst hP hw hK
  obtain⟨f0,f1,f2,f3,f4,f5⟩:=hf it (by simp)
  have W:=Walks.range (prog:=X.prog) (w:=X.w) (I.ok.hd hc) it lo 1 n
  refine W.item i s _ _ hg st λv h' tk hv HG kk=>?_
  obtain⟨t,rfl⟩:=hv
  have I1:bG X pins σ H {s with heap:=h',toks:=tk}:=I.turned (λb o hb e=>kk b o (by simpa using hb) e) f0 f1 f3 f4 f5
  refine⟨_,rfl,E5 (s:={s with heap:=h',toks:=tk}) (n:="range_iterator") HG rfl rfl (by decide) ⟨.int (lo+i),H,I1,⟨t,?_⟩,⟨rfl,rfl⟩,HG,λb hb=>(hf b hb).1⟩⟩
  rw[t6]
 done:=by
  intro X hP hw hK hc i pins s σ H E I hf st hg
  subst hP hw hK
  obtain⟨f0,f1,f2,f3,f4,f5⟩:=hf it (by simp)
  exact LA (I.ok.hd hc) st (by have:n<=i:=hg;omega) λh' eb=>⟨rfl,I.turned (t':=s.toks) (λb o hb e=>eb b o hb e) f0 f1 f3 f4 f5⟩
 self:=λ_ _ _ _ _ st h=>wpAny_pyIter_rangeiter st h
end L2
namespace L2
open PySem PySem.Spec PyProof.Rows
section
variable {X:Cx} {tg:aS}
def WQ (K:ag) (tl:TE):TI:=λσ H R=>tl σ H λx H1=>∃a,x= .ref a/\(∃xs,iL K H1 a xs)/\R (Itl K a) H1
def aam (K:ag) (tl:TE):TI:=λσ H R=>tl σ H λx H1=>∃a,x= .ref a/\(∃xs,o8 K H1 a xs)/\R (Itt K a) H1
theorem Q1 {l:aS} {tl:TE} (hl:PE X l tl):PI X tg l (WQ X.K tl):=by
 intro pins s σ H R I h
 refine fb (hl pins s σ H _ I h) λv s1 ⟨x,H1,I1,r1,q1⟩=>?_
 obtain⟨a,e,⟨xs,hq⟩,q⟩:=q1
 subst e
 cases r1
 obtain⟨bW,rv,p,hz⟩:=I1.list hq
 refine AX p.isList ?_
 refine⟨s1.heap.objs.size,[s1.heap.objs.size],_,_,H1,rfl,I1.kept (t':=s1.toks) λb o e=>au _ e,Kb a _,⟨_,aK _ rfl,rfl,rfl⟩,λb hb=>?_,q⟩
 have e:b=s1.heap.objs.size:=by simpa using hb
 subst e
 exact I1.fpOk (aO _) (I1.hok.fresh (aO _))
theorem UQ {l:aS} {tl:TE} (hl:PE X l tl):PI X tg l (aam X.K tl):=by
 intro pins s σ H R I h
 refine fb (hl pins s σ H _ I h) λv s1 ⟨x,H1,I1,r1,q1⟩=>?_
 obtain⟨a,e,⟨xs,hq⟩,q⟩:=q1
 subst e
 cases r1
 obtain⟨bW,rv,p,hz⟩:=I1.tuple hq
 refine Ss (show s1.heap.IsTuple a bW.toArray from p) ?_
 refine⟨s1.heap.objs.size,[s1.heap.objs.size],_,_,H1,rfl,I1.kept (t':=s1.toks) λb o e=>au _ e,GO a _,⟨_,aK _ rfl,rfl,rfl⟩,λb hb=>?_,q⟩
 have e:b=s1.heap.objs.size:=by simpa using hb
 subst e
 exact I1.fpOk (aO _) (I1.hok.fresh (aO _))
theorem EY {pins:List (Addr×Obj)} {σ:St} {H:Hp} {s:ao} {R:It->Hp->Prop} {E:Value->ao->Prop} {lo hi:Int} {t u v:Tok} {tk:Nat} (I:bG X pins σ H s) (h1: -(2^62)<=lo) (h2:lo<2^62) (h3: -(2^62)<=hi) (h4:hi<2^62)
  (q:R (VY lo (hi-lo).toNat) H):wpAny (aU X.prog X.w) X.A (pyIter (.ref s.heap.objs.size)) (Wm X pins σ tg R) E {s with heap:=s.heap.push {cls:= .type "range",data:= .fields #[.int lo t,.int hi u,.int 1 v]},toks:=tk}:=by
 refine Su (IsRange.new ..) (small_one h1 h2 h3 h4) ?_
 have I1:bG X pins σ H {s with heap:=s.heap.push {cls:= .type "range",data:= .fields #[.int lo t,.int hi u,.int 1 v]},toks:=tk}:=I.kept λb o e=>au _ e
 refine⟨(s.heap.push {cls:= .type "range",data:= .fields #[.int lo t,.int hi u,.int 1 v]}).objs.size,[(s.heap.push {cls:= .type "range",data:= .fields #[.int lo t,.int hi u,.int 1 v]}).objs.size],_,_,H,rfl,
  I1.kept (t':=tk) λb o e=>au _ e,Hy _ lo (hi-lo).toNat,?_,λb hb=>?_,q⟩
 ·have e1:lo+((0:Nat):Int)*1=lo:=by simp
  have e2:(((hi-lo).toNat:Nat):Int)-((0:Nat):Int)=fZ lo hi 1:=by rw[rangeSize_one];split<;>lia
  show IsRangeIter _ _ (lo+((0:Nat):Int)*1) ((((hi-lo).toNat:Nat):Int)-((0:Nat):Int)) 1
  rw[e1,e2]
  exact aK _ rfl
 ·have e:b=(s.heap.push {cls:= .type "range",data:= .fields #[.int lo t,.int hi u,.int 1 v]}).objs.size:=by simpa using hb
  subst e
  exact I1.fpOk (aO _) (I1.hok.fresh (aO _))
def Wh (ta:TA):TI:=λσ H R=>ta σ H λvs H1=>∃j:Int,vs=[.int j]/\-(2^62)<=j/\j<2^62/\R (VY 0 j.toNat) H1
def Wd (ta:TA):TI:=λσ H R=>ta σ H λvs H1=>∃i j:Int,vs=[.int i,.int j]/\(-(2^62)<=i/\i<2^62/\-(2^62)<=j/\j<2^62)/\R (VY i (j-i).toNat) H1
theorem Cf {a:aS} {ta:TA} {p pos:Pos} (hg:Gl X "range") (hm:X.mg "range"=none) (ha:PA X [a] ta) (hs:ak [a] X.env=[(false,eval a X.env)]:=by rfl):PI X tg (.Call (.Name "range" p) [a] [] pos) (Wh ta):=by
 intro pins s σ H R I h
 refine Call_ (oG I hg hm Sv (cx (fb (ha pos pins s σ H _ I h) λus s1 ⟨vs,H1,I1,r1,q1⟩=>?_) hs rfl))
 obtain⟨j,e,q1,q2,q⟩:=q1
 subst e
 cases r1 with
 |cons r rr=>
  cases rr
  obtain⟨t,rfl⟩:=r
  exact call_range_1 (EY I1 (by lia) (by lia) q1 q2 (by simpa using q))
theorem K7 {a b:aS} {ta:TA} {p pos:Pos} (hg:Gl X "range") (hm:X.mg "range"=none) (ha:PA X [a,b] ta) (hs:ak [a,b] X.env=[(false,eval a X.env),(false,eval b X.env)]:=by rfl) (yg:ak [b] X.env=[(false,eval b X.env)]:=by rfl):
  PI X tg (.Call (.Name "range" p) [a,b] [] pos) (Wd ta):=by
 intro pins s σ H R I h
 refine Call_ (oG I hg hm Sv (cx (fb (ha pos pins s σ H _ I h) λus s1 ⟨vs,H1,I1,r1,q1⟩=>?_) (by rw[hs,yg]) (by rw[yg];rfl)))
 obtain⟨i,j,e,⟨q1,q2,q3,q4⟩,q⟩:=q1
 subst e
 cases r1 with
 |cons r rr=>
  cases rr with
  |cons r' rr=>
   cases rr
   obtain⟨t,rfl⟩:=r
   obtain⟨t',rfl⟩:=r'
   exact call_range_2 (EY I1 q1 q2 q3 q4 q)
def Zs (wi:TI) (g:TG) (tb:TS):TS:=λD σ H=>wi σ H λJ H1=>∃W:Nat->Nat->St->Hp->Prop,(∃m,W 0 m σ H1)/\∀i m σ H,W i m σ H->
 (J.stop i H/\D.nx σ H)\/(J.go i H/\∃N:St->Hp->Prop,(∀σ' H',N σ' H'->∃m',m'<m/\W (i+1) m' σ' H')/\∀x H',J.yld i H x H'->g x σ H' λσ2 H2=>tb {D with nx:=N,ct:=N,bk:=D.nx} σ2 H2)
def wN (fp:List Addr) (h:Heap):List (Addr×Obj):=fp.filterMap λb=>(h.get? b).map λo=>(b,o)
theorem oP {fp:List Addr} {h:Heap} {b:Addr} {o:Obj} (hb:b∈fp) (e:h.get? b=some o):(b,o)∈wN fp h:=cR.mpr ⟨b,hb,by rw[e];rfl⟩
theorem Kc {fp:List Addr} {h:Heap} {p:Addr×Obj} (hp:p∈wN fp h):p.1∈fp/\h.get? p.1=some p.2:=by
 obtain⟨b,hb,e⟩:=cR.mp hp
 cases q:h.get? b with
 |none=>rw[q]at e;cases e
 |some o=>
  rw[q]at e
  have e':(b,o)=p:=bo e
  subst e'
  exact⟨hb,q⟩
theorem bG.pinned {pins:List (Addr×Obj)} {σ:St} {H:Hp} {s:ao} {fp:List Addr} (I:bG X pins σ H s) (hf:∀b∈fp,qL X pins H b) (ho:∀b∈fp,∃o,s.heap.get? b=some o/\∀v,o.data≠.cell v):bG X (pins++wN fp s.heap) σ H s:=
 I.pins_of λp hp=>(gq.mp hp).elim (λz=>I.pin p (bB _ z)) λz=>by
  obtain⟨hb,e⟩:=Kc z
  obtain⟨f0,f1,f2,_⟩:=hf p.1 hb
  obtain⟨o,e',d⟩:=ho p.1 hb
  rw[e]at e';cases e'
  exact⟨e,f0,f1,f2,d⟩
theorem bG.unpinned {pins pl:List (Addr×Obj)} {σ:St} {H:Hp} {s:ao} (I:bG X (pins++pl) σ H s):bG X pins σ H s:=I.pins_of λp hp=>I.pin p (bB _ (fm _ hp))
theorem Nc {iter:aS} {body:List Stmt} {wi:TI} {g:TG} {tb:TS} {pos:Pos} (hp:Lp (aU X.prog X.w) X.A X.env X.xe) (hc:X.calm=true) (hi:PI X tg iter wi) (hg:PG X tg g) (hb:B8 X body tb)
  (hs:∀x,bL iter X.env x=pure x:=by intro _;rfl):PS X (.For tg iter body [] pos) (Zs wi g tb):=by
 intro pins s σ H D I h
 refine wpAny_For (fb (hi pins s σ H _ I h) λv s1 h1=>fb h1 λXC s2 h2=>?_) hs
 obtain⟨it,fp,tn,J,H2,e,I2,T,UD,f2,W,⟨m0,w0⟩,turn⟩:=h2
 subst e
 
 have zE:∀{H':Hp},(∀b∈fp,H' b=none)->∀b∈fp,qL X pins H' b:=λhn b hb=>⟨hn b hb,(f2 b hb).2⟩
 refine codeAny_forLoop_any (λn s'=>∃i σ' H',bG X pins σ' H' s'/\tn i s'.heap/\(∀b∈fp,H' b=none)/\W i n σ' H') ?_ m0 ⟨0,σ,H2,I2,UD,λb hb=>(f2 b hb).1,w0⟩
 rintro n s3 ⟨i,σ3,H3,I3,Vo,fr3,w3⟩
 rcases turn i n σ3 H3 w3 with ⟨stop,qn⟩|⟨go,N,hN,step⟩
 ·refine iU hp (fb (T.done X rfl rfl rfl hc i pins s3 σ3 H3 X.xe I3 (zE fr3) Vo stop) λr s4 ⟨hr,I4⟩=>?_)
  subst hr
  exact wpAny_execs_nil ⟨σ3,H3,I4,qn⟩
 ·refine iU hp (fb (T.item X rfl rfl rfl hc i pins s3 σ3 H3 X.xe I3 (zE fr3) Vo go) λr s4 ⟨u,hr,h4⟩=>?_)
  subst hr
  refine iU hp (fb h4 λ_ s5 ⟨x,H5,I5,r5,y5,Pp,fr5⟩=>?_)
  have I5':=I5.pinned (zE fr5) (T.obj _ _ Pp)
  refine iU hp (fb (hg _ s5 σ3 H5 x u _ I5' r5 (step x H5 y5)) λ_ s6 ⟨σ6,H6,I6,q6⟩=>?_)
  refine iU hp (fb (hb _ s6 σ6 H6 _ I6 q6) λf s7 q7=>?_)
  have again:∀{σ7:St} {H7:Hp},bG X (pins++wN fp s5.heap) σ7 H7 s7->N σ7 H7->∃m,m<n/\∃i σ' H',bG X pins σ' H' s7/\tn i s7.heap/\(∀b∈fp,H' b=none)/\W i m σ' H':=λ{σ7 H7} I7 n7=>by
   obtain⟨m',hm,w7⟩:=hN σ7 H7 n7
   refine⟨m',hm,i+1,σ7,H7,I7.unpinned,T.keep _ _ _ Pp λb hb o e=>(I7.pin (b,o) (bB _ (bB _ (oP hb e)))).1,λb hb=>?_,w7⟩
   obtain⟨o,e,d⟩:=T.obj _ _ Pp b hb
   exact(I7.pin (b,o) (bB _ (bB _ (oP hb e)))).2.1
  cases f with
  |next=>obtain⟨σ7,H7,I7,n7⟩:=q7;exact again I7 n7
  |cont=>obtain⟨σ7,H7,I7,n7⟩:=q7;exact again I7 n7
  |brk=>obtain⟨σ7,H7,I7,q7⟩:=q7;exact⟨σ7,H7,I7.unpinned,q7⟩
  |ret v=>obtain⟨x7,σ7,H7,I7,r7,q7⟩:=q7;exact⟨x7,σ7,H7,I7.unpinned,r7,q7⟩
end
end L2
namespace L2
open PySem PySem.Spec PyProof.Rows
abbrev R2:=V->V->Hp->VK->Prop
def ql (X:Cx) (f:Value->Value->Sem Value) (r:R2):Prop:=
 ∀(pins:List (Addr×Obj)) (s:ao) (σ:St) (H:Hp) (x y:V) (v u:Value) (Q:VK),bG X pins σ H s->dQ x v->dQ y u->r x y H Q->
  wpAny (aU X.prog X.w) X.A (f v u) (EP X pins σ Q) X.xe s
def YU (X:Cx) (f:Value->Sem Value) (r:V->Hp->VK->Prop):Prop:=
 ∀(pins:List (Addr×Obj)) (s:ao) (σ:St) (H:Hp) (x:V) (v:Value) (Q:VK),bG X pins σ H s->dQ x v->r x H Q->
  wpAny (aU X.prog X.w) X.A (f v) (EP X pins σ Q) X.xe s
def pS (X:Cx) (f:Value) (r:List V->Hp->VK->Prop):Prop:=
 ∀(pins:List (Addr×Obj)) (s:ao) (σ:St) (H:Hp) (xs:List V) (us:List Value) (Q:VK),bG X pins σ H s->b8 xs us->r xs H Q->
  wpAny (aU X.prog X.w) X.A (call f us) (EP X pins σ Q) X.xe s
def XH (r:R2) (ta tb:TE):TE:=λσ H Q=>ta σ H λx H1=>tb σ H1 λy H2=>r x y H2 Q
def tUn (r:V->Hp->VK->Prop) (ta:TE):TE:=λσ H Q=>ta σ H λx H1=>r x H1 Q
def rI (C:Int->Int->Prop) (g:Int->Int->V):R2:=λx y H Q=>∃i j,x= .int i/\y= .int j/\C i j/\Q (g i j) H
def G8 (g:Int->Int->V):R2:=λx y H Q=>∃i j,x= .int i/\y= .int j/\Q (g i j) H
def rU (g:Int->V):V->Hp->VK->Prop:=λx H Q=>∃i,x= .int i/\Q (g i) H
section
variable {X:Cx} {a b c:aS} {ta tb tc:TE} {pos:Pos}
theorem T8 (ha:PE X a ta) (hb:PE X b tb) {pins:List (Addr×Obj)} {s:ao} {σ:St} {H:Hp} {R:V->V->Hp->Prop} (I:bG X pins σ H s)
  (h:ta σ H λx H1=>tb σ H1 λy H2=>R x y H2) {Q:Value->ao->Prop} {f:Value->Value->Sem Value}
  (hf:∀v u s2 x y H2,bG X pins σ H2 s2->dQ x v->dQ y u->R x y H2->wpAny (aU X.prog X.w) X.A (f v u) Q X.xe s2):
  wpAny (aU X.prog X.w) X.A (eval a X.env) (λv s₁=>wpAny (aU X.prog X.w) X.A (eval b X.env) (λu s₂=>wpAny (aU X.prog X.w) X.A (f v u) Q X.xe s₂) X.xe s₁) X.xe s:=by
 refine fb (ha pins s σ H _ I h) λv s1 ⟨x,H1,I1,r1,q1⟩=>?_
 refine fb (hb pins s1 σ H1 _ I1 q1) λu s2 ⟨y,H2,I2,r2,q2⟩=>?_
 exact hf v u s2 x y H2 I2 r1 r2 q2
theorem RJ {op:wy} {r:R2} (ho:ql X (js op) r) (ha:PE X a ta) (hb:PE X b tb):PE X (.BinOp a op b pos) (XH r ta tb):=by
 intro pins s σ H Q I h
 exact wpAny_BinOp (T8 ha hb I h λv u s2 x y H2 I2 rx ry q=>ho pins s2 σ H2 x y v u Q I2 rx ry q)
theorem Wr {op:UnaryOp} {r:V->Hp->VK->Prop} (ho:YU X (unaryOp op) r) (ha:PE X a ta):PE X (.UnaryOp op a pos) (tUn r ta):=by
 intro pins s σ H Q I h
 exact UnaryOp_ (fb (ha pins s σ H _ I h) λv s1 ⟨x,H1,I1,r1,q1⟩=>ho pins s1 σ H1 x v Q I1 r1 q1)
theorem XM {f:Value->Value->Sem Value} {C:Int->Int->Prop} {g:Int->Int->Int}
  (rule:∀(i j:Int) (t u:Tok) (s:ao) (Q:Value->ao->Prop) (E:Value->ao->Prop),C i j->Q (.int (g i j) s.toks) {s with toks:=s.toks+1}->wpAny (aU X.prog X.w) X.A (f (.int i t) (.int j u)) Q E s):
  ql X f (rI C λi j=> .int (g i j)):=by
 intro pins s σ H x y v u Q I rx ry h
 obtain⟨i,j,rfl,rfl,hc,q⟩:=h
 obtain⟨t,rfl⟩:=rx
 obtain⟨t',rfl⟩:=ry
 exact rule i j t t' s _ _ hc ⟨.int (g i j),H,I.tok _,⟨_,rfl⟩,q⟩
theorem UZ {f:Value->Value->Sem Value} {g:Int->Int->Int}
  (rule:∀(i j:Int) (t u:Tok) (s:ao) (Q:Value->ao->Prop) (E:Value->ao->Prop),Q (.int (g i j) s.toks) {s with toks:=s.toks+1}->wpAny (aU X.prog X.w) X.A (f (.int i t) (.int j u)) Q E s):
  ql X f (G8 λi j=> .int (g i j)):=by
 intro pins s σ H x y v u Q I rx ry h
 obtain⟨i,j,rfl,rfl,q⟩:=h
 obtain⟨t,rfl⟩:=rx
 obtain⟨t',rfl⟩:=ry
 exact rule i j t t' s _ _ ⟨.int (g i j),H,I.tok _,⟨_,rfl⟩,q⟩
theorem Pt {f:Value->Value->Sem Value} {g:Int->Int->Bool}
  (rule:∀(i j:Int) (t u:Tok) (s:ao) (Q:Value->ao->Prop) (E:Value->ao->Prop),Q (.bool (g i j)) s->wpAny (aU X.prog X.w) X.A (f (.int i t) (.int j u)) Q E s):
  ql X f (G8 λi j=> .bl (g i j)):=by
 intro pins s σ H x y v u Q I rx ry h
 obtain⟨i,j,rfl,rfl,q⟩:=h
 obtain⟨t,rfl⟩:=rx
 obtain⟨t',rfl⟩:=ry
 exact rule i j t t' s _ _ ⟨.bl (g i j),H,I,rfl,q⟩
def VR (i j:Int):Prop:=0<j/\j<1073741824
def QN (i j:Int):Prop:=(-(2^64)<i/\i<2^64)\/(-(2^64)<j/\j<2^64)
theorem QN.ok {i j:Int} (h:QN i j):IntMulOk i j:=by
 rcases h with ⟨h1,h2⟩|⟨h1,h2⟩
 ·exact .of_left (intBits_le_64 h1 h2)
 ·exact .of_right (intBits_le_64 h1 h2)
theorem Hk (k:Nat):(0:Int)<=2^k:=by
 rw[two_pow_cast]
 exact Int.natCast_nonneg _
theorem Hi:ql X (js .Add) (G8 λi j=> .int (i+j)):=UZ λ_ _ _ _ _ _ _ q=>add_int q
theorem Ur:ql X (js .Sub) (G8 λi j=> .int (i-j)):=UZ λ_ _ _ _ _ _ _ q=>sub_int q
theorem Uq:ql X (js .Mult) (rI QN λi j=> .int (i*j)):=XM λ_ _ _ _ _ _ _ hc q=>mul_int q hc.ok
theorem Pf:ql X (js .FloorDiv) (rI VR λi j=> .int (i/j)):=XM λi j _ _ _ _ _ hc q=>by
 have h1:(0:Int)<j:=hc.1
 have h2:j<1073741824:=hc.2
 exact floordiv_int (by omega) (by rw[CH i (by omega)];exact q) (.inl (CI (by omega)))
theorem Tw:ql X (js .Mod) (rI (λ_ j=>0<j) λi j=> .int (i%j)):=XM λi j _ _ _ _ _ hc q=>by
 have h1:(0:Int)<j:=hc
 exact mod_int' (by lia) (by rw[Int.fmod_eq_emod_of_nonneg i (by lia)];exact q)
theorem Tr:ql X (js .RShift) (rI (λ_ j=>0<=j) λi j=> .int (i/2^j.toNat)):=XM λi j _ _ _ _ _ hc q=>
 rshift_int hc (by rw[CH i (Hk _)];exact q)
theorem TX:ql X (js .BitAnd) (G8 λi j=> .int (yW i j)):=UZ λ_ _ _ _ _ _ _ q=>and_int q
theorem unI {f:Value->Sem Value} {g:Int->Int}
  (rule:∀(i:Int) (t:Tok) (s:ao) (Q:Value->ao->Prop) (E:Value->ao->Prop),Q (.int (g i) s.toks) {s with toks:=s.toks+1}->wpAny (aU X.prog X.w) X.A (f (.int i t)) Q E s):
  YU X f (rU λi=> .int (g i)):=by
 intro pins s σ H x v Q I rx h
 obtain⟨i,rfl,q⟩:=h
 obtain⟨t,rfl⟩:=rx
 exact rule i t s _ _ ⟨.int (g i),H,I.tok _,⟨_,rfl⟩,q⟩
theorem SG:YU X (unaryOp .USub) (rU λi=> .int (-i)):=unI λ_ _ _ _ _ q=>neg_int q
end
def Xc:V->V->Bool
 | .non,.non=>true| .non,.int _=>true| .int _,.non=>true| .non,.bl _=>true| .bl _,.non=>true| .non,.str _=>true| .str _,.non=>true
 | .int _,.int _=>true| .bl _,.bl _=>true| .str _,.str _=>true| .byt _,.byt _=>true
 | .int _,.str _=>true| .str _,.int _=>true| .bl _,.str _=>true| .str _,.bl _=>true
 |_,_=>false
def rEq:R2:=λx y H Q=>Xc x y=true/\Q (.bl (decide (x=y))) H
def rNe:R2:=λx y H Q=>Xc x y=true/\Q (.bl (!decide (x=y))) H
theorem IA {i j:Int}:decide (V.int i=V.int j)=(i==j):=by
 rw[fB]
 simp
theorem Mv {i j:Bool}:decide (V.bl i=V.bl j)=(i==j):=by
 rw[fB]
 simp
theorem Iz {i j:Str}:decide (V.str i=V.str j)=(i==j):=by
 rw[fB]
 simp
theorem Jn {i j:Array UInt8}:decide (V.byt i=V.byt j)=(i.toList==j.toList):=by
 rw[fB]
 cases i
 cases j
 simp
section
variable {X:Cx} {a b c:aS} {ta tb tc:TE} {pos:Pos}
theorem dZ {pins:List (Addr×Obj)} {σ:St} {H:Hp} {s:ao} {Q:VK} {k k':Bool} (I:bG X pins σ H s) (q:Q (.bl k) H) (e:k=k'):EP X pins σ Q (.bool k') s:=by
 subst e
 exact⟨.bl k,H,I,rfl,q⟩
theorem Jj:ql X (dG .Eq) rEq:=by
 intro pins s σ H x y v u Q I rx ry h
 obtain⟨hs,q⟩:=h
 cases x with
 |non=>
  cases rx
  cases y with
  |non=>cases ry;exact PySem.EqNone.eq_none_none (dZ I q (by simp))
  |bl j=>cases ry;exact PySem.EqNone.eq_none_bool (dZ I q (by simp))
  |int j=>obtain⟨t',rfl⟩:=ry;exact PySem.EqNone.eq_none_int (dZ I q (by simp))
  |str j=>obtain⟨t',rfl⟩:=ry;exact PySem.EqNone.eq_none_str (dZ I q (by simp))
  |_=>exact absurd (show false=true from hs) aw
 |bl i=>
  cases rx
  cases y with
  |non=>cases ry;exact PySem.EqNone.eq_bool_none (dZ I q (by simp))
  |bl j=>cases ry;exact eq_bool (dZ I q Mv)
  |str j=>obtain⟨t',rfl⟩:=ry;exact PySem.EqMixed.eq_bool_str (dZ I q (by simp))
  |_=>exact absurd (show false=true from hs) aw
 |int i=>
  obtain⟨t,rfl⟩:=rx
  cases y with
  |non=>cases ry;exact PySem.EqNone.eq_int_none (dZ I q (by simp))
  |int j=>obtain⟨t',rfl⟩:=ry;exact eq_int (dZ I q IA)
  |str j=>obtain⟨t',rfl⟩:=ry;exact PySem.EqMixed.eq_int_str (dZ I q (by simp))
  |_=>exact absurd (show false=true from hs) aw
 |str i=>
  obtain⟨t,rfl⟩:=rx
  cases y with
  |non=>cases ry;exact PySem.EqNone.eq_str_none (dZ I q (by simp))
  |bl j=>cases ry;exact PySem.EqMixed.eq_str_bool (dZ I q (by simp))
  |int j=>obtain⟨t',rfl⟩:=ry;exact PySem.EqMixed.eq_str_int (dZ I q (by simp))
  |str j=>obtain⟨t',rfl⟩:=ry;exact eq_str (dZ I q Iz)
  |_=>exact absurd (show false=true from hs) aw
 |byt i=>
  obtain⟨t,rfl⟩:=rx
  cases y with
  |byt j=>obtain⟨t',rfl⟩:=ry;exact PySem.W.eq_bytes (dZ I q Jn)
  |_=>exact absurd (show false=true from hs) aw
 |_=>cases y<;>exact absurd (show false=true from hs) aw
theorem V2:ql X (dG .NotEq) rNe:=by
 intro pins s σ H x y v u Q I rx ry h
 obtain⟨hs,q⟩:=h
 cases x with
 |non=>
  cases rx
  cases y with
  |non=>cases ry;exact PySem.EqNone.ne_none_none (dZ I q (by simp))
  |bl j=>cases ry;exact PySem.EqNone.ne_none_bool (dZ I q (by simp))
  |int j=>obtain⟨t',rfl⟩:=ry;exact PySem.EqNone.ne_none_int (dZ I q (by simp))
  |str j=>obtain⟨t',rfl⟩:=ry;exact PySem.EqNone.ne_none_str (dZ I q (by simp))
  |_=>exact absurd (show false=true from hs) aw
 |bl i=>
  cases rx
  cases y with
  |non=>cases ry;exact PySem.EqNone.ne_bool_none (dZ I q (by simp))
  |bl j=>cases ry;exact ne_bool (dZ I q (congrArg not Mv))
  |str j=>obtain⟨t',rfl⟩:=ry;exact PySem.EqMixed.ne_bool_str (dZ I q (by simp))
  |_=>exact absurd (show false=true from hs) aw
 |int i=>
  obtain⟨t,rfl⟩:=rx
  cases y with
  |non=>cases ry;exact PySem.EqNone.ne_int_none (dZ I q (by simp))
  |int j=>obtain⟨t',rfl⟩:=ry;exact ne_int (dZ I q (congrArg not IA))
  |str j=>obtain⟨t',rfl⟩:=ry;exact PySem.EqMixed.ne_int_str (dZ I q (by simp))
  |_=>exact absurd (show false=true from hs) aw
 |str i=>
  obtain⟨t,rfl⟩:=rx
  cases y with
  |non=>cases ry;exact PySem.EqNone.ne_str_none (dZ I q (by simp))
  |bl j=>cases ry;exact PySem.EqMixed.ne_str_bool (dZ I q (by simp))
  |int j=>obtain⟨t',rfl⟩:=ry;exact PySem.EqMixed.ne_str_int (dZ I q (by simp))
  |str j=>obtain⟨t',rfl⟩:=ry;exact ne_str (dZ I q (congrArg not Iz))
  |_=>exact absurd (show false=true from hs) aw
 |byt i=>
  obtain⟨t,rfl⟩:=rx
  cases y with
  |byt j=>obtain⟨t',rfl⟩:=ry;exact PySem.W.ne_bytes (dZ I q (congrArg not Jn))
  |_=>exact absurd (show false=true from hs) aw
 |_=>cases y<;>exact absurd (show false=true from hs) aw
theorem NB:ql X (dG .Lt) (G8 λi j=> .bl (decide (i<j))):=Pt λ_ _ _ _ _ _ _ q=>lt_int q
theorem xB:ql X (dG .LtE) (G8 λi j=> .bl (decide (i<=j))):=Pt λ_ _ _ _ _ _ _ q=>le_int q
theorem Sd:ql X (dG .Gt) (G8 λi j=> .bl (decide (j<i))):=Pt λ_ _ _ _ _ _ _ q=>gt_int q
theorem WD:ql X (dG .GtE) (G8 λi j=> .bl (decide (j<=i))):=Pt λ_ _ _ _ _ _ _ q=>ge_int q
theorem oO (b:aS) {op:qb} (h:op≠.In:=by decide) (h2:op≠.NotIn:=by decide):eR op b=false:=by
 have e1:(op==qb.In)=false:=by cases op<;>first|rfl|exact absurd rfl h
 have e2:(op==qb.NotIn)=false:=by cases op<;>first|rfl|exact absurd rfl h2
 cases b<;>simp[eR,e1,e2]
theorem IF {op:qb} {r:R2} (ho:ql X (dG op) r) (ha:PE X a ta) (hb:PE X b tb) (hm:eR op b=false):PE X (.Compare a [op] [b] pos) (XH r ta tb):=by
 intro pins s σ H Q I h
 exact wpAny_Compare1 (T8 ha hb I h λv u s2 x y H2 I2 rx ry q=>ho pins s2 σ H2 x y v u Q I2 rx ry q) hm
def RU (t:TE):TT:=λσ H Q=>t σ H λx H'=>∃k,x= .bl k/\Q k H'
theorem Jl {op:qb} {r:R2} (ho:ql X (dG op) r) (ha:PE X a ta) (hb:PE X b tb) (hm:eR op b=false):PT X (.Compare a [op] [b] pos) (RU (XH r ta tb)):=by
 intro pins s σ H Q I h
 refine OF (fb (ha pins s σ H _ I h) λv s1 ⟨x,H1,I1,r1,q1⟩=>fb (hb pins s1 σ H1 _ I1 q1) λu s2 ⟨y,H2,I2,r2,q2⟩=>
  fb (ho pins s2 σ H2 x y v u _ I2 r1 r2 q2) λc s3 ⟨z,H3,I3,r3,k,e,q3⟩=>?_) hm
 subst e
 cases r3
 exact fF ⟨H3,I3,q3⟩
def Ot (r r':R2) (ta tb tc:TE):TE:=λσ H Q=>ta σ H λx H1=>tb σ H1 λy H2=>r x y H2 λz H3=>∃k,z= .bl k/\
 (if k=true then tc σ H3 λw' H4=>r' y w' H4 Q else Q (.bl false) H3)
theorem Mw {op Tj:qb} {r r':R2} (ho:ql X (dG op) r) (ho':ql X (dG Tj) r') (ha:PE X a ta) (hb:PE X b tb) (hc:PE X c tc)
  (hm:Lq [op,Tj] [b,c]=false:=by with_unfolding_all rfl):PE X (.Compare a [op,Tj] [b,c] pos) (Ot r r' ta tb tc):=by
 intro pins s σ H Q I h
 refine Compare_chain (fb (ha pins s σ H _ I h) λv s1 ⟨x,H1,I1,r1,q1⟩=>chain_link (fb (hb pins s1 σ H1 _ I1 q1) λu s2 ⟨y,H2,I2,r2,q2⟩=>
  fb (ho pins s2 σ H2 x y v u _ I2 r1 r2 q2) λd s3 ⟨z,H3,I3,r3,k,e,q3⟩=>?_)) hm
 subst e
 cases r3
 refine fF ?_
 cases k with
 |false=>exact ite_ff ⟨.bl false,H3,I3,rfl,q3⟩
 |true=>exact ite_tt (chain_last (fb (hc pins s3 σ H3 _ I3 q3) λw' s4 ⟨z',H4,I4,r4,q4⟩=>ho' pins s4 σ H4 y z' u w' Q I4 r2 r4 q4))
theorem Od {op Tj:qb} {r r':R2} (ho:ql X (dG op) r) (ho':ql X (dG Tj) r') (ha:PE X a ta) (hb:PE X b tb) (hc:PE X c tc)
  (hm:Lq [op,Tj] [b,c]=false:=by with_unfolding_all rfl):PT X (.Compare a [op,Tj] [b,c] pos) (RU (Ot r r' ta tb tc)):=by
 intro pins s σ H Q I h
 refine isTrue_chain (fb (ha pins s σ H _ I h) λv s1 ⟨x,H1,I1,r1,q1⟩=>test_link (fb (hb pins s1 σ H1 _ I1 q1) λu s2 ⟨y,H2,I2,r2,q2⟩=>
  fb (ho pins s2 σ H2 x y v u _ I2 r1 r2 q2) λd s3 ⟨z,H3,I3,r3,k,e,q3⟩=>?_)) hm
 subst e
 cases r3
 refine fF ?_
 cases k with
 |false=>
  obtain⟨k',e',q'⟩:=q3
  cases e'
  exact ite_ff ⟨H3,I3,q'⟩
 |true=>
  refine ite_tt (test_last (fb (hc pins s3 σ H3 _ I3 q3) λw' s4 ⟨z',H4,I4,r4,q4⟩=>fb (ho' pins s4 σ H4 y z' u w' _ I4 r2 r4 q4) λd' s5 ⟨z2,H5,I5,r5,k2,e2,q5⟩=>?_))
  subst e2
  cases r5
  exact fF ⟨H5,I5,q5⟩
theorem C4:(sizeLine:Nat)<2^63:=by rw[wz];decide
theorem Ic {x:V} {us:List Value} (r:b8 [x] us):∃u,us=[u]/\dQ x u:=by
 cases r with
 |cons r1 r2=>cases r2;exact⟨_,rfl,r1⟩
theorem R6 {x y:V} {us:List Value} (r:b8 [x,y] us):∃u w',us=[u,w']/\dQ x u/\dQ y w':=by
 cases r with
 |cons r1 r2=>
  cases r2 with
  |cons r3 r4=>cases r4;exact⟨_,_,rfl,r1,r3⟩
theorem Na:pS X (.builtin "abs") (λxs H Q=>∃i,xs=[.int i]/\Q (.int (if i<0 then -i else i)) H):=by
 intro pins s σ H xs us Q I r h
 obtain⟨i,rfl,q⟩:=h
 obtain⟨u,rfl,t,rfl⟩:=Ic r
 exact call_abs_int λu tk=>⟨.int (if i<0 then -i else i),H,I.tok _,⟨_,rfl⟩,q⟩
theorem KI (hc:X.calm=true):pS X (.builtin "max") (λxs H Q=>∃i j,xs=[.int i,.int j]/\Q (.int (if j>i then j else i)) H):=by
 intro pins s σ H xs us Q I r h
 obtain⟨i,j,rfl,q⟩:=h
 obtain⟨u,w',rfl,⟨t,rfl⟩,⟨t',rfl⟩⟩:=R6 r
 refine max_two_ints (I.ok.hd hc) λh' tk k=>⟨_,H,I.kept k,?_,q⟩
 by_cases hj:j>i
 ·rw[if_pos hj,if_pos hj];exact⟨_,rfl⟩
 ·rw[if_neg hj,if_neg hj];exact⟨_,rfl⟩
theorem Ld (hc:X.calm=true):pS X (.builtin "min") (λxs H Q=>∃i j,xs=[.int i,.int j]/\Q (.int (if j<i then j else i)) H):=by
 intro pins s σ H xs us Q I r h
 obtain⟨i,j,rfl,q⟩:=h
 obtain⟨u,w',rfl,⟨t,rfl⟩,⟨t',rfl⟩⟩:=R6 r
 refine min_two_ints (I.ok.hd hc) λh' tk k=>⟨_,H,I.kept k,?_,q⟩
 by_cases hj:j<i
 ·rw[if_pos hj,if_pos hj];exact⟨_,rfl⟩
 ·rw[if_neg hj,if_neg hj];exact⟨_,rfl⟩
end
end L2
namespace L2
open PySem PySem.Spec PyProof.Rows
structure Hm (h:Heap) (x dx C:Addr) (mA:Str->Option Value):Prop where
 obj:h.get? x=some (fY C dx)
 ns:h.Ns1 dx mA
 ne:dx≠x
theorem JO {h:Heap} {dx:Addr} {mA:Str->Option Value} (n:h.Ns1 dx mA):∃od,h.get? dx=some od/\∀name,qs name od=some (mA name):=by
 obtain⟨o,es,ep,ho,hd,hk,_,hm⟩:=n
 refine⟨o,ho,λname=>?_⟩
 have e:=hm name
 unfold nsFind findBy at e
 rw[<-Array.find?_toList]at e
 unfold qs
 rw[hd]
 dsimp only
 split
 ·rename_i y q
  rw[q]at e
  exact congrArg some e
 ·rename_i q
  rw[q]at e
  have a:es.toList.any (·.refKey)=false:=by
   rw[List.any_eq_false]
   intro y hy
   obtain⟨z,t,Ki⟩:=hk y (Array.mem_toList_iff.mp hy)
   simp[DictEntry.refKey,Ki]
  have a':¬es.toList.any (·.refKey)=true:=by rw[a];exact aw
  rw[if_neg a']
  exact congrArg some e
theorem Hm.look {h:Heap} {x dx C:Addr} {mA:Str->Option Value} (I:Hm h x dx C mA):∃od,PySem.W.InstAt h x (fY C dx) C (some od)/\∀name,qs name od=some (mA name):=
 let ⟨od,ho,hl⟩:=JO I.ns
 ⟨od,⟨I.obj,rfl,rfl,ho⟩,hl⟩
section
variable {prog:bR} {w:du} {A:cG} {E:Value->ao->Prop} {s:ao} {K:ag} {x dx C f:Addr} {mA:Str->Option Value} {name:Str} {v:Value}
theorem Rg {expr:Bool} {Q:Value->ao->Prop} (X:K.In s.heap) (I:Hm s.heap x dx C mA) (hg:nj K C name=true) (hh:uJ K C=true)
  (ha:er K (.ref C) name=some none) (hv:mA name=some v) (Uz:JB v=true) (h:Q v {s with toks:=s.toks+1}):
  wpAny (aU prog w) A (getAttr (.ref x) name expr) Q E s:=by
 obtain⟨od,J,hl⟩:=I.look
 exact PySem.W.get_value X J (sD hg).1 (PySem.W.findObj_own hh ha rfl (by rw[hl,hv])) Uz h
theorem MA {pl:Sem Bool} {Q:Value×List Value->ao->Prop} (X:K.In s.heap) (I:Hm s.heap x dx C mA) (hg:nj K C name=true)
  (hf:er K (.ref C) name=some (some (.ref f))) (ht:ou K (.ref f)=true) (hv:mA name=none) (h:Q (.ref f,[.ref x]) s):
  wpAny (aU prog w) A (jF (.ref x) name pl) Q E s:=by
 obtain⟨od,J,hl⟩:=I.look
 exact PySem.W.method_fn X J (sD hg).1 (sD hg).2 hf (beq_iff_eq.mp ht) (by show(qs name od).map (·.isSome)=some false;rw[hl,hv];rfl) h
theorem Rc {ns:List Str} {Q:Unit->ao->Prop} (X:K.In s.heap) (I:Hm s.heap x dx C mA)
  (hs:er K (.ref C) "__setattr__"=some (some (.builtin "object.__setattr__"))) (hp:HY K C=true) (ht:xU K C name=some none) (hh:uJ K C=true)
  (hw:wx mA ns) (hsz:ns.length<=sizeLine)
  (h:∀h',Hm h' x dx C (λy=>if y=name then some v else mA y)->jd dx s.heap h'->Q () {s with heap:=h',toks:=s.toks+2}):
  wpAny (aU prog w) A (setAttr (.ref x) name v) Q E s:=by
 obtain⟨od,J,hl⟩:=I.look
 refine PySem.W.set_plain X J hs (PySem.W.osa_open (s:={s with toks:=s.toks+1}) (r:=none) X J hp ht λb=>?_)
 obtain⟨cd,hc,XD⟩:=PySem.W.any_some hh
 have hx:s.heap.get? x=some ⟨.ref C,some dx,.plain,#[]⟩:=I.obj
 refine wpAny_bind (wpAny_pure (wpAny_bind (wpAny_bind (wpAny_loadPart hx (wpAny_bind (PySem.W.Looks.here (s:={s with toks:=s.toks+1}) (PySem.W.looks_clsIn X hc) ?_))))))
 rw[XD]
 refine wpAny_pure (a:=some dx) (wpAny_bind (wpAny_pure (wpAny_bind ?_)))
 refine wpAny_nsSet1 (s:={s with toks:=s.toks+1}) I.ns λh' Zx yg=>?_
 obtain⟨oD,esD,epD,hoD,hdD,hcD⟩:=Zx.count (wx.cons name v hw)
 refine wpAny_bind (wpAny_lookBehind hoD (by rw[hdD];exact pastItsLine_dict (dR hcD (by rw[aJ];lia))) ?_)
 exact wpAny_pure (h _ ⟨(yg.2 _ (iy I.ne)).trans I.obj,Zx,I.ne⟩ yg)
theorem MP {R:Result->ao->Prop} {vs:List Value} {kw:List (Str×Value)} (X:K.In s.heap) (hm:xV K C=true)
  (hi:er K (.ref C) "__init__"=some (some (.ref f))) (hf:PySem.W.typeIn K (.ref f)=some (.type "function"))
  (h:codeAny (aU prog w) (A.under (.builtin "type.__call__" ⟨.ref C::vs,kw⟩)) (.call (.ref f) ⟨.ref (s.heap.objs.size+1)::vs,kw⟩) (PySem.W.InitBack (s.heap.objs.size+1) R)
   {s with heap:=(s.heap.push PySem.W.emptyDict).push (fY C s.heap.objs.size)}):
  codeAny (aU prog w) A (.call (.ref C) ⟨vs,kw⟩) R s:=by
 obtain⟨hh,g,d,t,os⟩:=s
 exact PySem.W.make_core (PySem.W.makes_of X hm) (PySem.W.looks_findIn X hi) (λself=>PySem.W.bind_fn X self hf) (.inl rfl) h
end
def nS (f:Str) (v:V):List (Str×V)->List (Str×V)
 |[]=>[(f,v)]
 |(g,x)::r=>if g=f then (g,v)::r else (g,x)::nS f v r
theorem xN (f g:Str) (v:V):∀fs:List (Str×V),(nS f v fs).lookup g=if g=f then some v else fs.lookup g
 |[]=>by
  show jM g [(f,v)]=_
  by_cases h:g=f
  ·have hb:(g==f)=true:=beq_iff_eq.mpr h
   simp only[jM,hb,if_pos h]
  ·have hb:(g==f)=false:=beq_eq_false_iff_ne.mpr h
   simp only[jM,hb,if_neg h]
 |(k,x)::r=>by
  have ih:=xN f g v r
  rw[show nS f v ((k,x)::r)=(if k=f then (k,v)::r else (k,x)::nS f v r)from rfl]
  by_cases hk:k=f
  ·rw[if_pos hk]
   by_cases h:g=k
   ·have hb:(g==k)=true:=beq_iff_eq.mpr h
    simp only[jM,hb,if_pos (h.trans hk)]
   ·have hb:(g==k)=false:=beq_eq_false_iff_ne.mpr h
    simp only[jM,hb,if_neg (λe:g=f=>h (e.trans hk.symm))]
  ·rw[if_neg hk]
   by_cases h:g=k
   ·have hb:(g==k)=true:=beq_iff_eq.mpr h
    simp only[jM,hb,if_neg (λe:g=f=>hk (h.symm.trans e))]
   ·have hb:(g==k)=false:=beq_eq_false_iff_ne.mpr h
    simp only[jM,hb]
    exact ih
theorem wM (f:Str) (v:V):∀fs:List (Str×V),f∈(nS f v fs).map (·.1)/\∀g,g∈fs.map (·.1)->g∈(nS f v fs).map (·.1)
 |[]=>⟨by simp[nS],λg h=>by simp at h⟩
 |(k,x)::r=>by
  obtain⟨i1,i2⟩:=wM f v r
  rw[show nS f v ((k,x)::r)=(if k=f then (k,v)::r else (k,x)::nS f v r)from rfl]
  by_cases hk:k=f
  ·rw[if_pos hk]
   subst hk
   exact⟨by simp,λg h=>by simpa using h⟩
  ·rw[if_neg hk]
   refine⟨?_,λg h=>?_⟩
   ·rw[bg]
    exact ai _ i1
   ·rw[bg]at h⊢
    rcases aB.mp h with e|e
    ·exact aB.mpr (.inl e)
    ·exact ai _ (i2 g e)
theorem xA (f:Str) (v:V):∀fs:List (Str×V),(nS f v fs).length<=fs.length+1
 |[]=>by simp[nS]
 |(k,x)::r=>by
  have ih:=xA f v r
  rw[show nS f v ((k,x)::r)=(if k=f then (k,v)::r else (k,x)::nS f v r)from rfl]
  by_cases hk:k=f
  ·rw[if_pos hk,aJ,aJ];lia
  ·rw[if_neg hk,aJ,aJ];lia
theorem Bm.some_of {v:V} {o:Option Value} (r:Bm (some v) o):∃u,o=some u/\dQ v u:=by
 cases o with
 |none=>exact(show False from r).elim
 |some u=>exact⟨u,rfl,r⟩
theorem Bm.none_of {o:Option Value} (r:Bm none o):o=none:=by
 cases o with
 |none=>rfl
 |some u=>exact(show False from r).elim
theorem Kv {v:V} {u:Value} (r:dQ v u):JB u=true:=by
 cases v with
 |non=>cases (show u=cK from r);rfl
 |bl b=>cases (show u=kQ b from r);rfl
 |int i=>obtain⟨t,e⟩:=(show ∃t,u=kP i t from r);cases e;rfl
 |str x=>obtain⟨t,e⟩:=(show ∃t,u=Value.str x t from r);cases e;rfl
 |byt b=>obtain⟨t,e⟩:=(show ∃t,u=Value.bytes b t from r);cases e;rfl
 |flt b=>obtain⟨t,e⟩:=(show ∃t,u=Value.float b t from r);cases e;rfl
 |ref a=>cases (show u=bt a from r);rfl
 |ty n=>cases (show u=Value.type n from r);rfl
section
variable {P:bR} {w:du} {H H':Hp} {h h':Heap} {a C dx:Addr} {fs Vg:List (Str×V)}
theorem DF (hok:yn P w H h) (e:H a=some (.ins C dx fs)):∃mA,Hm h a dx C mA/\(∀f,Bm (fs.lookup f) (mA f))/\wx mA (fs.map (·.1))/\fs.length<=1000/\H dx=some (.own a):=by
 obtain⟨d,z,ne,ob,mA,n,r,q⟩:=(show kW P w H h a (.ins C dx fs)from hok a _ e)
 exact⟨mA,⟨ob,n,ne⟩,r,q,z,d⟩
end
structure iS (K:ag) (C:Addr):Prop where
 pg:nj K C Str.empty=true
 hd:uJ K C=true
 po:HY K C=true
 sa:er K (.ref C) "__setattr__"=some (some (.builtin "object.__setattr__"))
theorem iS.get {K:ag} {C:Addr} (c:iS K C) (f:Str):nj K C f=true:=c.pg
def aM (K:ag) (C:Addr) (f:Str):Prop:=er K (.ref C) f=some none
theorem aM.taker {K:ag} {C:Addr} {f:Str} (n:aM K C f):xU K C f=some none:=by
 unfold xU
 rw[show er K (.ref C) f=some none from n]
 rfl
structure Dn (K:ag) (C:Addr) (m:Str) (f:Addr):Prop where
 at_:er K (.ref C) m=some (some (.ref f))
 fn:ou K (.ref f)=true
 kp:cT K (.ref f)=true
section
variable {X:Cx} {pins:List (Addr×Obj)} {σ:St} {H:Hp} {s:ao} {a C dx:Addr} {fs:List (Str×V)} {f:Str} {v:V} {A:cG} {E:Value->ao->Prop}
theorem zN {b:Bool} {Q:Value->ao->Prop} (I:bG X pins σ H s) (e:H a=some (.ins C dx fs)) (c:iS X.K C) (n:aM X.K C f) (l:fs.lookup f=some v)
  (h:∀u s',bG X pins σ H s'->dQ v u->Q u s'):wpAny (aU X.prog X.w) A (getAttr (.ref a) f b) Q E s:=by
 obtain⟨mA,O,r,_,_,_⟩:=DF I.hok e
 obtain⟨u,hu,ru⟩:=Bm.some_of (v:=v) (o:=mA f) (by rw[<-l];exact r f)
 exact Rg I.kIn O (c.get f) c.hd n hu (Kv ru) (h u _ (I.tok _) ru)
theorem uc {m:Str} {g:Addr} {pl:Sem Bool} {Q:Value×List Value->ao->Prop} (I:bG X pins σ H s) (e:H a=some (.ins C dx fs)) (c:iS X.K C) (k:Dn X.K C m g) (l:fs.lookup m=none)
  (h:Q (.ref g,[.ref a]) s):wpAny (aU X.prog X.w) A (jF (.ref a) m pl) Q E s:=by
 obtain⟨mA,O,r,_,_,_⟩:=DF I.hok e
 have hn:mA m=none:=Bm.none_of (by rw[<-l];exact r m)
 exact MA I.kIn O (c.get m) k.at_ k.fn hn h
theorem Ak {y:V} {u:Value} {Q:Unit->ao->Prop} (I:bG X pins σ H s) (e:H a=some (.ins C dx fs)) (c:iS X.K C) (n:aM X.K C f) (hl:fs.length<1000) (ry:dQ y u)
  (h:∀s',bG X pins σ (fC H a (.ins C dx (nS f y fs))) s'->Q () s'):wpAny (aU X.prog X.w) A (setAttr (.ref a) f u) Q E s:=by
 obtain⟨mA,O,r,wi,_,ho⟩:=DF I.hok e
 have hz:(fs.map (·.1)).length<=sizeLine:=by rw[ah,wz];lia
 refine Rc I.kIn O c.sa c.po n.taker c.hd wi hz λh' O' sb=>h _ ?_
 have hd:∃o,h'.get? dx=some o:=let ⟨o,_,_,e',_⟩:=O'.ns;⟨o,e'⟩
 refine I.write (x:=a) (e:=dx) (by rw[e];exact True.intro) (.inr ho) (λb q hb z=>(sb.2 b hb).trans z) hd ?_
 refine⟨by rw[cb O.ne];exact ho,?_,O.ne,O'.obj,_,O'.ns,λg=>?_,λg hg=>?_⟩
 ·have:=xA f y fs;lia
 ·show Bm ((nS f y fs).lookup g) (if g=f then some u else mA g)
  rw[xN]
  by_cases q:g=f
  ·rw[if_pos q,if_pos q];exact ry
  ·rw[if_neg q,if_neg q];exact r g
 ·by_cases q:g=f
  ·rw[q];exact(wM f y fs).1
  ·refine(wM f y fs).2 g (wi g λz=>hg ?_)
   show(if g=f then some u else mA g)=none
   rw[if_neg q];exact z
theorem bG.made (I:bG X pins σ H s):bG X pins σ (fC (fC H s.heap.objs.size (.own (s.heap.objs.size+1))) (s.heap.objs.size+1) (.ins C s.heap.objs.size []))
  {s with heap:=(s.heap.push PySem.W.emptyDict).push (fY C s.heap.objs.size)}:=by
 have e1:(s.heap.push PySem.W.emptyDict).get? s.heap.objs.size=some PySem.W.emptyDict:=aK s.heap rfl
 have e2:((s.heap.push PySem.W.emptyDict).push (fY C s.heap.objs.size)).get? (s.heap.objs.size+1)=some (fY C s.heap.objs.size):=by
  have:=aK (s.heap.push PySem.W.emptyDict) (o:=fY C s.heap.objs.size) rfl
  rwa [bz]at this
 have e3:(s.heap.push PySem.W.emptyDict).Ns s.heap.objs.size (λ_=>none):=⟨PySem.W.emptyDict,#[],_,e1,rfl,(λe he=>absurd he (by simp)),λ_=>rfl⟩
 have I1:=I.laid (a:=s.heap.objs.size) (o:= .own (s.heap.objs.size+1)) (h':=s.heap.push PySem.W.emptyDict) (t':=s.toks) (λb u q=>au _ q) (aO _) ⟨_,e1⟩
 refine I1.laid (a:=s.heap.objs.size+1) (o:= .ins C s.heap.objs.size []) (t':=s.toks) (λb u q=>au _ q) (ko (bz _ _)) ?_
 have ne:s.heap.objs.size≠s.heap.objs.size+1:=cA (yX _)
 refine⟨by rw[cb ne,cp],eS _,ne,e2,λ_=>none,(Heap.Ns1.of_empty e3).at λo q=>au _ q,λ_=>True.intro,λy hy=>absurd rfl hy⟩
theorem Ru {prog:bR} {w:du} {env:Env} {e:aS} {f:Str} {pos:Pos} {s:ao} {Q:Value->ao->Prop} (hb:fu e f env (eval e env)=eval e env)
  (h:wpAny (aU prog w) A (eval e env) (λo s₁=>wpAny (aU prog w) A (getAttr o f true) Q E s₁) E s):wpAny (aU prog w) A (eval (.Attribute e f pos) env) Q E s:=
 Attribute_any_ h (by rw[arm_eval_Attribute,hb])
end
def Y5 (K:ag) (ta:TE) (f:Str):TE:=λσ H Q=>ta σ H λx H1=>∃a C dx fs v,x= .ref a/\H1 a=some (.ins C dx fs)/\iS K C/\aM K C f/\fs.lookup f=some v/\Q v H1
def aaH (K:ag) (ta tv:TE) (f:Str):TS:=λD σ H=>tv σ H λy H1=>ta σ H1 λx H2=>∃a C dx fs,x= .ref a/\H2 a=some (.ins C dx fs)/\iS K C/\aM K C f/\fs.length<1000/\
 D.nx σ (fC H2 a (.ins C dx (nS f y fs)))
def VS (X:Cx) (op:wy) (rd:V->V->Hp->VK->Prop):Prop:=
 ∀(pins:List (Addr×Obj)) (s:ao) (σ:St) (H:Hp) (x y:V) (u v:Value) (Q:VK),bG X pins σ H s->dQ x u->dQ y v->rd x y H Q->wpAny (aU X.prog X.w) X.A (inplaceOp op u v) (EP X pins σ Q) X.xe s
def P7 (K:ag) (ta tv:TE) (rd:V->V->Hp->VK->Prop) (f:Str):TS:=λD σ H=>ta σ H λx H1=>∃a C dx fs v,x= .ref a/\H1 a=some (.ins C dx fs)/\iS K C/\aM K C f/\fs.lookup f=some v/\
 tv σ H1 λy H2=>rd v y H2 λz H3=>∃Yv Vg,H3 a=some (.ins C Yv Vg)/\Vg.length<1000/\D.nx σ (fC H3 a (.ins C Yv (nS f z Vg)))
section
variable {X:Cx} {o e value:aS} {f:Str} {pos pos' n8:Pos} {ta tv:TE}
theorem Nr (he:PE X e ta) (hb:fu e f X.env (eval e X.env)=eval e X.env):PE X (.Attribute e f pos) (Y5 X.K ta f):=by
 intro pins s σ H Q I h
 refine Ru hb (fb (he pins s σ H _ I h) λu s1 ⟨x,H1,I1,rx,a,C,dx,fs,v,ex,ea,c,n,l,q⟩=>?_)
 subst ex
 obtain rfl:u=bt a:=rx
 exact zN I1 ea c n l λu' s2 I2 ru=>⟨v,H1,I2,ru,q⟩
theorem SA (ha:PE X o ta) (hv:PE X value tv) (hs:eA value (some (.Attribute o f pos')) pos.line X.env=pure false):PS X (.Assign [.Attribute o f pos'] value pos) (aaH X.K ta tv f):=by
 intro pins s σ H D I h
 refine plainObj_wpAny_Assign_Attribute (fb (hv pins s σ H _ I h) λu s1 ⟨y,H1,I1,ry,q⟩=>fb (ha pins s1 σ H1 _ I1 q) λov s2 ⟨x,H2,I2,rx,a,C,dx,fs,ex,ea,c,n,l,q2⟩=>?_) hs
 subst ex
 obtain rfl:ov=bt a:=rx
 exact Ak I2 ea c n l ry λs3 I3=>⟨σ,_,I3,q2⟩
theorem KQ {op:wy} {rd:V->V->Hp->VK->Prop} (ha:PE X o ta) (hv:PE X value tv) (hop:VS X op rd):PS X (.AugAssign (.Attribute o f n8) op value pos) (P7 X.K ta tv rd f):=by
 intro pins s σ H D I h
 refine wpAny_AugAssign_AttributeAny (fb (ha pins s σ H _ I h) λov s1 ⟨x,H1,I1,rx,a,C,dx,fs,v,ex,ea,c,n,l,q⟩=>?_)
 subst ex
 obtain rfl:ov=bt a:=rx
 refine zN I1 ea c n l λu s2 I2 ru=>fb (hv pins s2 σ H1 _ I2 q) λw3 s3 ⟨y,H2,I3,ry,q3⟩=>fb (hop pins s3 σ H2 v y u w3 _ I3 ru ry q3) λw4 s4 ⟨z,H3,I4,rz,Yv,Vg,ea',l',q4⟩=>?_
 exact Ak I4 ea' c n l' rz λs5 I5=>⟨σ,_,I5,q4⟩
def Yq:V->V->Hp->VK->Prop:=λx y H Q=>∃i j,x= .int i/\y= .int j/\Q (.int (i+j)) H
theorem T6:VS X .Add Yq:=by
 rintro pins s σ H x y u v Q I rx ry ⟨i,j,rfl,rfl,q⟩
 obtain⟨t,rfl⟩:=(show ∃t,u=kP i t from rx)
 obtain⟨t',rfl⟩:=(show ∃t',v=kP j t' from ry)
 exact PyProof.Rows.iadd_int ⟨.int (i+j),H,I.tok _,⟨_,rfl⟩,q⟩
theorem Sk {pl:Sem Bool} {m:Str} {apos:Pos} {args:List aS} {pins:List (Addr×Obj)} {s:ao} {σ:St} {H:Hp} {Q:Value->ao->Prop} {te:TE} (he:PE X e te) (I:bG X pins σ H s)
  (h:te σ H λx H1=>∃a C dx fs g,x= .ref a/\H1 a=some (.ins C dx fs)/\iS X.K C/\Dn X.K C m g/\fs.lookup m=none/\
   ∀s1,bG X pins σ H1 s1->wpAny (aU X.prog X.w) X.A (callWith pos (.ref g) [.ref a] (cw pos (ak args X.env)) (iV pos (e8 [] X.env))) Q X.xe s1)
  (ht:eval (.Call (.Attribute e m apos) args [] pos) X.env=(do
   let ov<-eval e X.env
   standAt apos.atName
   let (f,first)<-holding [ov] (jF ov m pl)
   callWith pos f first (cw pos (ak args X.env)) (iV pos (e8 [] X.env)))):
  wpAny (aU X.prog X.w) X.A (eval (.Call (.Attribute e m apos) args [] pos) X.env) Q X.xe s:=by
 refine pV (pl:=pl) (fb (he pins s σ H _ I h) λu s1 ⟨x,H1,I1,rx,a,C,dx,fs,g,ex,ea,c,k,l,q⟩=>?_) ht
 subst ex
 obtain rfl:u=bt a:=rx
 exact uc I1 ea c k l (q s1 I1)
end
end L2
namespace L2
open PySem PySem.Spec PyProof.Rows
structure lE (k:Nat) (A:cG):Prop where
 hd:A.handled=none
 dp:A.depth+3*k+5<recursionLimit
 un:A.units+16*k+200<cLine
theorem lE.mono {j k:Nat} {A:cG} (r:lE k A) (h:j<=k):lE j A:=⟨r.hd,by have:=r.dp;lia,by have:=r.un;lia⟩
theorem lE.deeper {k:Nat} {A:cG} (r:lE (k+1) A) (env:Env):lE k (A.deeper env):=
 ⟨r.hd,by have:=r.dp;show A.depth+1+3*k+5<_;lia,by have:=r.un;show A.units+3+16*k+200<_;lia⟩
theorem GF {A:cG} {C:Addr} {us:List Value} {kw:List (Str×Value)}:(A.under (.builtin "type.__call__" ⟨.ref C::us,kw⟩)).depth=A.depth+1:=by
 first|rfl|simp[DZ,Code.weight,Code.isCreation,Code.isGuard,Code.isCaller,Code.frames,FW,guardIds]
theorem Gw {A:cG} {C:Addr} {us:List Value} {kw:List (Str×Value)}:(A.under (.builtin "type.__call__" ⟨.ref C::us,kw⟩)).units=A.units+1:=by
 first|rfl|simp[DZ,Code.cUnits,Code.frames,FW]
theorem lE.make {k:Nat} {A:cG} (r:lE (k+1) A) (C:Addr) (us:List Value) (kw:List (Str×Value)):lE k (A.under (.builtin "type.__call__" ⟨.ref C::us,kw⟩)):=
 ⟨r.hd,by have:=r.dp;rw[GF];omega,by have:=r.un;rw[Gw];omega⟩
theorem lE.depth {k:Nat} {A:cG} (r:lE k A):A.depth<recursionLimit:=by have:=r.dp;lia
def QK:TA:=λ_ H Q=>Q [] H
def V5 (ta:TE) (tr:TA):TA:=λσ H Q=>ta σ H λx H1=>tr σ H1 λxs H2=>Q (x::xs) H2
section
variable {X:Cx} {e:aS} {es:List aS} {te:TE} {t:TA} {pos:Pos}
theorem DW:PA X [] QK:=λ_ _ _ _ H Q I h=>Calls.spliced_nil ⟨[],H,I,.nil,h⟩
theorem uQ (ha:PE X e te) (hr:PA X es t) (hs:ak (e::es) X.env=(false,eval e X.env)::ak es X.env:=by rfl):PA X (e::es) (V5 te t):=by
 intro pos pins s σ H Q I h
 rw[hs]
 show wpAny _ _ (spliced ((false,eval e X.env)::cw pos (ak es X.env))) _ _ s
 refine Calls.spliced_cons (fb (ha pins s σ H _ I h) λu s1 ⟨x,H1,I1,r1,q1⟩=>?_)
 exact fb (hr pos pins s1 σ H1 _ I1 q1) λus s2 ⟨xs,H2,I2,r2,q2⟩=>⟨x::xs,H2,I2,.cons r1 r2,q2⟩
def Zr (t:TA):TE:=λσ H Q=>t σ H λxs H1=>xs.length<=sizeLine/\∀p,H1 p=none->Q (.ref p) (fC H1 p (.tup xs))
def Zy (t:TA):TE:=λσ H Q=>t σ H λxs H1=>xs.length<=sizeLine/\∀p,H1 p=none->Q (.ref p) (fC H1 p (.lst xs))
theorem SR {x1} (h:PA X es t):PE X (.Tuple es x1 pos) (Zr t):=by
 intro pins s σ H Q I hq
 refine wpAny_Tuple_spliced (fb (h pos pins s σ H _ I hq) λus s1 ⟨xs,H1,I1,r,z,q⟩=>⟨by rw[<-r.length];exact z,?_⟩)
 have hf:H1 s1.heap.objs.size=none:=I1.hok.fresh (aO _)
 refine⟨.ref s1.heap.objs.size,fC H1 s1.heap.objs.size (.tup xs),I1.laid (t':=s1.toks) (λb u e=>au _ e) (aO _) ?_,rfl,q _ hf⟩
 exact⟨z,us,r,⟨_,aK _ rfl,rfl,_,rfl⟩⟩
theorem Tb (h:PA X es t):PE X (.List es pos) (Zy t):=by
 intro pins s σ H Q I hq
 refine wpAny_List_spliced (fb (h pos pins s σ H _ I hq) λus s1 ⟨xs,H1,I1,r,z,q⟩=>⟨by rw[<-r.length];exact z,?_⟩)
 have hf:H1 s1.heap.objs.size=none:=I1.hok.fresh (aO _)
 refine⟨.ref s1.heap.objs.size,fC H1 s1.heap.objs.size (.lst xs),I1.laid (t':=s1.toks) (λb u e=>au _ e) (aO _) ?_,rfl,q _ hf⟩
 exact⟨z,us,0,r,aK _ rfl⟩
end
abbrev Sp:=List V->Hp->VK->XK->Prop
abbrev Qi:=List Env->Hp->ao->XK->Value->ao->Prop
structure HB (P:bR) (w:du) (K:ag) (mg:Str->Option Value) (base:Heap) (A:cG) (outer:List Env) (s:ao) (H:Hp):Prop where
 frames:A.frames=some outer
 mod:Mod K mg base
 bs:∀b o,base.get? b=some o->s.heap.get? b=some o/\H b=none
 bsz:base.objs.size<=s.heap.objs.size
 funs:s.heap.FunFrames base outer
 frf:∀b∈yi outer,H b=none
 hok:yn P w H s.heap
 bare:xh s.gens
def CE (outer:List Env) (P:bR) (w:du) (H:Hp) (s:ao) (Q:VK) (u:Value) (s':ao):Prop:=
 ∃v H',s'.os=s.os/\xh s'.gens/\Un (yi outer) [] H H' s.heap s'.heap/\yn P w H' s'.heap/\dQ v u/\Q v H'
def CR (CX:Qi) (outer:List Env) (P:bR) (w:du) (H:Hp) (s:ao) (Q:VK) (E:XK) (r:Result) (s':ao):Prop:=
 match r with
 | .ok (.ret u)=>CE outer P w H s Q u s'
 | .ok _=>False
 | .error e=>CX outer H s E e s'
structure mv (P:bR) (w:du) (K:ag) (mg:Str->Option Value) (base:Heap) (CX:Qi) (k:Nat) (f:Addr) (fd:ox) (ps:List Str) (sp:Sp):Prop where
 len:∀vs H Q E,sp vs H Q E->vs.length=ps.length
 run:∀(A:cG) (outer:List Env) (s:ao) (H:Hp) (args:Args) (us:List Value) (vs:List V) (Q:VK) (E:XK),lE k A->HB P w K mg base A outer s H->BindsTo s fd args (ps.zip us)->b8 vs us->sp vs H Q E->
  codeAny (aU P w) A (.call (.ref f) args) (CR CX outer P w H s Q E) s
theorem HB.make {P:bR} {w:du} {K:ag} {mg:Str->Option Value} {base:Heap} {A:cG} {outer:List Env} {s:ao} {H:Hp} (e:HB P w K mg base A outer s H) (C:Addr) (us:List Value) (kw:List (Str×Value)):
  HB P w K mg base (A.under (.builtin "type.__call__" ⟨.ref C::us,kw⟩)) outer s H:=⟨by first|exact e.frames|(simpa[DZ,Code.envs,FW,pushEnvs] using e.frames),e.mod,e.bs,e.bsz,e.funs,e.frf,e.hok,e.bare⟩
section
variable {X:Cx} {pins:List (Addr×Obj)} {σ:St} {H:Hp} {s s':ao}
theorem bG.env0 (I:bG X pins σ H s):HB X.prog X.w X.K X.mg X.base X.A X.stack s H:=
 ⟨I.ok.frames,I.ok.mod,I.bs,dR I.ok.bsz I.sz,I.stack,I.stkFree,I.hok,I.bare⟩
theorem bG.after {Q:VK} {u:Value} (I:bG X pins σ H s) (h:CE X.stack X.prog X.w H s Q u s'):EP X pins σ Q u s':=by
 obtain⟨v,H',os,bare,un,hok,r,q⟩:=h
 obtain⟨hh,g,d,t,os'⟩:=s'
 obtain rfl:os'=s.os:=os
 exact⟨v,H',I.call (h':=hh) (g':=g) (d':=d) (t':=t) (ch:=[]) un hok bare (λb z=>absurd z (by simp)),r,q⟩
end
def Si (sp:Sp) (yu:List V) (E:XK) (t:TA):TE:=λσ H Q=>t σ H λvs H1=>sp (vs++yu) H1 Q E
def RM (C:Addr) (m:Str) (sp:Sp) (yu:List V) (E:XK) (ta:TE) (t:TA):TE:=λσ H Q=>ta σ H λx H1=>∃a dx fs,x= .ref a/\H1 a=some (.ins C dx fs)/\fs.lookup m=none/\
 t σ H1 λvs H2=>sp (x::(vs++yu)) H2 Q E
def Rz (C:Addr) (sp:Sp) (yu:List V) (E:XK) (t:TA):TE:=λσ H Q=>t σ H λvs H1=>∀x dx,H1 x=none->H1 dx=none->dx≠x->
 sp (.ref x::(vs++yu)) (fC (fC H1 dx (.own x)) x (.ins C dx [])) (λv H2=>v= .non/\Q (.ref x) H2) E
def iC (K:ag) (fd:ox) (ps:List Str) (ds:List Value):Prop:=
 ∀(s:ao) (us:List Value),K.In s.heap->(us++ds).length=ps.length->BindsTo s fd ⟨us,[]⟩ (ps.zip (us++ds))
theorem iC.all {K:ag} {fd:ox} {ps:List Str} (h:∀us:List Value,us.length=ps.length->Gd fd ⟨us,[]⟩=pure (ps.zip us)):iC K fd ps []:=λs us _ hl=>by
 rw[br]at hl⊢
 exact .of_eq (h us hl)
def mZ (CX:Qi) (X:Cx) (E:XK):Prop:=∀(pins:List (Addr×Obj)) (σ:St) (H:Hp) (s:ao) (e:Value) (s':ao),bG X pins σ H s->CX X.stack H s E e s'->X.xe e s'
section
variable {X:Cx} {CX:Qi} {k:Nat} {f C:Addr} {fd:ox} {ps:List Str} {sp:Sp} {yu:List V} {ds:List Value} {E:XK} {x m:Str} {p pos apos:Pos} {e o:aS} {es:List aS} {ta:TE} {t:TA}
theorem C8 {pins:List (Addr×Obj)} {σ:St} {H:Hp} {s:ao} {Q:VK} {us:List Value} {vs:List V} (F:mv X.prog X.w X.K X.mg X.base CX k f fd ps sp) (hr:lE k X.A) (hb:iC X.K fd ps ds) (hd:b8 yu ds) (hx:mZ CX X E)
  (I:bG X pins σ H s) (r:b8 vs us) (h:sp (vs++yu) H Q E):wpAny (aU X.prog X.w) X.A (call (.ref f) us) (EP X pins σ Q) X.xe s:=by
 have r2:b8 (vs++yu) (us++ds):=r.append hd
 have hl:(us++ds).length=ps.length:=by rw[<-r2.length];exact F.len _ _ _ _ h
 refine wpAny_call (AY (F.run X.A X.stack s H ⟨us,[]⟩ (us++ds) (vs++yu) Q E hr I.env0 (hb s us I.kIn hl) r2 h) λr s' hq=>?_)
 cases r with
 |error e=>exact hx pins σ H s e s' I hq
 |ok fl=>
  cases fl with
  |ret u=>exact I.after hq
  |next=>exact eW hq
  |brk=>exact eW hq
  |cont=>exact eW hq
theorem yI (F:mv X.prog X.w X.K X.mg X.base CX k f fd ps sp) (hr:lE k X.A) (hg:Gl X x) (hm:X.mg x=some (.ref f)) (hk:cT X.K (.ref f)=true) (hb:iC X.K fd ps ds) (hd:b8 yu ds) (hx:mZ CX X E)
  (ha:PA X (e::es) t) (og:(x==("__debug__":Str))=false:=by decide) (he:ak (e::es) X.env=(false,eval e X.env)::ak es X.env:=by rfl) (hpl:(cw pos (ak es X.env)).any (·.1)=false:=by rfl):
  PE X (.Call (.Name x p) (e::es) [] pos) (Si sp yu E t):=by
 intro pins s σ H Q I h
 refine iF (oR I hg hm ?_ og)
 refine t7 (h₀:=X.base) I.ok.mod.kin hk (fb (ha pos pins s σ H _ I h) λus s1 ⟨vs,H1,I1,r,q⟩=>⟨I1.kIn,?_⟩) he hpl
 exact C8 F hr hb hd hx I1 r q
theorem NI (F:mv X.prog X.w X.K X.mg X.base CX k f fd ps sp) (hr:lE k X.A) (hg:Gl X x) (hm:X.mg x=some (.ref f)) (hk:cT X.K (.ref f)=true) (hb:iC X.K fd ps ds) (hd:b8 yu ds) (hx:mZ CX X E)
  (og:(x==("__debug__":Str))=false:=by decide):PE X (.Call (.Name x p) [] [] pos) (Si sp yu E QK):=by
 intro pins s σ H Q I h
 refine iF (oR I hg hm ?_ og)
 exact sE I.kIn hk (C8 (us:=[]) F hr hb hd hx I .nil h)
theorem QD {pl:Sem Bool} (he:PE X o ta) (c:iS X.K C) (hm:Dn X.K C m f) (F:mv X.prog X.w X.K X.mg X.base CX k f fd ps sp) (hr:lE k X.A) (hb:iC X.K fd ps ds) (hd:b8 yu ds) (hx:mZ CX X E) (ha:PA X (e::es) t)
  (D7:ak (e::es) X.env=(false,eval e X.env)::ak es X.env:=by rfl) (hpl:(cw pos (ak es X.env)).any (·.1)=false:=by rfl)
  (ht:eval (.Call (.Attribute o m apos) (e::es) [] pos) X.env=(do
   let ov<-eval o X.env
   standAt apos.atName
   let (f,first)<-holding [ov] (jF ov m pl)
   callWith pos f first (cw pos (ak (e::es) X.env)) (iV pos (e8 [] X.env))):=by rfl):
  PE X (.Call (.Attribute o m apos) (e::es) [] pos) (RM C m sp yu E ta t):=by
 intro pins s σ H Q I h
 refine pV (pl:=pl) (fb (he pins s σ H _ I h) λu s1 ⟨x,H1,I1,rx,a,dx,fs,ex,ea,l,q⟩=>?_) ht
 subst ex
 obtain rfl:u=bt a:=rx
 refine uc I1 ea c hm l ?_
 refine t7 (first:=[.ref a]) (h₀:=X.base) I.ok.mod.kin hm.kp (fb (ha pos pins s1 σ H1 _ I1 q) λus s2 ⟨vs,H2,I2,r,q2⟩=>⟨I2.kIn,?_⟩) D7 hpl
 exact C8 (us:= .ref a::us) (vs:= .ref a::vs) F hr hb hd hx I2 (.cons rfl r) q2
theorem EF {pl:Sem Bool} (he:PE X o ta) (c:iS X.K C) (hm:Dn X.K C m f) (F:mv X.prog X.w X.K X.mg X.base CX k f fd ps sp) (hr:lE k X.A) (hb:iC X.K fd ps ds) (hd:b8 yu ds) (hx:mZ CX X E)
  (ht:eval (.Call (.Attribute o m apos) [] [] pos) X.env=(do
   let ov<-eval o X.env
   standAt apos.atName
   let (f,first)<-holding [ov] (jF ov m pl)
   callWith pos f first (cw pos (ak [] X.env)) (iV pos (e8 [] X.env))):=by rfl):
  PE X (.Call (.Attribute o m apos) [] [] pos) (RM C m sp yu E ta QK):=by
 intro pins s σ H Q I h
 refine pV (pl:=pl) (fb (he pins s σ H _ I h) λu s1 ⟨x,H1,I1,rx,a,dx,fs,ex,ea,l,q⟩=>?_) ht
 subst ex
 obtain rfl:u=bt a:=rx
 refine uc I1 ea c hm l ?_
 exact sE (first:=[.ref a]) I1.kIn hm.kp (C8 (us:=[.ref a]) (vs:=[.ref a]) F hr hb hd hx I1 (.cons rfl .nil) q)
structure Mk (K:ag) (C f:Addr):Prop where
 makes:xV K C=true
 init:er K (.ref C) "__init__"=some (some (.ref f))
 fn:ou K (.ref f)=true
 kp:cT K (.ref C)=true
theorem Fb {pins:List (Addr×Obj)} {σ:St} {H:Hp} {s:ao} {Q:VK} {us:List Value} {vs:List V} (M:Mk X.K C f) (F:mv X.prog X.w X.K X.mg X.base CX k f fd ps sp) (hr:lE (k+1) X.A) (hb:iC X.K fd ps ds) (hd:b8 yu ds)
  (hx:mZ CX X E) (I:bG X pins σ H s) (r:b8 vs us)
  (h:∀x dx,H x=none->H dx=none->dx≠x->sp (.ref x::(vs++yu)) (fC (fC H dx (.own x)) x (.ins C dx [])) (λv H2=>v= .non/\Q (.ref x) H2) E):
  wpAny (aU X.prog X.w) X.A (call (.ref C) us) (EP X pins σ Q) X.xe s:=by
 have hq:=h (s.heap.objs.size+1) s.heap.objs.size (I.hok.fresh (Nat.le_succ _)) (I.hok.fresh (aO _)) (cA (yX _))
 have I2:=bG.made (C:=C) I
 have r2:b8 (V.ref (s.heap.objs.size+1)::(vs++yu)) (bt (s.heap.objs.size+1)::(us++ds)):= .cons rfl (r.append hd)
 have hl:(bt (s.heap.objs.size+1)::us++ds).length=ps.length:=by
  have e:=r2.length
  rw[F.len _ _ _ _ hq]at e
  exact e.symm
 refine wpAny_call (MP (f:=f) I.kIn M.makes M.init (beq_iff_eq.mp M.fn) (AY (F.run _ X.stack _ _ ⟨bt (s.heap.objs.size+1)::us,[]⟩ (bt (s.heap.objs.size+1)::(us++ds)) _ _ E (hr.make C us [])
  (I2.env0.make C us []) (hb _ (bt (s.heap.objs.size+1)::us) I2.kIn hl) r2 hq) λr s' hq'=>?_))
 cases r with
 |error e=>exact hx pins σ _ _ e s' I2 hq'
 |ok fl=>
  cases fl with
  |ret u=>
   obtain⟨v,H',I3,rv,ev,q3⟩:=I2.after hq'
   subst ev
   exact⟨rv,⟨V.ref (s.heap.objs.size+1),H',I3,rfl,q3⟩⟩
  |next=>exact eW hq'
  |brk=>exact eW hq'
  |cont=>exact eW hq'
theorem QZ (M:Mk X.K C f) (F:mv X.prog X.w X.K X.mg X.base CX k f fd ps sp) (hr:lE (k+1) X.A) (hg:Gl X x) (hm:X.mg x=some (.ref C)) (hb:iC X.K fd ps ds) (hd:b8 yu ds) (hx:mZ CX X E)
  (ha:PA X (e::es) t) (og:(x==("__debug__":Str))=false:=by decide) (he:ak (e::es) X.env=(false,eval e X.env)::ak es X.env:=by rfl) (hpl:(cw pos (ak es X.env)).any (·.1)=false:=by rfl):
  PE X (.Call (.Name x p) (e::es) [] pos) (Rz C sp yu E t):=by
 intro pins s σ H Q I h
 refine iF (oR I hg hm ?_ og)
 refine t7 (h₀:=X.base) I.ok.mod.kin M.kp (fb (ha pos pins s σ H _ I h) λus s1 ⟨vs,H1,I1,r,q⟩=>⟨I1.kIn,?_⟩) he hpl
 exact Fb M F hr hb hd hx I1 r q
theorem LW (M:Mk X.K C f) (F:mv X.prog X.w X.K X.mg X.base CX k f fd ps sp) (hr:lE (k+1) X.A) (hg:Gl X x) (hm:X.mg x=some (.ref C)) (hb:iC X.K fd ps ds) (hd:b8 yu ds) (hx:mZ CX X E)
  (og:(x==("__debug__":Str))=false:=by decide):PE X (.Call (.Name x p) [] [] pos) (Rz C sp yu E QK):=by
 intro pins s σ H Q I h
 refine iF (oR I hg hm ?_ og)
 exact sE I.kIn M.kp (Fb (us:=[]) M F hr hb hd hx I .nil h)
end
structure jS (N P:List Str) (sc:Scope):Prop where
 kind:sc.kind= .function
 co:sc.isCoroutine=false
 gen:sc.isGenerator=false
 nd:N.Nodup
 pre:N.take P.length=P
 par:∀x∈P,sc.names.lookup x=some .local\/sc.names.lookup x=some .cell
 nofree:∀y∈sc.names,y.2≠.free
theorem B0 {kindOf:Str->Option gu} {x:Str}:∀{binds:List (Str×Value)} {m:Str->Option Value},(∀v,(x,v)∉binds)->bindL kindOf binds m x=m x
 |[],_,_=>rfl
 |(n,v)::r,m,h=>by
  unfold bindL
  rw[B0 λw hw=>h w (ai _ hw)]
  split
  ·have:x≠n:=by rintro rfl;exact h v ae
   simp[this]
  ·rfl
theorem Cm {kindOf:Str->Option gu} {x:Str}:∀{binds:List (Str×Value)} {m:Str->Option Value},(∀v,(x,v)∉binds)->bindC kindOf binds m x=m x
 |[],_,_=>rfl
 |(n,v)::r,m,h=>by
  unfold bindC
  rw[Cm λw hw=>h w (ai _ hw)]
  split
  ·rfl
  ·have:x≠n:=by rintro rfl;exact h v ae
   simp[this]
theorem Cg {kindOf:Str->Option gu} {x:Str} {v:Value}:∀{P:List Str} {vs:List Value} {i:Nat} {m:Str->Option Value},P.Nodup->P[i]? =some x->vs[i]? =some v->kindOf x=some .local->
  bindL kindOf (P.zip vs) m x=some v
 |[],_,_,_,_,h,_,_=>by simp at h
 |_::_,[],_,_,_,_,h,_=>by simp at h
 |p::P,w::vs,0,m,nd,h1,h2,hk=>by
  simp at h1 h2;subst h1;subst h2
  show bindL kindOf ((p,w)::P.zip vs) m p=_
  unfold bindL
  rw[B0 λv hv=>(bc.mp nd).1 (jG hv).1,if_pos hk]
  simp
 |p::P,w::vs,i+1,m,nd,h1,h2,hk=>by
  show bindL kindOf ((p,w)::P.zip vs) m x=_
  unfold bindL
  exact Cg (i:=i) (bc.mp nd).2 (by simpa using h1) (by simpa using h2) hk
theorem B7 {kindOf:Str->Option gu} {x:Str} {v:Value}:∀{P:List Str} {vs:List Value} {i:Nat} {m:Str->Option Value},P.Nodup->P[i]? =some x->vs[i]? =some v->kindOf x≠some .local->
  bindC kindOf (P.zip vs) m x=some v
 |[],_,_,_,_,h,_,_=>by simp at h
 |_::_,[],_,_,_,_,h,_=>by simp at h
 |p::P,w::vs,0,m,nd,h1,h2,hk=>by
  simp at h1 h2;subst h1;subst h2
  show bindC kindOf ((p,w)::P.zip vs) m p=_
  unfold bindC
  rw[Cm λv hv=>(bc.mp nd).1 (jG hv).1,if_neg hk]
  simp
 |p::P,w::vs,i+1,m,nd,h1,h2,hk=>by
  show bindC kindOf ((p,w)::P.zip vs) m x=_
  unfold bindC
  exact B7 (i:=i) (bc.mp nd).2 (by simpa using h1) (by simpa using h2) hk
def jm (N:List Str) (vs:List V):St:=vs.map some++aq (N.length-vs.length) none
def oF (CX:Qi) (P:bR) (w:du) (K:ag) (mg:Str->Option Value) (base:Heap) (N:List Str) (qual:Str) (scope:Scope) (f:Addr) (cd:Value) (A:cG) (outer:List Env) (s:ao) (H:Hp) (E:XK):Cx where
 prog:=P
 w:=w
 K:=K
 mg:=mg
 base:=base
 A:=A.deeper (yY qual scope s.heap.objs.size f cd)
 N:=N
 s_0:=s
 H_0:=H
 env:=yY qual scope s.heap.objs.size f cd
 outer:=outer
 stack:=yY qual scope s.heap.objs.size f cd::outer
 ex:=[]
 calm:=true
 fn:=λ_=>true
 pn:=[]
 xe:=λe s'=>wpAny (aU P w) (A.deeper (yY qual scope s.heap.objs.size f cd)) (leaving (yY qual scope s.heap.objs.size f cd) e) (λ_ S6=>CX outer H s E e S6) (λe' S6=>CX outer H s E e' S6) s'
theorem Eh {sc:Scope} {n:Nat} {x:Str} (h:sc.names.lookup x=some .cell):∃c,(cO n sc.names []).lookup x=some c:=by
 have q:=CJ sc.names n [] (.inl h)
 exact Option.isSome_iff_exists.mp q
theorem K8 {CX:Qi} {P:bR} {w:du} {K:ag} {mg:Str->Option Value} {base:Heap} {N ps:List Str} {qual:Str} {scope:Scope} {f:Addr} {cd:Value} {A:cG} {outer:List Env} {s s1:ao} {H:Hp} {E:XK} {us:List Value} {vs:List V}
  (S:jS N ps scope) (hd:A.handled=none) (e0:HB P w K mg base A outer s H) (hl:vs.length=ps.length) (r:b8 vs us)
  (x:InCallC s s.heap.objs.size (bindL (yY qual scope s.heap.objs.size f cd).kindOf (ps.zip us) λ_=>none) (cO (s.heap.objs.size+1) scope.names []) (bindC (yY qual scope s.heap.objs.size f cd).kindOf (ps.zip us) λ_=>none) s1):
  bG (oF CX P w K mg base N qual scope f cd A outer s H E) [] (jm N vs) H s1:=by
 have hpl:ps.length<=N.length:=by have:=congrArg h9 S.pre;rw[aA]at this;lia
 obtain⟨h1,tk,rfl,hk⟩:=x.done
 have noA:∀b:Addr,b∉(oF CX P w K mg base N qual scope f cd A outer s H E).ex:=λb z=>absurd (show b∈([]:List Addr)from z) (by simp)
 refine⟨⟨e0.mod,S.kind,rfl,rfl,aO _,λy z c h1 h2=>?_,λy hy=>?_,λy c _ h=>?_,λ_=>hd,cG.frames_deeper e0.frames,.inr ⟨rfl,rfl⟩,λb z=>absurd z (noA b),e0.bs,e0.bsz,λb _ _=>noA b,λb z=>absurd z (noA b),e0.funs,e0.frf⟩,
  rfl,e0.bare,Un.kept hk,⟨_,x.toInCall.ns,λi y v h1 h2 h3=>?_⟩,λy c h=>⟨_,x.cell y c h⟩,e0.hok.fresh (aO _),λy c h=>?_,λp hp=>absurd (show p∈([]:List (Addr×Obj))from hp) (by simp),e0.hok.kept hk,?_⟩
 ·exact name_of_addr x.apart (bN h1) (bN h2)
 ·have hy:scope.names.lookup y=some .cell\/scope.names.lookup y=some .free:=hy
  rcases hy with hy|hy
  ·exact Eh hy
  ·exact absurd rfl (S.nofree _ (bN hy))
 ·exact Gb (x.above y c (bN h))
 ·have hi:i<vs.length:=by
   unfold jm at h2
   by_cases hi:i<vs.length
   ·exact hi
   ·rw[cM (by simpa using hi)]at h2
    rw[jN]at h2
    split at h2<;>cases h2
  have ha:vs[i]? =some v:=by
   unfold jm at h2
   rw[dD (by simpa using hi),aE]at h2
   cases e:vs[i]?with
   |none=>rw[e]at h2;cases h2
   |some a=>rw[e]at h2;cases h2;rfl
  obtain⟨u,hu,rv⟩:=r.get ha
  have hp:ps[i]? =some y:=by
   rw[<-S.pre,oi (by lia)];exact h1
  have ndP:ps.Nodup:=by rw[<-S.pre];exact S.nd.sublist (List.take_sublist _ _)
  refine⟨u,rv,?_⟩
  rcases S.par y (bJ hp)with k|k
  ·exact .inl ⟨k,Cg ndP hp hu k⟩
  ·obtain⟨c,e⟩:=Eh (n:=s.heap.objs.size+1) k
   refine .inr ⟨.inl k,c,e,?_⟩
   have q:=x.cell y c e
   rw[B7 ndP hp hu (by show scope.names.lookup y≠_;rw[k];decide)]at q
   exact q
 ·exact e0.hok.fresh (Gb (x.above y c (bN h)))
 ·unfold jm
  show _=N.length
  rw[aj,ah,aP]
  lia
theorem RF {CX:Qi} {P:bR} {w:du} {K:ag} {mg:Str->Option Value} {base:Heap} {k:Nat} {f:Addr} {name qual:Str} {params:Arguments} {body:List Stmt} {scope:Scope} {dV kV doc pm mw ct oc:Value} {an od:Option Addr}
  {He:Array (Option Value)} {N ps:List Str} {sp:Sp} (lk:K.lookup f=some ⟨oc,od,.func (eX name qual params body scope dV kV doc pm an mw ct),He⟩) (Ir:jO K mw qual=true) (S:jS N ps scope)
  (len:∀vs H Q E,sp vs H Q E->vs.length=ps.length)
  (ND:∀(A:cG) (outer:List Env) (s:ao) (H:Hp) (vs:List V) (Q:VK) (E:XK),lE k (A.deeper (yY qual scope s.heap.objs.size f mw))->sp vs H Q E->
   ∃t,B8 (oF CX P w K mg base N qual scope f mw A outer s H E) body t/\t {nx:=λ_ H'=>Q .non H',rt:=Q} (jm N vs) H):
  mv P w K mg base CX (k+1) f (eX name qual params body scope dV kV doc pm an mw ct) ps sp:=by
 refine⟨len,λA outer s H args us vs Q E hr e0 hb r SM=>?_⟩
 have hl:=len _ _ _ _ SM
 have KX:K.In s.heap:=e0.mod.kin.keeps λb o e=>(e0.bs b o e).1
 have lim:s.heap.NoLimit:=e0.mod.nolimit.keeps λb o e=>(e0.bs b o e).1
 have W8:∀y∈ps.zip us,scope.names.lookup y.1=some .local\/(scope.names.lookup y.1=some .cell/\((cO (s.heap.objs.size+1) scope.names []).lookup y.1).isSome=true):=λ⟨n,v⟩ hy=>by
  rcases S.par n (jG hy).1 with q|q
  ·exact .inl q
  ·exact .inr ⟨q,CJ _ _ _ (.inl q)⟩
 refine codeAny_call_function hr.depth (KX _ _ lk) rfl S.co S.gen rfl (PySem.W.codeRec_of KX Ir) (hb _ _ _ _ ?_)
 refine wpAny_newFunctionEnv_cells S.kind W8 λenv he s1 x=>?_
 subst he
 refine⟨lim.keeps x.toInCall.keep,codeAny_func ?_⟩
 obtain⟨t,ht,hq⟩:=ND A outer s H vs Q E (hr.deeper _) SM
 have I:bG (oF CX P w K mg base N qual scope f mw A outer s H E) [] (jm N vs) H s1:=K8 S hr.hd e0 hl r x
 refine wpAny_mono (ht [] s1 (jm N vs) H _ I hq) (λfl s' hs=>?_) λe s' hs=>hs
 have fin:∀{σ':St} {H':Hp} {v:V} {u:Value},bG (oF CX P w K mg base N qual scope f mw A outer s H E) [] σ' H' s'->dQ v u->Q v H'->CE outer P w H s Q u s':=
  λ{σ' H' v u} J rv q=>⟨v,H',J.os,J.bare,J.base,J.hok,rv,q⟩
 cases fl with
 |ret u=>
  obtain⟨v,σ',H',J,rv,q⟩:=hs
  exact fin J rv q
 |next=>
  obtain⟨σ',H',J,q⟩:=hs
  exact fin (v:=V.non) (u:=cK) J rfl q
 |brk=>
  obtain⟨_,_,_,q⟩:=hs
  exact eW q
 |cont=>
  obtain⟨_,_,_,q⟩:=hs
  exact eW q
end L2
namespace L2
open PySem PySem.Spec PyProof.Rows
section
variable {X:Cx} {x:Str} {p pos:Pos} {e:aS} {es:List aS} {t:TA} {id T:String} {r:List V->Hp->VK->Prop}
def tCB (r:List V->Hp->VK->Prop) (t:TA):TE:=λσ H Q=>t σ H λvs H1=>r vs H1 Q
theorem MF (hc:pS X (.builtin id) r) (hg:Gl X x) (hm:X.mg x=none) (hv:dv x=some (.builtin id)) (ha:PA X (e::es) t) (hn:x≠"__name__":=by decide) (og:(x==("__debug__":Str))=false:=by decide)
  (he:ak (e::es) X.env=(false,eval e X.env)::ak es X.env:=by rfl) (hpl:(cw pos (ak es X.env)).any (·.1)=false:=by rfl):PE X (.Call (.Name x p) (e::es) [] pos) (tCB r t):=by
 intro pins s σ H Q I h
 refine iF (oG I hg hm hv ?_ hn og)
 exact PyProof.Rows.callWith_builtin1 (fb (ha pos pins s σ H _ I h) λus s1 ⟨vs,H1,I1,r1,q1⟩=>hc pins s1 σ H1 vs us Q I1 r1 q1) he hpl
theorem Kp (hc:pS X (.type T) r) (hg:Gl X x) (hm:X.mg x=none) (hv:dv x=some (.type T)) (ha:PA X (e::es) t) (hn:x≠"__name__":=by decide) (og:(x==("__debug__":Str))=false:=by decide)
  (he:ak (e::es) X.env=(false,eval e X.env)::ak es X.env:=by rfl) (hpl:(cw pos (ak es X.env)).any (·.1)=false:=by rfl):PE X (.Call (.Name x p) (e::es) [] pos) (tCB r t):=by
 intro pins s σ H Q I h
 refine iF (oG I hg hm hv ?_ hn og)
 exact cx (fb (ha pos pins s σ H _ I h) λus s1 ⟨vs,H1,I1,r1,q1⟩=>hc pins s1 σ H1 vs us Q I1 r1 q1) he hpl
end
end L2
namespace HT
open PySem PyProof.Rows
section
variable {prog:bR} {w:du} {A:cG} {E:Value->ao->Prop} {s:ao}
def Dt (n d:Nat):Option Int->Nat
 |none=>d
 |some v=>if v<0 then (v+(n:Int)).toNat else min v.toNat n
theorem De (n d k:Nat):Dt n d (some (k:Int))=min k n:=by
 show(if (k:Int)<0 then ((k:Int)+(n:Int)).toNat else min (k:Int).toNat n)=min k n
 rw[if_neg (by lia),bC]
end
end HT
namespace L2
open PySem PySem.Spec PyProof.Rows
abbrev TO:=St->Hp->(Option Int->Hp->Prop)->Prop
def PO (X:Cx) (e:Option aS) (t:TO):Prop:=
 ∀(pins:List (Addr×Obj)) (s:ao) (σ:St) (H:Hp) (Q:Option Int->Hp->Prop),bG X pins σ H s->t σ H Q->
  wpAny (aU X.prog X.w) X.A (evalPart e X.env) (λu s'=>∃o H',bG X pins σ H' s'/\IsPart u o/\Q o H') X.xe s
def P1:TO:=λ_ H Q=>Q none H
def Wt (t:TE):TO:=λσ H Q=>t σ H λx H1=>∃i,x= .int i/\Q (some i) H1
section
variable {X:Cx} {e:aS} {te:TE} {lo hi:Option aS} {tl th:TO} {pos p2:Pos}
theorem vd:PO X none P1:=by
 intro pins s σ H Q I h
 rw[JC]
 exact wpAny_pure ⟨none,H,I,.none,h⟩
theorem vh (h:PE X e te):PO X (some e) (Wt te):=by
 intro pins s σ H Q I hw
 rw[evalPart_some]
 refine fb (h pins s σ H _ I hw) λu s1 ⟨x,H1,I1,r1,q1⟩=>?_
 obtain⟨i,rfl,q⟩:=q1
 obtain⟨t,rfl⟩:=r1
 exact⟨some i,H1,I1,.int i t,q⟩
def SlR (X:Cx) (r:V->Option Int->Option Int->Hp->VK->Prop):Prop:=
 ∀(pins:List (Addr×Obj)) (s:ao) (σ:St) (H:Hp) (x:V) (v vl vu:Value) (lo hi:Option Int) (sl:Addr) (Q:VK),bG X pins σ H s->dQ x v->s.heap.IsSliceOf sl vl vu .none->IsPart vl lo->IsPart vu hi->r x lo hi H Q->
  ∃T id,typeLookup (.type T) "__getitem__"=pure (some (.builtin id))/\s.TypeIs v T/\wpAny (aU X.prog X.w) X.A (getItem v (.ref sl)) (EP X pins σ Q) X.xe s
def tSl (r:V->Option Int->Option Int->Hp->VK->Prop) (te:TE) (tl th:TO):TE:=λσ H Q=>te σ H λx H1=>tl σ H1 λl H2=>th σ H2 λu H3=>r x l u H3 Q
theorem zx {r:V->Option Int->Option Int->Hp->VK->Prop} (hr:SlR X r) (he:PE X e te) (hl:PO X lo tl) (hu:PO X hi th):PE X (.Subscript e (.Slice lo hi none p2) pos) (tSl r te tl th):=by
 intro pins s σ H Q I h
 refine Subscript_ (fb (he pins s σ H _ I h) λv s1 ⟨x,H1,I1,r1,q1⟩=>?_)
 refine D0 (fb (hl pins s1 σ H1 _ I1 q1) λvl s2 ⟨l,H2,I2,pl,q2⟩=>fb (hu pins s2 σ H2 _ I2 q2) λvu s3 ⟨u,H3,I3,pu,q3⟩=>?_)
 rw[JC]
 refine wpAny_pure ?_
 have I4:bG X pins σ H3 {s3 with heap:=s3.heap.push {cls:= .type "slice",data:= .fields #[vl,vu,.none]}}:=I3.kept (t':=s3.toks) λb ob q=>au _ q
 obtain⟨T,id,hT,ht,hg⟩:=hr pins {s3 with heap:=s3.heap.push {cls:= .type "slice",data:= .fields #[vl,vu,.none]}} σ H3 x v vl vu l u s3.heap.objs.size Q I4 r1 (kF ..) pl pu q3
 show wpAny (aU X.prog X.w) X.A (subscriptTail e (.Slice lo hi none p2) v (.ref s3.heap.objs.size)) (EP X pins σ Q) X.xe {s3 with heap:=s3.heap.push {cls:= .type "slice",data:= .fields #[vl,vu,.none]}}
 exact tail_any (ops:=[.ref s3.heap.objs.size,v]) ht hT hg (by with_unfolding_all rfl)
def Kz (xs:List V) (lo hi:Option Int):List V:=(xs.drop (HT.Dt xs.length 0 lo)).take (HT.Dt xs.length xs.length hi-HT.Dt xs.length 0 lo)
theorem Ei (xs:List V) (lo hi:Option Int):(Kz xs lo hi).length<=xs.length:=by
 unfold Kz
 rw[aA,ba]
 omega
end
end L2
namespace L2
open PySem PySem.Spec PyProof.Rows
def M0 (n:Nat) (i:Int):Option Nat:=if 0<=i then (if i<n then some i.toNat else none)else if -(n:Int)<=i then some (i+n).toNat else none
def atI {α:Type} (xs:List α) (i:Int):Option α:=(M0 xs.length i).bind λj=>xs[j]?
theorem IJ {n:Nat} {i:Int} {j:Nat} (h:M0 n i=some j):seqIndex? i n=some j/\j<n/\-(n:Int)<=i/\i<n:=by
 unfold M0 at h
 by_cases h0:0<=i
 ·rw[if_pos h0]at h
  by_cases h1:i<n
  ·rw[if_pos h1]at h
   have e:i.toNat=j:=bo h
   exact⟨by rw[OW h0 h1,e],by lia,by lia,h1⟩
  ·rw[if_neg h1]at h;cases h
 ·rw[if_neg h0]at h
  by_cases h1: -(n:Int)<=i
  ·rw[if_pos h1]at h
   have e:(i+n).toNat=j:=bo h
   exact⟨by rw[LB (by lia) h1,e],by lia,h1,by lia⟩
  ·rw[if_neg h1]at h;cases h
theorem ID {α:Type} {xs:List α} {i:Int} {v:α} (h:atI xs i=some v):∃j,seqIndex? i xs.length=some j/\xs[j]? =some v/\j<xs.length/\-(xs.length:Int)<=i/\i<xs.length:=by
 unfold atI at h
 cases e:M0 xs.length i with
 |none=>rw[e]at h;cases h
 |some j=>
  rw[e]at h
  obtain⟨h1,h2,h3,h4⟩:=IJ e
  exact⟨j,h1,h,h2,h3,h4⟩
theorem vG {α:Type} {xs:List α} {j:Nat} {v:α} (h:xs[j]? =some v):atI xs (j:Int)=some v:=by
 have hj:j<xs.length:=(bh.mp h).1
 have e:M0 xs.length (j:Int)=some j:=by
  unfold M0
  rw[if_pos (by lia),if_pos (by lia)];simp
 unfold atI;rw[e];exact h
def lG (b:aS):Prop:=∀o i,subscripted b false o i=operate [o,i] (getItem o i)
def Xr (X:Cx) (r:R2):Prop:=
 ∀(value slice:aS) (pins:List (Addr×Obj)) (s:ao) (σ:St) (H:Hp) (x y:V) (v u:Value) (Q:VK),bG X pins σ H s->dQ x v->dQ y u->r x y H Q->
  subscripted slice false v u=operate [v,u] (getItem v u)->wpAny (aU X.prog X.w) X.A (subscriptTail value slice v u) (EP X pins σ Q) X.xe s
def Xn (X:Cx) (id:String) (r:V->List V->Hp->VK->Prop):Prop:=
 ∀(pins:List (Addr×Obj)) (s:ao) (σ:St) (H:Hp) (x:V) (xs:List V) (v:Value) (us:List Value) (Q:VK),bG X pins σ H s->dQ x v->b8 xs us->r x xs H Q->
  wpAny (aU X.prog X.w) X.A (call (.builtin id) (v::us)) (EP X pins σ Q) X.xe s
section
variable {X:Cx} {a b:aS} {ta tb:TE} {pos:Pos}
theorem Xb {r:R2} (hr:Xr X r) (ha:PE X a ta) (hb:PE X b tb) (hs:lG b):PE X (.Subscript a b pos) (XH r ta tb):=by
 intro pins s σ H Q I h
 exact Subscript_ (T8 ha hb I h λv u s2 x y H2 I2 rx ry q=>hr a b pins s2 σ H2 x y v u Q I2 rx ry q (hs _ _))
def ZM (K:ag):R2:=λx y H Q=>∃p xs i v,x= .ref p/\y= .int i/\iL K H p xs/\atI xs i=some v/\Q v H
def Yw (K:ag):R2:=λx y H Q=>∃p xs i v,x= .ref p/\y= .int i/\o8 K H p xs/\atI xs i=some v/\Q v H
theorem DA:Xr X (ZM X.K):=by
 intro value slice pins s σ H x y v u Q I rx ry h hs
 obtain⟨p,xs,i,z,rfl,rfl,hq,he,q⟩:=h
 cases rx
 obtain⟨t,rfl⟩:=ry
 obtain⟨bW,r,pl,hz⟩:=I.list hq
 obtain⟨j,h1,h2,h3,h4,h5⟩:=ID he
 obtain⟨w,ew,Zt⟩:=r.get h2
 have hl:=r.length
 have hn:=C4
 have fin:EP X pins σ Q w s:=⟨z,H,I,Zt,q⟩
 by_cases h0:0<=i
 ·have hj:i.toNat=j:=by
   rw[OW h0 h5]at h1
   exact bo h1
  exact item_listR pl.isList h0 (by lia) (by rw[hj];simpa using ew) fin hs
 ·have hj:(i+(bW.toArray.size:Int)).toNat=j:=by
   rw[LB (by lia) h4]at h1
   rw[aG,<-hl]
   exact bo h1
  exact LC (x:=w) pl.isList.typeIs qc.lookup
   (wpAny_getItem_list_neg (Q:=λr s'=>r=w/\EP X pins σ Q r s') pl.isList (by lia) (by rw[aG]<;>lia) (by lia) (by rw[hj];simpa using ew) ⟨rfl,fin⟩) hs
theorem Uv:Xr X (Yw X.K):=by
 intro value slice pins s σ H x y v u Q I rx ry h hs
 obtain⟨p,xs,i,z,rfl,rfl,hq,he,q⟩:=h
 cases rx
 obtain⟨t,rfl⟩:=ry
 obtain⟨bW,r,pl,hz⟩:=I.tuple hq
 obtain⟨j,h1,h2,h3,h4,h5⟩:=ID he
 obtain⟨w,ew,Zt⟩:=r.get h2
 have hl:=r.length
 have hn:=C4
 have fin:EP X pins σ Q w s:=⟨z,H,I,Zt,q⟩
 exact LC (x:=w) pl.typeIs slot_tuple_getitem.lookup
  (getItem_tuple (j:=j) (Q:=λr s'=>r=w/\EP X pins σ Q r s') pl (by lia) (by lia) (by rw[aG,<-hl];exact h1) (by simpa using ew) ⟨rfl,fin⟩) hs
theorem Hw (bW:List Value) (n j:Nat) (u:Value):mY (·.setIfInBounds j u) {cls:= .type "list",data:= .seq bW.toArray n}={cls:= .type "list",data:= .seq (bW.set j u).toArray n}:=by
 simp[mY]
theorem bG.lst {pins:List (Addr×Obj)} {σ:St} {H:Hp} {s:ao} {p:Addr} {xs:List V} (I:bG X pins σ H s) (h:H p=some (.lst xs)):
  ∃(bW:List Value) (n:Nat),b8 xs bW/\s.heap.get? p=some {cls:= .type "list",data:= .seq bW.toArray n}/\xs.length<=sizeLine:=by
 obtain⟨z,bW,n,r,e⟩:=I.hok p _ h
 exact⟨bW,n,r,e,z⟩
theorem bG.lstUpd {pins:List (Addr×Obj)} {σ:St} {H:Hp} {s:ao} {p:Addr} {xs ys:List V} {bW its':List Value} {n n':Nat} {f:Obj->Obj} (I:bG X pins σ H s) (h:H p=some (.lst xs))
  (ho:s.heap.get? p=some {cls:= .type "list",data:= .seq bW.toArray n}) (hf:f {cls:= .type "list",data:= .seq bW.toArray n}={cls:= .type "list",data:= .seq its'.toArray n'}) (r:b8 ys its') (hz:ys.length<=sizeLine) (t:Nat):
  bG X pins σ (fC H p (.lst ys)) {s with heap:=s.heap.update p f,toks:=t}:=by
 have e:(s.heap.update p f).get? p=some {cls:= .type "list",data:= .seq its'.toArray n'}:=by
  rw[fX f ho (by rw[hf]<;>rfl),hf]
 refine I.write (x:=p) (e:=p) (by rw[h];trivial) (.inl rfl) (λb u hb q=>(kg _ _ (iy hb)).trans q) ⟨_,e⟩ ?_
 exact⟨hz,its',n',r,e⟩
def W9:V->V->V->Hp->(Hp->Prop)->Prop:=λo i v H Q=>∃p xs k j,o= .ref p/\i= .int k/\H p=some (.lst xs)/\M0 xs.length k=some j/\Q (fC H p (.lst (xs.set j v)))
theorem MH:WA X W9:=by
 intro pins s σ H o i v ov iv u Q I ro ri rv h
 obtain⟨p,xs,k,j,rfl,rfl,hp,hj,q⟩:=h
 cases ro
 obtain⟨t,rfl⟩:=ri
 obtain⟨bW,n,r,ho,hz⟩:=I.lst hp
 obtain⟨h1,h2,h3,h4⟩:=IJ hj
 have hl:=r.length
 have hn:=C4
 have I':bG X pins σ (fC H p (.lst (xs.set j v))) {s with heap:=s.heap.update p (mY (·.setIfInBounds j u))}:=
  I.lstUpd hp ho (Hw bW n j u) (r.set rv j) (by rw[eL];exact hz) s.toks
 by_cases h0:0<=k
 ·have hk:k.toNat=j:=by
   rw[OW h0 h4]at h1
   exact bo h1
  exact PySem.W.ki_setAt ho h0 (by lia) (by rw[aG,<-hl];exact h4) (by rw[hk];exact⟨_,I',q⟩)
 ·have hk:(k+(bW.toArray.size:Int)).toNat=j:=by
   rw[LB (by lia) h3]at h1
   rw[aG,<-hl]
   exact bo h1
  exact PySem.W.ki_setBack ho (by lia) (by rw[aG,<-hl];exact h3) (by lia) (by rw[hk];exact⟨_,I',q⟩)
theorem DB (lo hi:Option Int) (n:Nat):(e9 lo hi none n).1=((HT.Dt n 0 lo:Nat):Int)/\(e9 lo hi none n).2.1=((HT.Dt n n hi:Nat):Int)/\(e9 lo hi none n).2.2=1:=by
 refine⟨?_,?_,rfl⟩
 ·cases lo with
  |none=>simp[e9,HT.Dt]
  |some i=>
   simp only[e9,HT.Dt,xj,show(1:Int)>0 by decide,if_true]
   by_cases h:i<0
   ·simp only[h,if_true]<;>lia
   ·simp only[h,if_false]<;>lia
 ·cases hi with
  |none=>simp[e9,HT.Dt]
  |some i=>
   simp only[e9,HT.Dt,xj,show(1:Int)>0 by decide,if_true]
   by_cases h:i<0
   ·simp only[h,if_true]<;>lia
   ·simp only[h,if_false]<;>lia
theorem Bk (bW:List Value) (lo hi:Option Int):xk bW.toArray lo hi none=((bW.drop (HT.Dt bW.length 0 lo)).take (HT.Dt bW.length bW.length hi-HT.Dt bW.length 0 lo)).toArray:=by
 obtain⟨h1,h2,h3⟩:=DB lo hi bW.toArray.size
 unfold xk
 rw[h1,h2,h3]
 simp only[sliceRange_one,pick_run,aG]<;>rfl
def aaF (K:ag):V->Option Int->Option Int->Hp->VK->Prop:=λx lo hi H Q=>∃a xs,x= .ref a/\iL K H a xs/\∀p,H p=none->Q (.ref p) (fC H p (.lst (Kz xs lo hi)))
theorem C3:SlR X (aaF X.K):=by
 intro pins s σ H x v vl vu lo hi sl Q I rx hs pl pu h
 obtain⟨a,xs,rfl,hx,q⟩:=h
 cases rx
 obtain⟨bW,r,ht,hz⟩:=I.list hx
 have hlen:=r.length
 refine⟨"list",_,qc.lookup,ht.isList.typeIs,?_⟩
 refine qt ht.isList hs pl pu .none (by simp) ?_ (by rw[aG]<;>lia)
 rw[Bk,<-hlen]
 refine⟨.ref s.heap.objs.size,_,I.laid (t':=s.toks) (o:= .lst (Kz xs lo hi)) (λb ob q=>au _ q) (aO _) ?_,rfl,q _ (I.hok.fresh (aO _))⟩
 exact⟨dR (Ei xs lo hi) hz,_,0,(r.drop (HT.Dt xs.length 0 lo)).take (HT.Dt xs.length xs.length hi-HT.Dt xs.length 0 lo),aK _ rfl⟩
def zL:V->Bool
 | .non=>true
 | .bl _=>true
 | .int _=>true
 | .str _=>true
 |_=>false
def Uc:V->V->Bool
 | .non,.non=>true
 | .bl a,.bl b=>a==b
 | .bl a,.int b=>(if a then 1 else 0)==b
 | .int a,.bl b=>a==(if b then 1 else 0)
 | .int a,.int b=>a==b
 | .str a,.str b=>a==b
 |_,_=>false
theorem SF {A:cG} {s:ao} {y x:V} {u v:Value} (ry:dQ y u) (rx:dQ x v) (fy:zL y=true) (fx:zL x=true):eB A s u v (Uc y x):=by
 cases y with
 |non=>
  cases ry
  cases x with
  |non=>cases rx;exact eB.same _
  |bl b=>cases rx;exact eB.none_bool b
  |int b=>obtain⟨t,rfl⟩:=rx;exact eB.none_int b t
  |str b=>obtain⟨t,rfl⟩:=rx;exact eB.none_str b t
  |_=>exact absurd (show false=true from fx) aw
 |bl a=>
  cases ry
  cases x with
  |non=>cases rx;exact eB.bool_none a
  |bl b=>cases rx;exact eB.bool_bool a b
  |int b=>obtain⟨t,rfl⟩:=rx;exact eB.bool_int a b t
  |str b=>obtain⟨t,rfl⟩:=rx;exact eB.bool_str a b t
  |_=>exact absurd (show false=true from fx) aw
 |int a=>
  obtain⟨t',rfl⟩:=ry
  cases x with
  |non=>cases rx;exact eB.int_none a t'
  |bl b=>cases rx;exact eB.int_bool a t' b
  |int b=>obtain⟨t,rfl⟩:=rx;exact eB.int_int a t' b t
  |str b=>obtain⟨t,rfl⟩:=rx;exact DX a t' b t
  |_=>exact absurd (show false=true from fx) aw
 |str a=>
  obtain⟨t',rfl⟩:=ry
  cases x with
  |non=>cases rx;exact eB.str_none a t'
  |bl b=>cases rx;exact eB.str_bool a t' b
  |int b=>obtain⟨t,rfl⟩:=rx;exact DY a t' b t
  |str b=>obtain⟨t,rfl⟩:=rx;exact eB.str_str a t' b t
  |_=>exact absurd (show false=true from fx) aw
 |_=>exact absurd (show false=true from fy) aw
def Vf (x:V) (u:Value):Bool:=match u with
 | .none=>Uc .non x
 | .bool b=>Uc (.bl b) x
 | .int i _=>Uc (.int i) x
 | .str z _=>Uc (.str z) x
 |_=>false
theorem T4 {x y:V} {u:Value} (r:dQ y u) (f:zL y=true):Vf x u=Uc y x:=by
 cases y with
 |non=>cases r;rfl
 |bl b=>cases r;rfl
 |int i=>obtain⟨t,rfl⟩:=r;rfl
 |str z=>obtain⟨t,rfl⟩:=r;rfl
 |_=>exact absurd (show false=true from f) aw
theorem EO {A:cG} {s:ao} {x:V} {v:Value} (rx:dQ x v) (fx:zL x=true):∀{xs:List V} {us:List Value},b8 xs us->xs.all zL=true->∀u∈us,eB A s u v (Vf x u)
 |_,_,.nil,_=>λu hu=>by cases hu
 |y::xs,u::us,.cons r t,f=>λu' hu=>by
  rw[D1,aH]at f
  rcases aB.mp hu with rfl|hu
  ·rw[T4 r f.1];exact SF r rx f.1 fx
  ·exact EO rx fx t f.2 u' hu
theorem oX:pS X (.builtin "len") (λxs H Q=>∃p ys,xs=[.ref p]/\(iL X.K H p ys\/o8 X.K H p ys)/\Q (.int ys.length) H):=by
 intro pins s σ H xs us Q I r h
 obtain⟨p,ys,rfl,hq,q⟩:=h
 obtain⟨u,rfl,rx⟩:=Ic r
 cases rx
 have hn:=C4
 rcases hq with hq|hq
 ·obtain⟨bW,r',pl,hz⟩:=I.list hq
  have hlen:=r'.length
  exact Calls.call_len_list pl.isList (by simp only[aG]<;>omega) ⟨.int ys.length,H,I.tok _,⟨s.toks+1,by rw[aG,hlen]⟩,q⟩
 ·obtain⟨bW,r',pl,hz⟩:=I.tuple hq
  have hlen:=r'.length
  exact len_tuple pl (by simp only[aG]<;>omega) ⟨.int ys.length,H,I.tok _,⟨s.toks+1,by rw[aG,hlen]⟩,q⟩
theorem uW:pS X (.type "list") (λxs H Q=>∃p ys,xs=[.ref p]/\(iL X.K H p ys\/o8 X.K H p ys)/\∀l,H l=none->Q (.ref l) (fC H l (.lst ys))):=by
 intro pins s σ H xs us Q I r h
 obtain⟨p,ys,rfl,hq,q⟩:=h
 obtain⟨u,rfl,rx⟩:=Ic r
 cases rx
 have fin:∀(bW:List Value),b8 ys bW->ys.length<=sizeLine->∀(h':Heap) (c':Nat),(∀b o',s.heap.get? b=some o'->h'.get? b=some o')->
   h'.get? s.heap.objs.size=some {cls:= .type "list",dict:=none,data:= .seq bW.toArray c',slots:=#[]}->EP X pins σ Q (.ref s.heap.objs.size) {s with heap:=h'}:=λbW r' hz h' c' kp e=>
  ⟨.ref s.heap.objs.size,_,I.laid (t':=s.toks) kp (aO _) (show kW X.prog X.w _ h' _ (.lst ys)from ⟨hz,bW,c',r',e⟩),rfl,q _ (I.hok.fresh (aO _))⟩
 rcases hq with hq|hq
 ·obtain⟨bW,r',pl,hz⟩:=I.list hq
  have hlen:=r'.length
  obtain⟨o,ho,hc,n,hd⟩:=pl.isList
  exact call_list_seq p (.inl rfl) ho hc hd (λh' c' kp e=>fin bW r' hz h' c' kp e) (by simp only[aG]<;>lia)
 ·obtain⟨bW,r',pl,hz⟩:=I.tuple hq
  have hlen:=r'.length
  obtain⟨o,ho,hc,n,hd⟩:=pl
  exact call_list_seq p (.inr rfl) ho hc hd (λh' c' kp e=>fin bW r' hz h' c' kp e) (by simp only[aG]<;>lia)
def YE (K:ag) (T:String) (x:V) (H:Hp):Prop:=match x with
 | .str _=>T="str"
 | .int _=>T="int"
 | .ref p=>(T="list"/\∃xs,iL K H p xs)\/(T="tuple"/\∃o,K.lookup p=some o/\o.cls= .type "tuple"/\o.dict=none)\/
   (T="dict"/\((∃EJ,H p=some (.dK EJ))\/∃EJ,H p=some (.dT EJ)))\/(T="set"/\∃S n,H p=some (.set S n))
 |_=>False
theorem Oy {pins:List (Addr×Obj)} {σ:St} {H:Hp} {s:ao} {T:String} {x:V} {v:Value} (I:bG X pins σ H s) (r:dQ x v) (ty:YE X.K T x H):
  s.TypeIs v T/\∀a,v= .ref a->∃ob,s.heap.get? a=some ob/\ob.dict=none:=by
 cases x with
 |str z=>
  obtain⟨t,rfl⟩:=r
  cases (show T="str" from ty)
  exact⟨typeIs_str s z t,λ_ e=>nomatch e⟩
 |int i=>
  obtain⟨t,rfl⟩:=r
  cases (show T="int" from ty)
  exact⟨typeIs_int s i t,λ_ e=>nomatch e⟩
 |ref p=>
  cases r
  rcases ty with ⟨rfl,xs,hq⟩|⟨rfl,o,hk,hc,hd⟩|⟨rfl,hk⟩|⟨rfl,S,n,hk⟩
  ·obtain⟨bW,_,pl,_⟩:=I.list hq
   refine⟨pl.isList.typeIs,λa e=>?_⟩
   cases e
   obtain⟨o,n,e,c,hd,_⟩:=pl
   exact⟨o,e,hd⟩
  ·refine⟨⟨o,I.kIn p o hk,hc⟩,λa e=>?_⟩
   cases e
   exact⟨o,I.kIn _ o hk,hd⟩
  ·have z:∃o,s.heap.get? p=some o/\o.ExactDict:=by
    rcases hk with ⟨EJ,hk⟩|⟨EJ,hk⟩
    ·obtain⟨_,_,_,_,o,_,_,e,ex,_⟩:=I.hok p _ hk
     exact⟨o,e,ex⟩
    ·obtain⟨_,_,_,_,o,_,_,e,ex,_⟩:=I.hok p _ hk
     exact⟨o,e,ex⟩
   obtain⟨o,e,ex⟩:=z
   refine⟨⟨o,e,ex.1⟩,λa e2=>?_⟩
   cases e2
   exact⟨o,e,ex.2.1⟩
  ·obtain⟨o,_,_,_,e,ex,_⟩:=I.hok p _ hk
   refine⟨⟨o,e,ex.1⟩,λa e2=>?_⟩
   cases e2
   exact⟨o,e,ex.2.1⟩
 |_=>exact eW ty
def ZE (K:ag) (T:String) (r:V->List V->Hp->VK->Prop) (to:TE):TE:=λσ H Q=>to σ H λx H1=>YE K T x H1/\r x [] H1 Q
def tBM (K:ag) (T:String) (r:V->List V->Hp->VK->Prop) (to:TE) (t:TA):TE:=λσ H Q=>to σ H λx H1=>YE K T x H1/\t σ H1 λxs H2=>r x xs H2 Q
variable {o e:aS} {es:List aS} {to:TE} {t:TA} {name:Str} {apos iJ:Pos} {T id:String} {r:V->List V->Hp->VK->Prop}
theorem SN (pa:PlainAttrs T) (slot:Slot T name id) (Zb:typeOf (.builtin id)=pure (.type "method_descriptor")) (hm:Xn X id r) (ho:PE X o to)
  (qJ:fu o name X.env (eval o X.env)=eval o X.env:=by rfl) (qG:(apos.endLine==iJ.line)=true:=by rfl):PE X (.Call (.Attribute o name apos) [] [] iJ) (ZE X.K T r to):=by
 intro pins s σ H Q I h
 refine wpAny_Call_method0_late qJ qG (fb (ho pins s σ H _ I h) λv s1 ⟨x,H1,I1,r1,ty,q1⟩=>?_)
 obtain⟨h1,h2⟩:=Oy I1 r1 ty
 exact⟨T,id,pa,slot,Zb,h1,h2,Ea rfl (PySem.evalArgs_none (hm pins s1 σ H1 x [] v [] Q I1 r1 .nil q1))⟩
theorem Nk (pa:PlainAttrs T) (slot:Slot T name id) (Zb:typeOf (.builtin id)=pure (.type "method_descriptor")) (hm:Xn X id r) (ho:PE X o to) (ha:PA X (e::es) t)
  (qJ:fu o name X.env (eval o X.env)=eval o X.env:=by rfl)
  (Hn:((cw iJ (ak (e::es) X.env)).all (λx=>!x.1)&&(iV iJ (e8 [] X.env)).all (λx=>x.1.isSome)
   &&decide ((e::es).length+([]:List xm).length+(if ([]:List xm).isEmpty then 0 else 1)<30))=true:=by rfl)
  (qG:(apos.endLine==iJ.line)=true:=by rfl) (hs:ak (e::es) X.env=(false,eval e X.env)::ak es X.env:=by rfl) (uo:(cw iJ (ak es X.env)).any (·.1)=false:=by rfl):
  PE X (.Call (.Attribute o name apos) (e::es) [] iJ) (tBM X.K T r to t):=by
 intro pins s σ H Q I h
 refine wpAny_Call_method_late qJ Hn qG rfl (fb (ho pins s σ H _ I h) λv s1 ⟨x,H1,I1,r1,ty,q1⟩=>?_)
 obtain⟨h1,h2⟩:=Oy I1 r1 ty
 refine⟨T,id,pa,slot,Zb,h1,h2,?_⟩
 have hA:=ha iJ pins s1 σ H1 _ I1 q1
 rw[hs]at hA⊢
 refine Ea (by show(false||(cw iJ (ak es X.env)).any (·.1))=false;rw[uo]<;>rfl) (Ge ?_)
 exact fb hA λus s2 ⟨vs,H2,I2,r2,q2⟩=>hm pins s2 σ H2 x vs v us Q I2 r1 r2 q2
end
end L2
namespace L2
open PySem PySem.Spec PyProof.Rows
def MtM (X:Cx) (id:String) (r:V->List V->Hp->VK->Prop):Prop:=
 ∀(pins:List (Addr×Obj)) (s:ao) (σ:St) (H:Hp) (x:V) (xs:List V) (v:Value) (us:List Value) (Q:VK),bG X pins σ H s->dQ x v->b8 xs us->r x xs H Q->
  wpAny (aU X.prog X.w) X.A (call (.builtin id) (v::us)) (EP X pins σ Q) X.xe s
theorem b8.one:∀{x:V} {us:List Value},b8 [x] us->∃u,us=[u]/\dQ x u
 |_,_,.cons r .nil=>⟨_,rfl,r⟩
theorem b8.rep {xs:List V} {us:List Value} (h:b8 xs us):∀k:Nat,b8 (aq k xs).flatten (aq k us).flatten
 |0=> .nil
 |k+1=>by
  rw[eI,eI,ck,ck]
  exact b8.append h (b8.rep h k)
theorem BW (bW:List Value):∀(k:Nat) (acc:List Value),
  qd (λx1 x2=>x1++x2) acc.toArray (aq k bW.toArray)=(acc++(aq k bW).flatten).toArray
 |0,acc=>by simp
 |k+1,acc=>by
  have e:acc.toArray++bW.toArray=(acc++bW).toArray:=by simp
  have e2:(acc++bW)++(aq k bW).flatten=acc++(aq (k+1) bW).flatten:=by
   rw[eI,ck,bM]
  rw[<-e2,<-BW bW k (acc++bW),<-e,eI,eM]
section
variable {X:Cx} {pins:List (Addr×Obj)} {σ:St} {H:Hp} {s:ao} {l b:Addr} {xs ys zs:List V}
theorem bG.lset {bW its':List Value} {n:Nat} {f:Array Value->Array Value} {t':Nat} (I:bG X pins σ H s) (hH:H l=some (.lst xs))
  (e:s.heap.get? l=some {cls:= .type "list",data:= .seq bW.toArray n}) (hf:f bW.toArray=its'.toArray) (hv:b8 ys its') (hz:ys.length<=sizeLine):
  bG X pins σ (fC H l (.lst ys)) {s with heap:=s.heap.update l (mY f),toks:=t'}:=by
 have q:=PySem.IsL.update e f
 rw[hf]at q
 refine I.write (x:=l) (e:=l) (by rw[hH];exact trivial) (.inl rfl) (λb' u hb hu=>(kg s.heap (mY f) (iy hb)).trans hu) ⟨_,q⟩ ?_
 exact⟨hz,its',_,hv,q⟩
theorem bG.lnew {bW:List Value} {t':Nat} (I:bG X pins σ H s) (hv:b8 ys bW) (hz:ys.length<=sizeLine):
  bG X pins σ (fC H s.heap.objs.size (.lst ys)) {s with heap:=s.heap.push {cls:= .type "list",data:= .seq bW.toArray},toks:=t'}:=
 I.laid (λ_ _ q=>au _ q) (aO _) ⟨hz,bW,0,hv,aK _ rfl⟩
theorem bG.fresh (I:bG X pins σ H s):H s.heap.objs.size=none:=I.hok.fresh (aO _)
theorem bG.lstM (I:bG X pins σ H s) (hH:H l=some (.lst xs)):xs.length<=sizeLine/\∃(bW:List Value) (n:Nat),b8 xs bW/\xs.length=bW.length/\s.heap.get? l=some {cls:= .type "list",data:= .seq bW.toArray n}:=by
 obtain⟨z,bW,n,r,e⟩:=I.hok l _ hH
 exact⟨z,bW,n,r,r.length,e⟩
theorem vN {n:Nat} (h:n<=sizeLine):iQ n=false:=by
 unfold iQ
 exact decide_eq_false (by lia)
end
section
variable {X:Cx}
def Rk:V->List V->Hp->VK->Prop:=λx vs H Q=>∃l xs y,x= .ref l/\vs=[y]/\H l=some (.lst xs)/\xs.length<sizeLine/\Q .non (fC H l (.lst (xs++[y])))
theorem Kg:MtM X "list.append" Rk:=by
 intro pins s σ H x vs v us Q I rx rv h
 obtain⟨l,xs,y,rfl,rfl,hH,hz,q⟩:=h
 cases rx
 obtain⟨u,rfl,ru⟩:=rv.one
 obtain⟨z,bW,n,r,hl,e⟩:=I.lstM hH
 refine yZ F.slot_list_append ⟨_,e,rfl⟩ F.entry_list_append (F.args_list_append_2 _ _) (PySem.list_append l bW.toArray n u (by rw[aG];omega)) ⟨e,?_⟩
 refine⟨.non,_,I.lset (its':=bW++[u]) hH e (by simp) (r.append (.cons ru .nil)) ?_,rfl,q⟩
 rw[aj,Gf]
 omega
def Qx:V->List V->Hp->VK->Prop:=λx vs H Q=>∃l b xs zs,x= .ref l/\vs=[.ref b]/\H l=some (.lst xs)/\H b=some (.lst zs)/\xs.length+zs.length<=sizeLine/\Q .non (fC H l (.lst (xs++zs)))
theorem JU:MtM X "list.extend" Qx:=by
 intro pins s σ H x vs v us Q I rx rv h
 obtain⟨l,b,xs,zs,rfl,rfl,hH,hB,hz,q⟩:=h
 cases rx
 obtain⟨u,rfl,ru⟩:=rv.one
 cases ru
 obtain⟨z,bW,n,r,hl,e⟩:=I.lstM hH
 obtain⟨z2,qa,n2,r2,Ae,e2⟩:=I.lstM hB
 have hsz:bW.toArray.size+qa.toArray.size<=sizeLine:=by rw[aG,aG];lia
 have M8:¬(!bW.toArray.isEmpty&&iQ (bW.toArray.size+qa.toArray.size))=true:=by
  rw[vN hsz,Bool.and_false]
  exact aw
 refine yZ F.slot_list_extend ⟨_,e,rfl⟩ F.entry_list_extend (F.args_list_extend_2 _ _)
  (AutoSeq1.list_extend_list_list_0 l bW.toArray n b qa.toArray n2 M8 (by rw[aG];lia) (by lia)) ⟨e,e2,?_⟩
 refine⟨.non,_,I.lset (its':=bW++qa) hH e (by simp) (r.append r2) ?_,rfl,q⟩
 rw[aj]
 lia
def aaD:R2:=λx y H Q=>∃l b xs zs,x= .ref l/\y= .ref b/\H l=some (.lst xs)/\H b=some (.lst zs)/\xs.length+zs.length<=sizeLine/\∀p,H p=none->Q (.ref p) (fC H p (.lst (xs++zs)))
theorem UI:ql X (js .Add) aaD:=by
 intro pins s σ H x y v u Q I rx ry h
 obtain⟨l,b,xs,zs,rfl,rfl,hH,hB,hz,q⟩:=h
 cases rx
 cases ry
 obtain⟨z,bW,n,r,hl,e⟩:=I.lstM hH
 obtain⟨z2,qa,n2,r2,Ae,e2⟩:=I.lstM hB
 refine PySem.P.add_list e e2 ?_ (by rw[aG,aG];omega)
 have ea:bW.toArray++qa.toArray=(bW++qa).toArray:=by simp
 rw[ea]
 exact⟨.ref _,_,I.lnew (t':=s.toks) (r.append r2) (by rw[aj];omega),rfl,q _ I.fresh⟩
def Z3:R2:=λx y H Q=>∃l k xs,x= .ref l/\y= .int k/\H l=some (.lst xs)/\-(2^63)<=k/\k<2^63/\xs.length*k.toNat<=sizeLine/\
 ∀p,H p=none->Q (.ref p) (fC H p (.lst (aq k.toNat xs).flatten))
theorem PD {α:Type} (xs:List α) (k:Nat):(aq k xs).flatten.length=k*xs.length:=by
 induction k with
 |zero=>simp
 |succ k ih=>rw[eI,ck,aj,ih,fk,qu]
theorem TB:ql X (js .Mult) Z3:=by
 intro pins s σ H x y v u Q I rx ry h
 obtain⟨l,k,xs,rfl,rfl,hH,h1,h2,hz,q⟩:=h
 cases rx
 obtain⟨t,rfl⟩:=ry
 obtain⟨z,bW,n,r,hl,e⟩:=I.lstM hH
 have hlen:bW.toArray.size*k.toNat<=sizeLine:=by rw[aG,<-hl];exact hz
 have Yr:¬bW.toArray.size*k.toNat>(2^63-1)/8:=by
  have:(sizeLine:Nat)<=(2^63-1)/8:=by decide
  lia
 have Ep:¬(!lj.List.listFitsIndex k)=true:=by
  rw[fitsIndex_both h1 h2]
  exact aw
 have M8:¬iQ (bW.toArray.size*k.toNat)=true:=by
  rw[vN hlen]
  exact aw
 have Yl:qd (λx1 x2=>x1++x2) #[] (aq (if bW.toArray.isEmpty=true then 0 else k.toNat) bW.toArray)=(aq k.toNat bW).flatten.toArray:=by
  have f0:∀m:Nat,qd (λx1 x2=>x1++x2) #[] (aq m bW.toArray)=(aq m bW).flatten.toArray:=λm=>by
   have:=BW bW m []
   rw[lP]at this
   exact this
  rw[f0]
  cases bW with
  |nil=>simp
  |cons a r'=>rw[if_neg (by simp)]
 refine wpAny_binaryOp_repeat_ref (T:="list") (U:="int") (by decide) ⟨_,e,rfl⟩ (λs'=>typeIs_int s' k t) noFill_list_mul F.fills_int_mul F.slot_int_rmul repeat_list F.slot_int_index.lookup
  (yZ F.slot_int_rmul (typeIs_int s k t) F.entry_int_rmul (F.args_int_rmul_2 _ _) (int___rmul___int_list k t l bW.toArray n)
   ⟨e,rfl,⟨_,e,rfl⟩,yZ F.slot_list_mul ⟨_,e,rfl⟩ F.entry_list_mul (F.args_list_mul_2 _ _) (AutoListH.list___mul___list_int_3 l bW.toArray n k t Ep Yr M8) ⟨e,?_⟩⟩)
 rw[Yl]
 exact⟨.ref _,_,I.lnew (t':=s.toks) (r.rep k.toNat) (by rw[PD,bE];exact hz),rfl,q _ I.fresh⟩
end
section
variable {prog:bR} {w:du} {A:cG} {E:Value->ao->Prop} {s:ao}
theorem J9 (bW qa:List Value) (a c:Nat):bW.toArray.extract 0 a++qa.toArray++bW.toArray.extract c bW.toArray.size=(bW.take a++qa++bW.drop c).toArray:=by
 apply LD.mp
 first
  |(simp
    exact cz (by simp))
  |simp[cz]
  |simp
theorem G9 {a c n:Nat} (XN:a<=c) (hc:c<=n):e9 (some (a:Int)) (some (c:Int)) none n=((a:Int),(c:Int),1):=by
 simp only[e9,xj]
 have h1:¬((a:Int)<0):=by lia
 have h2:¬((c:Int)<0):=by lia
 simp only[h1,h2,if_false,show(1:Int)>0 by decide,if_true]
 congr 1
 ·lia
 ·congr 1;lia
set_option maxRecDepth 100000 in
theorem BA {l b sl:Addr} {items new:Array Value} {n n2:Nat} {vl vu:Value} {a c:Nat} {Q:Unit->ao->Prop}
  (e:s.heap.get? l=some {cls:= .type "list",data:= .seq items n}) (e2:s.heap.get? b=some {cls:= .type "list",data:= .seq new n2}) (hne:l≠b)
  (hs:s.heap.IsSliceOf sl vl vu .none) (pl:IsPart vl (some (a:Int))) (pu:IsPart vu (some (c:Int))) (XN:a<=c) (hc:c<=items.size)
  (hsz:items.size+new.size<=sizeLine) (h:Q () {s with heap:=s.heap.update l (mY λxs=>xs.extract 0 a++new++xs.extract c xs.size)}):
  wpAny (aU prog w) A (AV (.ref l) (.ref sl) (.ref b)) Q E s:=by
 have hl:s.heap.IsList l items:=Gg e
 have hb:s.heap.IsList b new:=Gg e2
 obtain⟨os,XE,hcs,ji⟩:=id hs
 have hTs:s.TypeIs (.ref sl) "slice":=⟨os,XE,hcs⟩
 have VZ:¬((rawPart none==rawInt 0)=true):=aw
 have Np:xn (.ref l) (.ref b)=false:=by
  unfold xn
  exact beq_eq_false_iff_ne.mpr hne
 have Zc:(max (a:Int) (c:Int)).toNat=c:=by lia
 have Xj:((λxs:Array Value=>xs.extract 0 a++new++xs.extract c xs.size) items).size<=sizeLine+1:=by
  simp only[Array.size_append,Array.size_extract]
  lia
 unfold AV
 try with_reducible refine i4 ?_
 first|refine wpAny_bind (wpAny_pure ?_)|skip
 refine wpAny_bind (wpAny_sequenceKey hl.typeIs (by decide) ?_)
 refine wpAny_bind (eC (name:=kq "__setitem__") hl.typeIs Vd
  (f7 Vd hl.typeIs entry_list_setitem ?_ (args_list_setitem _ _ _)))
 show wpAny _ _ (uK (.ref sl)>>=_) _ _ s
 refine wpAny_bind ?_
 unfold uK
 refine wpAny_bind (uG hTs slice_no_index ?_)
 simp only[Option.isNone_none,if_true]
 refine wpAny_pure ?_
 show wpAny _ _ (typeOf (.ref sl)>>=_) _ _ s
 refine wpAny_bind (wpAny_typeOf hTs ?_)
 first
  |rw[if_neg (by decide)]
  |refine qw (by decide) ?_
 rw[listSliceParts_eq]
 refine wpAny_bind (wpAny_bind (b9 XE ji (x:= .none) rfl (wpAny_bind (Gh .none ?_))))
 rw[if_neg VZ]
 refine wpAny_bind (b9 XE ji (x:=vl) rfl (wpAny_bind (Gh pl ?_)))
 refine wpAny_bind (b9 XE ji (x:=vu) rfl (wpAny_bind (Gh pu (wpAny_pure ?_))))
 first
  |simp only[Np,cq,if_false]
  |refine qw Np ?_
  |(dsimp only
    rw[if_neg (by rw[Np];exact aw)])
 refine wpAny_bind (m:=wA (.ref b) "must assign iterable to extended slice") ?_
 unfold wA
 refine wpAny_bind (wpAny_typeOf hb.typeIs ?_)
 first
  |refine PySem.W.KFB.if_so (by decide) ?_
  |rw[if_pos (by decide)]
  |simp only[beq_self_eq_true,Bool.true_or,if_true]
 unfold lj.List.listItems
 refine wpAny_bind (ik e2 rfl (wpAny_pure ?_))
 refine wpAny_bind (wpAny_bind (ik e rfl (wpAny_pure ?_)))
 refine wpAny_bind (iE ((sliceIndices_raw (some (a:Int)) (some (c:Int)) none items.size (by simp)).trans (congrArg (pure:Int×Int×Int->Sem (Int×Int×Int)) (G9 XN hc))) ?_)
 show wpAny _ _ (if ((1:Int)==1)=true then _ else _) _ _ s
 rw[if_pos (by decide)]
 refine wpAny_bind (zb ?_)
 first
  |simp only[vN hsz,cq,if_false]
  |refine qw (vN hsz) ?_
 first|refine wpAny_bind (wpAny_pure ?_)|skip
 show wpAny _ _ (updateSeq l (λxs=>xs.extract 0 ((a:Int)).toNat++new++xs.extract (max (a:Int) (c:Int)).toNat xs.size)>>=_) _ _ s
 rw[Zc,bC]
 refine wpAny_bind (wpAny_updateSeq (hz:=dR (g9 _ _) hsz) (_hz':=Xj) e rfl ?_)
 refine wpAny_bind (wpAny_letGo ?_)
 first
  |exact wpAny_bind (wpAny_pure (wpAny_pure ⟨.none,rfl,wpAny_pure h⟩))
  |exact wpAny_pure ⟨.none,rfl,wpAny_pure h⟩
end
section
variable {X:Cx}
theorem JZ {pins:List (Addr×Obj)} {s:ao} {σ:St} {H:Hp} {l b sl:Addr} {xs ys:List V} {a c:Int} {vl vu:Value} {Q:Unit->ao->Prop} (I:bG X pins σ H s)
  (hH:H l=some (.lst xs)) (hB:H b=some (.lst ys)) (hne:l≠b) (hs:s.heap.IsSliceOf sl vl vu .none) (ra:dQ (.int a) vl) (rc:dQ (.int c) vu) (h0:0<=a) (XN:a<=c) (hc:c<=xs.length)
  (hz:xs.length+ys.length<=sizeLine) (h:∀s',bG X pins σ (fC H l (.lst (xs.take a.toNat++ys++xs.drop c.toNat))) s'->Q () s'):
  wpAny (aU X.prog X.w) X.A (AV (.ref l) (.ref sl) (.ref b)) Q X.xe s:=by
 obtain⟨ta,rfl⟩:=ra
 obtain⟨tc,rfl⟩:=rc
 obtain⟨z,bW,n,r,hl,e⟩:=I.lstM hH
 obtain⟨z2,qa,n2,r2,Ae,e2⟩:=I.lstM hB
 obtain⟨a',rfl⟩:=pW h0
 obtain⟨c',rfl⟩:=pW (Int.le_trans h0 XN)
 simp only[bC]at h
 refine BA (a:=a') (c:=c') e e2 hne hs (.int _ _) (.int _ _) (by lia) (by rw[aG];lia) (by rw[aG,aG];lia) (h _ ?_)
 refine I.lset (its':=bW.take a'++qa++bW.drop c') (t':=s.toks) hH e ?_ (b8.append (b8.append (r.take _) r2) (r.drop _)) ?_
 ·exact J9 bW qa a' c'
 ·rw[aj,aj,aA,ba]
  lia
end
end L2
namespace L2
open PySem PySem.Spec PyProof.Rows
theorem b8.ints:∀{ns:List Int} {us:List Value},b8 (ns.map V.int) us->t9 us ns
 |[],us,h=>by
  rw[fG]at h
  cases h
  exact t9.nil
 |n::ns,us,h=>by
  rw[bg]at h
  cases h with
  |cons r t=>
   obtain⟨k,rfl⟩:=r
   exact t9.cons n k (b8.ints t)
theorem uZ:∀{us:List Value} {ns:List Int},t9 us ns->b8 (ns.map V.int) us
 |_,_,.nil=>by rw[fG];exact Paired.nil
 |_,_,.cons n t h=>by rw[bg];exact Paired.cons (show dQ (V.int n) (kP n t)from ⟨t,rfl⟩) (uZ h)
theorem b8.bls:∀{bs:List Bool} {us:List Value},b8 (bs.map V.bl) us->us=bs.map kQ
 |[],us,h=>by
  rw[fG]at h
  cases h
  rfl
 |b::bs,us,h=>by
  rw[bg]at h
  cases h with
  |cons r t=>
   cases r
   rw[b8.bls t,bg]
theorem b8.ref1 {a:Addr} {us:List Value} (r:b8 [V.ref a] us):us=[bt a]:=by
 cases r with
 |cons r t=>
  cases t
  cases r
  rfl
section
variable {prog:bR} {w:du} {A:cG} {E:Value->ao->Prop} {s:ao} {l:Addr} {bW:List Value} {ns:List Int} {Q:Value->ao->Prop}
theorem P0 (hh:A.handled=none) (hl:s.heap.IsList l bW.toArray) (hi:t9 bW ns)
  (h:∀h' tk t',(∀b o,s.heap.get? b=some o->h'.get? b=some o)->Q (.int ns.sum t') {s with heap:=h',toks:=tk}):wpAny (aU prog w) A (call (.builtin "sum") [.ref l]) Q E s:=by
 obtain⟨xs,e⟩:=hi.allInts.items
 have hn:numsOf (intItems xs).toList=ns:=by rw[<-e];exact hi.numsOf
 rw[nums_intItems]at hn
 rw[e]at hl
 refine PySem.sum_intListG hh hl λh' tk t' hk=>?_
 have:=h h' tk t' hk
 rw[preSum_eq,cz (by simp),hn];exact this
end
section
variable {X:Cx}
def Yt (K:ag):List V->Hp->VK->Prop:=λvs H Q=>∃(a:Addr) (ns:List Int),vs=[V.ref a]/\iL K H a (ns.map V.int)/\Q (.int ns.sum) H
theorem Uw (hc:X.calm=true):pS X (.builtin "sum") (Yt X.K):=by
 intro pins s σ H vs us Q I r h
 obtain⟨a,ns,rfl,hs,q⟩:=h
 obtain⟨bW,rv,hl,_⟩:=I.list hs
 rw[b8.ref1 r]
 exact P0 (I.ok.hd hc) hl.isList rv.ints λh' tk t' hk=>⟨.int _,H,I.kept hk,⟨_,rfl⟩,q⟩
end
theorem E3 {prog:bR} {w:du} {A:cG} {E:Value->ao->Prop} {s:ao} {l:Addr} {items:Array Value} {Q:Value->ao->Prop} (hl:s.heap.IsList l items)
  (h:∀s₂:ao,s₂={s with heap:=s.heap.push {cls:= .type "list_iterator",data:= .fields #[.ref l,.int 0 0]}}->
   (s₂.heap.IsListIter s.heap.objs.size l 0/\s₂.heap.IsList l items)->l≠s.heap.objs.size->Q (.ref s.heap.objs.size) s₂):wpAny (aU prog w) A (pyIter (.ref l)) Q E s:=by
 have jb:l<s.heap.objs.size:=by obtain⟨_,e,_⟩:=hl;exact aN e
 exact AX hl (h _ rfl ⟨⟨_,aK _ rfl,rfl,rfl⟩,hl.push _⟩ (cA jb))
theorem Ef {prog:bR} {w:du} {A:cG} {bs:List Bool} {bW:List Value} (e:bW=bs.map kQ):
  TruthOf prog w A (λi v=>bW.toArray[i]? =some v) (λi=>bs.getD i false):=λi v s Q E hv hq=>by
 have Uz:bW[i]? =some v:=by simpa using hv
 rw[e,aE]at Uz
 obtain⟨b,hb,rfl⟩:=bU.mp Uz
 have hg:bs.getD i false=b:=by rw[aR,hb]<;>rfl
 have hq':Q (bs.getD i false) s:=hq
 rw[hg]at hq'
 exact fF hq'
theorem Cc:∀bs:List Bool,(ar bs.length).any (λi=>bs.getD i false)=bs.any id
 |[]=>rfl
 |b::bs=>by
  rw[aJ,fH,lp,FX,lp,<-Cc bs]
  all_goals rfl
section
variable {X:Cx}
def X4 (K:ag):List V->Hp->VK->Prop:=λvs H Q=>∃(a:Addr) (bs:List Bool),vs=[V.ref a]/\iL K H a (bs.map V.bl)/\Q (.bl (bs.any id)) H
theorem UL (hc:X.calm=true):pS X (.builtin "any") (X4 X.K):=by
 intro pins s σ H vs us Q I r h
 obtain⟨a,bs,rfl,hs,q⟩:=h
 obtain⟨bW,rv,hl,_⟩:=I.list hs
 rw[b8.ref1 r]
 have hb:=rv.bls
 refine call_any_walk (E3 hl.isList λs₂ e2 st hne=>?_)
 subst e2
 refine⟨_,_,_,_,_,_,_,rfl,Walks.list (A:=X.A.in1) (I.ok.hd hc) _ a hne bW.toArray,st,Ef hb,λh' tk hk=>?_⟩
 refine⟨.bl _,H,I.kept λb o eo=>hk b o (λhmem=>?_) (au _ eo),?_,q⟩
 ·rcases aB.mp hmem with e1|hmem
  ·exact absurd (e1▸aN eo) (c9 _)
  ·cases hmem
 ·show kQ _=kQ _
  rw[<-Cc,hb,aG,ah]
end
end L2
namespace L2
open PySem PySem.Spec PyProof.Rows
abbrev LP (h:Heap) (c:Addr) (v:Option Value):Prop:=h.IsCell c v
def yo (scope sc:Scope):Scope:=
 {scope with names:=scope.names.map λ(n,k)=>if (k== .free&&sc.kind== .function&&sc.names.lookup n==some .cell)then (n,.cell)else (n,k)}
def dN (cells:List (Str×Addr)):List (Str×gu)->List (Str×Addr)->List (Str×Addr)
 |[],acc=>acc
 |(n,k)::r,acc=>if k== .free then dN cells r ((n,(cells.lookup n).getD 0)::acc)else dN cells r acc
theorem uY (env:Env) (f:Str×gu->List (Str×Addr)->Sem (ForInStep (List (Str×Addr))))
  (hf:∀n k c,f (n,k) c=if k== .free then (do let a<-cellOf env n;pure (.yield ((n,a)::c)))else pure (.yield c)):
  ∀(names:List (Str×gu)) (acc:List (Str×Addr)),(∀y∈names,y.2= .free->∃c,env.cells.lookup y.1=some c)->forIn names acc f=pure (dN env.cells names acc)
 |[],acc,_=>by rw[sS];rfl
 |(n,k)::r,acc,h=>by
  rw[qx,hf]
  have ih:=λacc=>uY env f hf r acc λy hy=>h y (ai _ hy)
  unfold dN
  by_cases hk:(k==ks)=true
  ·rw[if_pos hk,if_pos hk]
   obtain⟨c,hc⟩:=h (n,k) ae (by simpa using hk)
   have e:cellOf env n=pure c:=by unfold cellOf;rw[hc]
   rw[e]
   have e2:(env.cells.lookup n).getD 0=c:=by rw[hc];rfl
   rw[e2]
   exact ih _
  ·rw[if_neg hk,if_neg hk]
   exact ih _
theorem zX {scope:Scope} {env:Env} (h:∀y∈scope.names,y.2= .free->∃c,env.cells.lookup y.1=some c):closureFor scope env=pure (dN env.cells scope.names []):=by
 simp only[closureFor]
 rw[uY env _ (λn k c=>rfl) scope.names [] h]
 rfl
theorem uz {α:Type}:∀{l:List (Str×α)} {n:Str} {c:α},(n,c)∈l->∃c',l.lookup n=some c'
 |(k,v)::r,n,c,h=>by
  rw[ee]
  cases hb:n==k with
  |true=>exact⟨_,rfl⟩
  |false=>
   rcases aB.mp h with e|h
   ·cases e;simp at hb
   ·exact uz h
theorem mK {cells:List (Str×Addr)}:∀{names:List (Str×gu)} {acc:List (Str×Addr)} {n:Str} {c:Addr},(n,c)∈dN cells names acc->(n,c)∈acc\/((n,.free)∈names/\c=(cells.lookup n).getD 0)
 |[],_,_,_,h=> .inl h
 |(m,k)::r,acc,n,c,h=>by
  unfold dN at h
  split at h
  ·rename_i hk
   have hk:k= .free:=by simpa using hk
   rcases mK h with h|⟨h1,h2⟩
   ·rcases aB.mp h with e|h
    ·cases e;exact .inr ⟨hk▸ae,rfl⟩
    ·exact .inl h
   ·exact .inr ⟨ai _ h1,h2⟩
  ·rcases mK h with h|⟨h1,h2⟩
   ·exact .inl h
   ·exact .inr ⟨ai _ h1,h2⟩
theorem rJ {cells:List (Str×Addr)}:∀{names:List (Str×gu)} {acc:List (Str×Addr)} {p:Str×Addr},p∈acc->p∈dN cells names acc
 |[],_,_,h=>h
 |(m,k)::r,acc,p,h=>by
  unfold dN
  split
  ·exact rJ (ai _ h)
  ·exact rJ h
theorem rn {cells:List (Str×Addr)}:∀{names:List (Str×gu)} {acc:List (Str×Addr)} {n:Str},(n,.free)∈names->(n,(cells.lookup n).getD 0)∈dN cells names acc
 |(m,k)::r,acc,n,h=>by
  unfold dN
  rcases aB.mp h with e|h
  ·cases e
   exact rJ ae
  ·split
   ·exact rn h
   ·exact rn h
theorem nL:∀{names:List (Str×gu)} {h:Heap} {acc:List (Str×Addr)} {x:Str} {c:Addr},(x,c)∈cO h.objs.size names acc->
  (x,c)∈acc\/((x,.cell)∈names/\h.objs.size<=c/\LP (kG h names) c none)
 |[],_,_,_,_,h=> .inl h
 |(n,k)::r,h,acc,x,c,hm=>by
  unfold cO at hm
  unfold kG
  split at hm
  ·rename_i hk
   rw[if_pos hk]
   have hk:k= .cell:=by simpa using hk
   rw[<-bz h {cls:= .type "cell",data:= .cell none}]at hm
   rcases nL hm with hm|⟨h1,h2,h3⟩
   ·rcases aB.mp hm with e|hm
    ·cases e
     exact .inr ⟨hk▸ae,aO _,_,pushCells_keeps r _ _ _ (aK _ rfl),rfl⟩
    ·exact .inl hm
   ·rw[bz]at h2
    exact .inr ⟨ai _ h1,oj h2,h3⟩
  ·rename_i hk
   rw[if_neg hk]
   rcases nL hm with hm|⟨h1,h2,h3⟩
   ·exact .inl hm
   ·exact .inr ⟨ai _ h1,h2,h3⟩
theorem sm:∀{names:List (Str×gu)} {n:Nat} {acc:List (Str×Addr)} {p:Str×Addr},p∈acc->p∈cO n names acc
 |[],_,_,_,h=>h
 |(m,k)::r,n,acc,p,h=>by
  unfold cO
  split
  ·exact sm (ai _ h)
  ·exact sm h
theorem wZ:∀{names:List (Str×gu)} {n:Nat} {acc:List (Str×Addr)} {x:Str},(x,.cell)∈names->∃c,(x,c)∈cO n names acc
 |(m,k)::r,n,acc,x,h=>by
  unfold cO
  rcases aB.mp h with e|h
  ·cases e
   exact⟨n,sm ae⟩
  ·split
   ·exact wZ h
   ·exact wZ h
theorem wR:∀{names:List (Str×gu)} {h:Heap} {acc:List (Str×Addr)} {x y:Str} {c:Addr},(∀p∈acc,p.2<h.objs.size)->(∀x y c,(x,c)∈acc->(y,c)∈acc->x=y)->
  (x,c)∈cO h.objs.size names acc->(y,c)∈cO h.objs.size names acc->x=y
 |[],_,_,_,_,_,_,hi,h1,h2=>hi _ _ _ h1 h2
 |(n,k)::r,h,acc,x,y,c,hl,hi,h1,h2=>by
  unfold cO at h1 h2
  split at h1
  ·rename_i hk
   rw[if_pos hk]at h2
   rw[<-bz h {cls:= .type "cell",data:= .cell none}]at h1 h2
   refine wR (h:=h.push _) (λp hp=>?_) (λx y c a b=>?_) h1 h2
   ·rw[bz]
    rcases aB.mp hp with rfl|hp
    ·exact yX _
    ·exact om (hl p hp)
   ·rcases aB.mp a with e|a<;>rcases aB.mp b with e'|b
    ·cases e;cases e';rfl
    ·cases e;exact absurd (hl _ b) (c9 _)
    ·cases e';exact absurd (hl _ a) (c9 _)
    ·exact hi _ _ _ a b
  ·rename_i hk
   rw[if_neg hk]at h2
   exact wR hl hi h1 h2
theorem xS {M:Model} {A:cG} {E:Value->ao->Prop} {s:ao} {scope:Scope} {globals:Addr} {closure:List (Str×Addr)} {qual:Str} {func:Option Addr} {code:Value} {around:Env} {builtins:Addr} {Q:Env->ao->Prop}
  (h:Q (newEnv scope s.heap.objs.size globals (cO (s.heap.objs.size+1) scope.names closure) qual func code (some around) builtins)
   {s with heap:=kG (s.heap.push {cls:= .type "dict",data:= .dict #[]}) scope.names}):
  wpAny M A (newFunctionEnv scope globals closure [] qual func code (some around) builtins) Q E s:=by
 simp only[newFunctionEnv,Option.isSome_some,if_true]
 refine wpAny_bind (wpAny_alloc ?_)
 refine wpAny_bind (wpAny_layCells _ (λn k c=>rfl) scope.names closure _ _ ?_)
 rw[show({s with heap:=s.heap.push {cls:= .type "dict",data:= .dict #[]}}:ao).heap.objs.size=s.heap.objs.size+1 from bz ..]
 rw[sS]
 exact wpAny_bind (wpAny_pure (wpAny_pure h))
theorem rE {sc:Scope}:∀{names:List (Str×gu)} {x:Str} {k:gu},
  (names.map λ(n,k)=>if (k==ks&&sc.kind== .function&&sc.names.lookup n==some .cell)then (n,sF)else (n,k)).lookup x=some k->
  ∃k',names.lookup x=some k'/\(k=k'\/(k'= .free/\k= .cell))
 |[],_,_,h=>by simp at h
 |(n,k₀)::r,x,k,h=>by
  have ih:=@rE sc r x k
  have h':jM x ((if (k₀==ks&&sc.kind== .function&&sc.names.lookup n==some .cell)=true then (n,sF)else (n,k₀))::(r.map _))=some k:=h
  cases hx:x==n with
  |true=>
   simp only[ee,hx]
   by_cases hc:(k₀==ks&&sc.kind== .function&&sc.names.lookup n==some .cell)=true
   ·rw[if_pos hc]at h'
    simp only[ee,hx]at h'
    cases h'
    simp only[aH,beq_iff_eq]at hc
    exact⟨k₀,rfl,.inr ⟨hc.1.1,rfl⟩⟩
   ·rw[if_neg hc]at h'
    simp only[ee,hx]at h'
    cases h'
    exact⟨_,rfl,.inl rfl⟩
  |false=>
   simp only[ee,hx]
   by_cases hc:(k₀==ks&&sc.kind== .function&&sc.names.lookup n==some .cell)=true
   ·rw[if_pos hc]at h'
    simp only[ee,hx]at h'
    exact ih h'
   ·rw[if_neg hc]at h'
    simp only[ee,hx]at h'
    exact ih h'
structure km (N:List Str) (sc scope:Scope) (own:List (Str×Nat)):Prop where
 kind:scope.kind= .function
 uniq:∀y∈scope.names,scope.names.lookup y.1=some y.2
 ix:∀p∈own,N[p.2]? =some p.1
 free:∀y∈scope.names,y.2= .free->sc.names.lookup y.1=some .cell\/sc.names.lookup y.1=some .free
 own:∀y∈scope.names,y.2= .local\/y.2= .cell->y.1∈own.map (·.1)\/y.1∉N
def wipe (σ:St):List Nat->St
 |[]=>σ
 |v::vs=>(wipe σ vs).set v none
theorem fg (σ:St):∀vs:List Nat,(wipe σ vs).length=σ.length
 |[]=>rfl
 |v::vs=>by unfold wipe;rw[eL,fg σ vs]
theorem sr {σ:St} {i:Nat} {x:V}:∀{vs:List Nat},(wipe σ vs)[i]? =some (some x)->σ[i]? =some (some x)/\i∉vs
 |[],h=>⟨h,by simp⟩
 |v::vs,h=>by
  unfold wipe at h
  by_cases hi:v=i
  ·subst hi
   by_cases hv:v<(wipe σ vs).length
   ·rw[cy hv]at h;cases h
   ·rw[bu (by simpa using hv)]at h;cases h
  ·rw[cf hi]at h
   obtain⟨h1,h2⟩:=sr h
   exact⟨h1,by simp only[aB,not_or];exact⟨λe=>hi e.symm,h2⟩⟩
abbrev Cx.blk (X:Cx) (s:ao) (H:Hp) (scope:Scope) (i0:Env) (fp:List Addr):Cx:={X with s_0:=s,H_0:=H,env:=i0,outer:=X.stack,ex:=fp,fn:=λx=>scope.names.lookup x==some .cell,pn:=[],xe:=λ_ _=>False}
section
variable {X:Cx} {pins:List (Addr×Obj)} {σ:St} {H:Hp} {s:ao}
theorem xJ {scope:Scope} {own:List (Str×Nat)} {fp:List Addr} (I:bG X pins σ H s) (ok:km X.N X.env.scope scope own) (hN:X.N.Nodup) (VD:∀b∈fp,qL X pins H b/\b<s.heap.objs.size):
  bG (X.blk s H scope (dJ scope (cO (s.heap.objs.size+1) scope.names (dN X.env.cells scope.names [])) s.heap.objs.size X.env) fp) [] (wipe σ (own.map (·.2))) H {s with heap:=kG (s.heap.push {cls:= .type "dict",data:= .dict #[]}) scope.names}:=by
 have xE:∀y∈scope.names,y.2= .free->∃c,X.env.cells.lookup y.1=some c:=λy hy e=>by
  rcases ok.free y hy e with k|k
  ·exact I.ok.has _ (.inl k)
  ·exact I.ok.has _ (.inr k)
 generalize Fh:dJ scope (cO (s.heap.objs.size+1) scope.names (dN X.env.cells scope.names [])) s.heap.objs.size X.env=i0
 have kp:∀b o,s.heap.get? b=some o->(kG (s.heap.push {cls:= .type "dict",data:= .dict #[]}) scope.names).get? b=some o:=λb o e=>pushCells_keeps _ _ _ _ (au _ e)
 have hL:i0.locals=s.heap.objs.size:=by rw[<-Fh];rfl
 have II:i0.cells=cO (s.heap.objs.size+1) scope.names (dN X.env.cells scope.names []):=by rw[<-Fh];rfl
 have hsc:i0.scope=yo scope X.env.scope:=by rw[<-Fh];rfl
 rw[<-bz s.heap {cls:= .type "dict",data:= .dict #[]}]at II
 have cm:∀{y c},(y,c)∈dN X.env.cells scope.names []->X.env.cells.lookup y=some c/\c<s.heap.objs.size:=λ{y c} hm=>by
  rcases mK hm with hm|⟨h1,rfl⟩
  ·cases hm
  ·obtain⟨c,hc⟩:=xE _ h1 rfl
   rw[hc]
   obtain⟨w,z⟩:=I.cell _ _ hc
   exact⟨rfl,z.lt⟩
 have mem:∀{y c},i0.cells.lookup y=some c->(X.env.cells.lookup y=some c/\c<s.heap.objs.size)\/(s.heap.objs.size+1<=c/\LP (kG (s.heap.push {cls:= .type "dict",data:= .dict #[]}) scope.names) c none):=λ{y c} e=>by
  rw[II]at e
  rcases nL (bN e)with hm|⟨_,h2,h3⟩
  ·exact .inl (cm hm)
  ·rw[bz]at h2;exact .inr ⟨h2,h3⟩
 have look:∀{y},scope.names.lookup y=some .free->∃c,i0.cells.lookup y=some c/\X.env.cells.lookup y=some c:=λ{y} hl=>by
  have hy:(y,ks)∈scope.names:=bN hl
  obtain⟨c',e'⟩:=uz (sm (names:=scope.names) (n:=(s.heap.push {cls:= .type "dict",data:= .dict #[]}).objs.size) (rn (cells:=X.env.cells) (acc:=[]) hy))
  rw[<-II]at e'
  refine⟨c',e',?_⟩
  rw[II]at e'
  rcases nL (bN e')with hm|⟨h1,_,_⟩
  ·exact(cm hm).1
  ·have:=ok.uniq _ h1
   rw[hl]at this;cases this
 have okB:(X.blk s H scope i0 fp).Ok:=by
  refine⟨I.ok.mod,by show i0.scope.kind=_;rw[hsc];exact ok.kind,by show i0.globals=_;rw[<-Fh];exact I.ok.glob,by show i0.builtins=_;rw[<-Fh];exact I.ok.blt,by show s.heap.objs.size<=i0.locals;rw[hL];exact aO _,
   λy z c e1 e2=>?_,λy hy=>?_,λy c z e=>?_,I.ok.hd,I.ok.frames,.inl rfl,λb hb=>⟨?_,λy c e z=>?_⟩,I.bs,dR I.ok.bsz I.sz,λb o e hb=>?_,λb hb z=>?_,I.stack,I.stkFree⟩
  ·have e1:i0.cells.lookup y=some c:=e1
   have e2:i0.cells.lookup z=some c:=e2
   rw[II]at e1 e2
   refine wR (λp hp=>?_) (λy z c a b=>I.ok.inj y z c (cm a).1 (cm b).1) (bN e1) (bN e2)
   rw[bz]
   exact om (cm (y:=p.1) (c:=p.2) hp).2
  ·show ∃c,i0.cells.lookup y=some c
   have key:∀k,i0.kindOf y=some k->(k= .cell\/k= .free)->∃c,i0.cells.lookup y=some c:=λk hk F7=>by
    unfold Env.kindOf at hk
    rw[hsc]at hk
    obtain⟨k',e,r⟩:=rE hk
    have:k'= .cell\/k'= .free:=by
     rcases r with rfl|⟨rfl,_⟩
     ·exact F7
     ·exact .inr rfl
    rcases this with rfl|rfl
    ·obtain⟨c,hm⟩:=wZ (n:=(s.heap.push {cls:= .type "dict",data:= .dict #[]}).objs.size) (acc:=dN X.env.cells scope.names []) (bN e)
     obtain⟨c',e'⟩:=uz hm
     exact⟨c',by rw[II];exact e'⟩
    ·obtain⟨c,h1,_⟩:=look e
     exact⟨c,h1⟩
   rcases hy with hy|hy
   ·exact key _ hy (.inl rfl)
   ·exact key _ hy (.inr rfl)
  ·have z:(scope.names.lookup y==some sF)=true:=z
   have z:scope.names.lookup y=some .cell:=by simpa using z
   have e:i0.cells.lookup y=some c:=e
   rw[II]at e
   rcases nL (bN e)with hm|⟨_,h2,_⟩
   ·rcases mK hm with hm|⟨h1,_⟩
    ·cases hm
    ·have q:=ok.uniq _ h1
     rw[z]at q;cases q
   ·rw[bz]at h2
    exact oj h2
  ·show b≠i0.locals
   rw[hL];exact cA (VD b hb).2
  ·have e:i0.cells.lookup y=some c:=e
   rcases mem e with ⟨h1,_⟩|⟨h1,_⟩
   ·exact(VD b hb).1.2.2.2.2.1 y c h1 z
   ·have h2:s.heap.objs.size+1<=b:=by rw[<-z];exact h1
    exact absurd (aX (VD b hb).2 (oj h2)) (c9 _)
  ·rcases(VD b hb).1.2.2.2.1 with z|z
   ·exact I.ok.noex b o e z
   ·exact absurd (aX (aN e) (dR I.ok.bsz z)) (c9 _)
  ·rcases aB.mp (I.stkSub b z)with z|z
   ·exact(VD b hb).1.2.1 z
   ·exact(VD b hb).1.2.2.1 z
 refine⟨okB,rfl,I.bare,Un.kept kp,⟨λ_=>none,?_,λi y av e1 e2 e3=>?_⟩,λy c e=>?_,?_,λy c e=>?_,λp hp=>?_,I.hok.kept kp,by rw[fg];exact I.len⟩
 ·show Heap.Ns _ i0.locals _
  rw[hL]
  exact Heap.Ns.keeps (Heap.Ns.new ..) λb o e=>pushCells_keeps _ _ _ _ e
 ·obtain⟨e2,hne⟩:=sr e2
  have Lv:scope.names.lookup y=some .free/\(i0.kindOf y=some .cell\/i0.kindOf y=some .free):=by
   have key:∀k,i0.scope.names.lookup y=some k->k= .local\/k= .cell\/k= .free->scope.names.lookup y=some .free/\(i0.kindOf y=some .cell\/i0.kindOf y=some .free):=λk hk F7=>by
    have hk0:=hk
    rw[hsc]at hk
    obtain⟨k',e,r⟩:=rE hk
    have no:¬(k'= .local\/k'= .cell):=λhh=>by
     rcases ok.own _ (bN e) hh with e'|e'
     ·obtain⟨p,hp,hpy⟩:=ay.mp e'
      have e3:=ok.ix p hp
      have:p.1=y:=hpy
      rw[this]at e3
      exact hne (ay.mpr ⟨p,hp,gh hN e3 e1⟩)
     ·exact e' (bJ e1)
    rcases r with rfl|⟨rfl,rfl⟩
    ·rcases F7 with rfl|rfl|rfl
     ·exact absurd (.inl rfl) no
     ·exact absurd (.inr rfl) no
     ·exact⟨e,.inr hk0⟩
    ·exact⟨e,.inl hk0⟩
   have e3:VB i0.scope y:=e3
   rcases e3 with e3|e3|e3
   ·exact key _ e3 (.inl rfl)
   ·exact key _ e3 (.inr (.inl rfl))
   ·exact key _ e3 (.inr (.inr rfl))
  obtain⟨m,hn,hl⟩:=I.loc
  have Yk:VB X.env.scope y:=(ok.free _ (bN Lv.1) rfl).elim (λk=> .inr (.inl k)) (λk=> .inr (.inr k))
  obtain⟨w,r,q⟩:=hl i y av e1 e2 Yk
  refine⟨w,r,.inr ⟨Lv.2,?_⟩⟩
  obtain⟨c,h1,h2⟩:=look Lv.1
  rcases q with ⟨k,_⟩|⟨_,c',e',z⟩
  ·have k:X.env.scope.names.lookup y=some .local:=k
   rcases ok.free _ (bN Lv.1) rfl with k'|k'<;>rw[show X.env.scope.names.lookup y=_ from k']at k<;>cases k
  ·rw[h2]at e';cases e'
   exact⟨c,h1,z.keeps kp⟩
 ·have e:i0.cells.lookup y=some c:=e
  rcases mem e with ⟨h1,_⟩|⟨_,z⟩
  ·obtain⟨w,z⟩:=I.cell y c h1
   exact⟨w,z.keeps kp⟩
  ·exact⟨_,z⟩
 ·show H i0.locals=none
  rw[hL];exact I.hok.fresh (aO _)
 ·have e:i0.cells.lookup y=some c:=e
  rcases mem e with ⟨h1,_⟩|⟨h1,_⟩
  ·exact I.freeC y c h1
  ·exact I.hok.fresh (oj h1)
 ·exact absurd (show p∈([]:List (Addr×Obj))++[]from hp) (by simp)
theorem Mg {E:Value->ao->Prop} {D:Addr} {xs:List V} {y:V} {v:Value} {Q:Value->ao->Prop} (I:bG X pins σ H s) (hD:H D=some (.lst xs)) (hz:xs.length<sizeLine) (r:dQ y v)
  (h:∀s',bG X pins σ (fC H D (.lst (xs++[y]))) s'->Q .none s'):wpAny (aU X.prog X.w) X.A (call (.builtin "list.append") [.ref D,v]) Q E s:=by
 obtain⟨Xj,bW,n,ri,e⟩:=I.hok D _ hD
 have hl:=ri.length
 refine append_at (hsz:=by rw[aG];omega) e λh' sb ho'=>?_
 refine h {s with heap:=h'} (I.write (t':=s.toks) (by rw[hD];trivial) (.inl rfl) (λb u hb q=>(sb.2 b hb).trans q) ⟨_,ho'⟩ ⟨by rw[aj];exact hz,bW++[v],n+1,ri.append (.cons r .nil),?_⟩)
 rw[ho']
 simp
def Sa (X:Cx) (ifs:List aS) (t:TT):Prop:=
 ∀(pins:List (Addr×Obj)) (s:ao) (σ:St) (H:Hp) (Q:Bool->Hp->Prop),bG X pins σ H s->t σ H Q->
  wpAny (aU X.prog X.w) X.A (forIn ifs true λc r=>if r=true then do let ok<-isTrue c X.env (eval c X.env);pure (je ok)else pure (je r)) (TP X pins σ Q) X.xe s
def HU:TT:=λ_ H Q=>Q true H
theorem yF:Sa X [] HU:=λ_ _ _ H _ I h=>wpAny_tests_nil ⟨H,I,h⟩
theorem PN {c:aS} {t:TT} (h:PT X c t):Sa X [c] t:=λpins s σ H Q I hw=>wpAny_tests_one (h pins s σ H Q I hw)
end
theorem CY {α:Type} {t:Sem α} {Q Q':α->ao->Prop} {M:Model} {A:cG} {E:Value->ao->Prop} {s:ao} (h:wpAny M A t Q (λ_ _=>False) s) (hQ:∀a s,Q a s->Q' a s):wpAny M A t Q' E s:=wpAny_mono h hQ λ_ _ z=>eW z
theorem vo {prog:bR} {w:du} {A:cG} {R:Result->ao->Prop} {s:ao} {elt target iter:aS} {ifs:List aS} {scope:Scope} {pos:Pos} {it acc:Value} {env:Env} (I:Nat->ao->Prop)
  (turn:∀n s,I n s->wpAny (aU prog w) A (t5 it) (λr s₁=>match r with
   |none=>R (.ok .next) s₁
   |some v=>wpAny (aU prog w) A (uF target it v) (λ_ s₁'=>wpAny (aU prog w) A (lh target env v) (λ_ s₂=>
     wpAny (aU prog w) A (forIn ifs true λc r=>if r=true then do let ok<-isTrue c env (eval c env);pure (je ok)else pure (je r)) (λok s₃=>
      if ok=true then wpAny (aU prog w) A (eval elt env) (λx s₄=>
       wpAny (aU prog w) A (call (.builtin "list.append") [acc,x]) (λ_ s₅=>∃m,m<n/\I m s₅) (notedBy (aU prog w) A env λe s'=>R (.error e) s') s₄) (notedBy (aU prog w) A env λe s'=>R (.error e) s') s₃
      else ∃m,m<n/\I m s₃) (notedBy (aU prog w) A env λe s'=>R (.error e) s') s₂) (notedBy (aU prog w) A env λe s'=>R (.error e) s') s₁') (notedBy (aU prog w) A env λe s'=>R (.error e) s') s₁) (notedBy (aU prog w) A env λe s'=>R (.error e) s') s)
  (n:Nat) (h:I n s):
  codeAny (aU prog w) A (.compLoop (.ListComp elt [⟨target,iter,ifs,0⟩] scope pos) 0 it acc env) R s:=by
 refine codeAny_loop rfl I (λn s hI=>?_) n h
 show wpAny _ A ((compTurn (.ListComp elt [⟨target,iter,ifs,0⟩] scope pos) 0 it acc env).onRaise (λx=>do oq x env;theTreesLotGoes x)) _ _ s
 refine wpAny_noted ?_
 rw[compTurn_list]
 refine wpAny_bind (qo (wpAny_bind (wpAny_mono (turn n s hI) (λr s₁ h₁=>?_) λ_ _ h'=>h')))
 cases r with
 |none=>exact wpAny_pure h₁
 |some v=>
  refine wpAny_bind (wpAny_mono h₁ (λ_ s₁' h₁'=>?_) λ_ _ h'=>h')
  refine wpAny_bind (wpAny_mono h₁' (λ_ s₂ h₂=>wpAny_bind (wpAny_mono h₂ (λok s₃ h₃=>?_) λ_ _ h'=>h')) λ_ _ h'=>h')
  cases ok with
  |false=>exact wpAny_pure ⟨rfl,h₃⟩
  |true=>
   exact wpAny_bind (wpAny_bind (wpAny_mono h₃ (λx s₄ h₄=>wpAny_bind (wpAny_mono h₄ (λ_ s₅ h₅=>wpAny_pure (wpAny_pure ⟨rfl,h₅⟩)) λ_ _ h'=>h')) λ_ _ h'=>h'))
section
variable {X:Cx}
def OP (wi:TI) (g:TG) (tt:TT) (te:TE) (vs:List Nat):TE:=λσ H Q=>wi σ H λJ H1=>∀D,H1 D=none->∃W:Nat->Nat->Hp->Prop,(∃m,W 0 m (fC H1 D (.lst [])))/\∀i m H,W i m H->
 (J.stop i H/\Q (.ref D) H)\/(J.go i H/\∃Nx:Hp->Prop,(∀H',Nx H'->∃m',m'<m/\W (i+1) m' H')/\∀x H',J.yld i H x H'->g x (wipe σ vs) H' λσ2 H2=>wipe σ2 vs=wipe σ vs/\tt σ2 H2 λb H3=>
  if b=true then te σ2 H3 λy H4=>∃acc,H4 D=some (.lst acc)/\acc.length<sizeLine/\Nx (fC H4 D (.lst (acc++[y])))else Nx H3)
theorem Jo {pins:List (Addr×Obj)} {s:ao} {σ:St} {H:Hp} {Q:VK} {elt tg iter:aS} {ifs:List aS} {scope:Scope} {own:List (Str×Nat)} {pos pos':Pos} {wi:TI} {g:TG} {tt:TT} {te:TE} {use:Option (Value->Sem Unit)} {Qf:Value->ao->Prop}
  (hc:X.calm=true) (hN:X.N.Nodup) (I:bG X pins σ H s) (hi:PI X tg iter wi) (ok:km X.N X.env.scope scope own)
  (hg:∀(s:ao) (H:Hp) (C:Addr) (cl:List (Str×Addr)) (fp:List Addr),PG (X.blk s H scope (dJ scope cl C X.env) fp) tg g) (ht:∀(s:ao) (H:Hp) (C:Addr) (cl:List (Str×Addr)) (fp:List Addr),Sa (X.blk s H scope (dJ scope cl C X.env) fp) ifs tt)
  (he:∀(s:ao) (H:Hp) (C:Addr) (cl:List (Str×Addr)) (fp:List Addr),PE (X.blk s H scope (dJ scope cl C X.env) fp) elt te) (hs:∀x,bL iter X.env x=pure x)
  (h:OP wi g tt te (own.map (·.2)) σ H Q)
  (Z9:∀D C s' m H',bG X pins σ H' s'->Q (.ref D) H'->s'.heap.Ns C m->qL X pins H' C->compPost (aU X.prog X.w) X.A X.xe use Qf (.ref D) C (.ok .next) s'):
  wpAny (aU X.prog X.w) X.A (yC (.ListComp elt [⟨tg,iter,ifs,0⟩] scope pos) scope X.env pos' (newList []) false (eval iter X.env) use) Qf X.xe s:=by
 have xE:∀y∈scope.names,y.2= .free->∃c,X.env.cells.lookup y.1=some c:=λy hy e=>by
  rcases ok.free y hy e with k|k
  ·exact I.ok.has _ (.inl k)
  ·exact I.ok.has _ (.inr k)
 refine JD (use:=use) rfl hs (zX xE) ok.kind (λy hy e=>by rw[ok.uniq y hy,e])
  (fb (hi pins s σ H _ I h) λxv s1 hx=>fb hx λXC s2 h2=>?_)
 obtain⟨it,fp,tn,J,H2,e,I2,T,UD,f2,q⟩:=h2
 subst e
 refine fI (xS ?_) (by show 0<=sizeLine;decide)
 generalize hD:s2.heap.objs.size=D
 have YF:H2 D=none:=I2.hok.fresh (ko hD)
 obtain⟨W,⟨m0,w0⟩,turn⟩:=q D YF
 
 generalize PM:({s2 with heap:=s2.heap.push {cls:= .type "list",data:= .seq ([]:List Value).toArray}}:ao)=s3
 have I3:bG X pins σ (fC H2 D (.lst [])) s3:=by
  rw[<-PM]
  refine I2.laid (t':=s2.toks) (λb o e=>au _ e) (ko hD) ⟨eS _,[],0,.nil,?_⟩
  rw[<-hD]
  exact aK _ rfl
 have h3:s3.heap=s2.heap.push {cls:= .type "list",data:= .seq ([]:List Value).toArray}:=by rw[<-PM]
 have sz:∀b∈fp,b<s2.heap.objs.size:=λb hb=>by
  obtain⟨o,e,_⟩:=T.obj _ _ UD b hb
  exact aN e
 have f3:∀b∈fp,qL X pins (fC H2 D (.lst [])) b/\b<s3.heap.objs.size:=λb hb=>by
  have jb:=sz b hb
  refine⟨⟨?_,(f2 b hb).2⟩,by rw[h3,bz];exact om jb⟩
  rw[cb (by rw[<-hD];exact cA jb)]
  exact(f2 b hb).1
 have Vo:tn 0 s3.heap:=T.keep _ _ _ UD λb _ o e=>by rw[h3];exact au _ e
 have I4:=xJ I3 ok hN f3
 have pg:=hg s3 (fC H2 D (.lst [])) s3.heap.objs.size (cO (s3.heap.objs.size+1) scope.names (dN X.env.cells scope.names [])) fp
 have pt:=ht s3 (fC H2 D (.lst [])) s3.heap.objs.size (cO (s3.heap.objs.size+1) scope.names (dN X.env.cells scope.names [])) fp
 have pe:=he s3 (fC H2 D (.lst [])) s3.heap.objs.size (cO (s3.heap.objs.size+1) scope.names (dN X.env.cells scope.names [])) fp
 show codeAny _ _ (.compStart (.ListComp elt [⟨tg,iter,ifs,0⟩] scope pos) 0 (.ref it) (.ref D) (dJ scope (cO (s3.heap.objs.size+1) scope.names (dN X.env.cells scope.names [])) s3.heap.objs.size X.env)) (compPost (aU X.prog X.w) X.A X.xe use Qf (.ref D) s3.heap.objs.size) {s3 with heap:=kG (s3.heap.push {cls:= .type "dict",data:= .dict #[]}) scope.names}
 have We:∀b∈fp,(fC H2 D (.lst [])) b=none:=λb hb=>(f3 b hb).1.1
 generalize RK:dJ scope (cO (s3.heap.objs.size+1) scope.names (dN X.env.cells scope.names [])) s3.heap.objs.size X.env=ce at I4 pg pt pe⊢
 have cL:ce.locals=s3.heap.objs.size:=by subst RK;rfl
 generalize hH3:fC H2 D (.lst [])=H3 at I3 I4 pg pt pe w0 We f3
 generalize Rn:({s3 with heap:=kG (s3.heap.push {cls:= .type "dict",data:= .dict #[]}) scope.names}:ao)=s4 at I4⊢
 have Wz:tn 0 s4.heap:=T.keep _ _ _ Vo λb _ o e=>by rw[<-Rn];exact pushCells_keeps _ _ _ _ (au _ e)
 have zE:∀{σ':St} {H':Hp} {s':ao},bG (X.blk s3 H3 scope ce fp) [] σ' H' s'->(∀b∈fp,H' b=none)->∀b∈fp,qL (X.blk s3 H3 scope ce fp) [] H' b:=λ{σ' H' s'} I' hn b hb=>
  ⟨hn b hb,(I'.ok.exf b hb).1,I'.ok.exfs b hb,.inl hb,λx c e=>(I'.ok.exf b hb).2 x c e,λp hp=>absurd (show p∈([]:List (Addr×Obj))++[]from hp) (by simp)⟩
 have loop:codeAny (aU X.prog X.w) X.A (.compLoop (.ListComp elt [⟨tg,iter,ifs,0⟩] scope pos) 0 (.ref it) (.ref D) ce) (compPost (aU X.prog X.w) X.A X.xe use Qf (.ref D) s3.heap.objs.size) s4:=by
  refine vo (λn s'=>∃i H',bG (X.blk s3 H3 scope ce fp) [] (wipe σ (own.map (·.2))) H' s'/\tn i s'.heap/\(∀b∈fp,H' b=none)/\W i n H') ?_ m0 ⟨0,H3,I4,Wz,We,w0⟩
  rintro n s5 ⟨i,H5,I5,Pp,n5,w5⟩
  rcases turn i n H5 w5 with ⟨stop,qq⟩|⟨go,Nx,Y3,step⟩
  ·have td:=T.done (X.blk s3 H3 scope ce fp) rfl rfl rfl hc i [] s5 _ H5 (λ_ _=>False) I5 (zE I5 n5) Pp stop
   refine CY td λr s6 ⟨hr,I6⟩=>?_
   subst hr
   
   have I7:bG X pins σ H5 s6:=I3.call' (ch:=fp) I6.os I6.base I6.hok I6.bare λb hb=>⟨(f3 b hb).1.2.2.2.1,(f3 b hb).1.2.1,(f3 b hb).1.2.2.2.2.1,(f3 b hb).1.2.2.2.2.2⟩
   have nC:H5 s3.heap.objs.size=none:=by
    have z:H5 ce.locals=none:=I6.free
    rw[cL]at z
    exact z
   obtain⟨m,hn,_⟩:=I6.loc
   have hn:s6.heap.Ns ce.locals m:=hn
   rw[cL]at hn
   exact Z9 D s3.heap.objs.size s6 m H5 I7 qq hn (I3.fpOk (aO _) nC)
  ·have ti:=T.item (X.blk s3 H3 scope ce fp) rfl rfl rfl hc i [] s5 _ H5 (λ_ _=>False) I5 (zE I5 n5) Pp go
   refine CY ti λr s6 ⟨u,hr,h6⟩=>?_
   subst hr
   refine CY h6 λ_ s7 ⟨x,H7,I7,r7,y7,S1,n7⟩=>?_
   have Zd:=I7.pinned (zE I7 n7) (T.obj _ _ S1)
   refine CY (pg _ s7 _ H7 x u _ Zd r7 (step x H7 y7)) λ_ s8 ⟨σ8,H8,I8,Xg,q8⟩=>?_
   refine CY (pt _ s8 σ8 H8 _ I8 q8) λb s9 ⟨H9,I9,q9⟩=>?_
   
   have fin:∀{s':ao} {H':Hp},bG (X.blk s3 H3 scope ce fp) ([]++wN fp s7.heap) σ8 H' s'->Nx H'->∃m,m<n/\∃i H',bG (X.blk s3 H3 scope ce fp) [] (wipe σ (own.map (·.2))) H' s'/\tn i s'.heap/\(∀b∈fp,H' b=none)/\W i m H':=λ{s' H'} I' nx=>by
    obtain⟨m',hm,w'⟩:=Y3 H' nx
    have L1:∀b∈fp,∀o,s7.heap.get? b=some o->s'.heap.get? b=some o/\H' b=none:=λb hb o e=>
     let z:=I'.pin (b,o) (bB _ (bB _ (oP hb e)))
     ⟨z.1,z.2.1⟩
    have hl:(wipe σ (own.map (·.2))).length=σ8.length:=by rw[<-Xg,fg]
    refine⟨m',hm,i+1,H',(I'.unpinned (pins:=[])).weak hl (λj v e=>?_),T.keep _ _ _ S1 λb hb o e=>(L1 b hb o e).1,λb hb=>?_,w'⟩
    ·rw[<-Xg]at e
     exact(sr e).1
    ·obtain⟨o,e,_⟩:=T.obj _ _ S1 b hb
     exact(L1 b hb o e).2
   cases b with
   |false=>
    simp only[cq,if_false]at q9⊢
    exact fin I9 q9
   |true=>
    simp only[if_true]at q9⊢
    refine CY (pe _ s9 σ8 H9 _ I9 q9) λz s10 ⟨yv,H10,Yu,Za,acc,Tt,Tv,nx⟩=>?_
    exact Mg (X:=X.blk s3 H3 scope ce fp) Yu Tt Tv Za λs11 Yo=>fin Yo nx
 exact LF loop (T.self X.A 0 _ _ _ Wz loop)
theorem Sb {elt tg iter:aS} {ifs:List aS} {scope:Scope} {own:List (Str×Nat)} {pos:Pos} {wi:TI} {g:TG} {tt:TT} {te:TE} (hc:X.calm=true) (hN:X.N.Nodup) (hi:PI X tg iter wi) (ok:km X.N X.env.scope scope own)
  (hg:∀(s:ao) (H:Hp) (C:Addr) (cl:List (Str×Addr)) (fp:List Addr),PG (X.blk s H scope (dJ scope cl C X.env) fp) tg g) (ht:∀(s:ao) (H:Hp) (C:Addr) (cl:List (Str×Addr)) (fp:List Addr),Sa (X.blk s H scope (dJ scope cl C X.env) fp) ifs tt)
  (he:∀(s:ao) (H:Hp) (C:Addr) (cl:List (Str×Addr)) (fp:List Addr),PE (X.blk s H scope (dJ scope cl C X.env) fp) elt te) (hs:∀x,bL iter X.env x=pure x:=by intro _;rfl):
  PE X (.ListComp elt [⟨tg,iter,ifs,0⟩] scope pos) (OP wi g tt te (own.map (·.2))):=by
 intro pins s σ H Q I h
 rw[eval_ListComp]
 refine Jo hc hN I hi ok hg ht he hs h λD C s' m H' I' q hn f=>⟨m,hn,λJR sb=>?_⟩
 obtain⟨f0,f1,f2,f3,f4,f5⟩:=f
 exact⟨.ref D,H',I'.turned (t':=s'.toks) (λb o hb e=>(sb.2 b hb).trans e) f0 f1 f3 f4 f5,rfl,q⟩
theorem Oz {i:Nat} {y:Str} {py:Pos} {elt tg iter:aS} {ifs:List aS} {scope:Scope} {own:List (Str×Nat)} {pos uu:Pos} {wi:TI} {g:TG} {tt:TT} {te:TE} (hc:X.calm=true) (hN:X.N.Nodup) (hy:X.N[i]? =some y) (Ws:X.env.scope.names.lookup y=some .local)
  (ZP:eA (.ListComp elt [⟨tg,iter,ifs,0⟩] scope pos) (some (.Name y py)) uu.line X.env=pure true) (hi:PI X tg iter wi) (ok:km X.N X.env.scope scope own)
  (hg:∀(s:ao) (H:Hp) (C:Addr) (cl:List (Str×Addr)) (fp:List Addr),PG (X.blk s H scope (dJ scope cl C X.env) fp) tg g) (ht:∀(s:ao) (H:Hp) (C:Addr) (cl:List (Str×Addr)) (fp:List Addr),Sa (X.blk s H scope (dJ scope cl C X.env) fp) ifs tt)
  (he:∀(s:ao) (H:Hp) (C:Addr) (cl:List (Str×Addr)) (fp:List Addr),PE (X.blk s H scope (dJ scope cl C X.env) fp) elt te) (hs:∀x,bL iter X.env x=pure x:=by intro _;rfl):
  PS X (.Assign [.Name y py] (.ListComp elt [⟨tg,iter,ifs,0⟩] scope pos) uu) (O7 (OP wi g tt te (own.map (·.2))) (AE i)):=by
 intro pins s σ H D I h
 rw[OG _ _ _ _ ZP]
 refine wpAny_bind (qo (wpAny_bind ?_))
 show wpAny _ X.A (do let _<-yC (.ListComp elt [⟨tg,iter,ifs,0⟩] scope pos) scope X.env (firstIterPos [⟨tg,iter,ifs,0⟩] pos) (newList []) false (eval iter X.env) (some (lh (.Name y py) X.env))) _ _ s
 have h:OP wi g tt te (own.map (·.2)) σ H (λx H1=>AE i x σ H1 D.nx):=h
 refine wpAny_bind (fb (Jo (Qf:=λ_ s'=>SP X pins D .next s') hc hN I hi ok hg ht he hs h λL C s' m H' I' q hn f=>?_) λ_ s' hq=>wpAny_pure (wpAny_pure hq))
 show wpAny _ _ (lh (.Name y py) X.env (.ref L)) _ _ _
 refine AW (wO (v:=V.ref L) I' hN hy (.inl Ws) rfl (λs2 I2 ⟨a,sb,ha⟩=>?_) (.inr Ws))
 obtain⟨f0,f1,f2,f3,f4,f5⟩:=f
 have YG:C≠a:=by
  rcases ha with z|z
  ·rw[z];exact f1
  ·exact λe=>f4 y a z e.symm
 refine⟨m,hn.sameBut sb YG,λh3 YX=>?_⟩
 exact⟨_,H',I2.turned (t':=s2.toks) (λb o hb e=>(YX.2 b hb).trans e) f0 f1 f3 f4 f5,q⟩
theorem Iv {elt:aS} {gs:List JE} {scope:Scope} {pos py:Pos} {y:Str} {l:Nat} {env:Env} (hk:env.scope.kind= .function) (hy:env.scope.names.lookup y=some .local) (hl:(py.line==pos.line)=true)
  (ha:(scope.names.any λ(n,k)=>n==y&&(k== .local||k== .cell))=false):eA (.ListComp elt gs scope pos) (some (.Name y py)) l env=pure true:=by
 have ky:env.kindOf y=some .local:=hy
 have hb:env.blockKind= .function:=by unfold Env.blockKind;rw[hk];rfl
 unfold eA
 simp only[hb,ky,ha,aS.pos,hl]
 rfl
end
def Eo (N:List Str) (sc scope:Scope) (own:List (Str×Nat)):Bool:=
 (match scope.kind with| .function=>true|_=>false)&&(scope.names.all λy=>decide (scope.names.lookup y.1=some y.2))&&(own.all λp=>decide (N[p.2]? =some p.1))&&
  (scope.names.all λy=>match y.2 with
   | .free=>(match sc.names.lookup y.1 with|some .cell=>true|some .free=>true|_=>false)
   | .local=>decide (y.1∈own.map (·.1))||decide (y.1∉N)
   | .cell=>decide (y.1∈own.map (·.1))||decide (y.1∉N)
   |_=>true)
theorem ka {N:List Str} {sc scope:Scope} {own:List (Str×Nat)} (h:Eo N sc scope own=true):km N sc scope own:=by
 unfold Eo at h
 simp only[aH,o9,decide_eq_true_eq]at h
 obtain⟨⟨⟨h1,h2⟩,h3⟩,h4⟩:=h
 refine⟨?_,h2,h3,λy hy e=>?_,λy hy e=>?_⟩
 ·split at h1
  ·assumption
  ·cases h1
 ·have q:=h4 y hy
  simp only[e]at q
  split at q<;>first|exact .inl (by assumption)|exact .inr (by assumption)|cases q
 ·have q:=h4 y hy
  rcases e with e|e<;>(simp only[e,eP,decide_eq_true_eq]at q;exact q)
end L2
namespace L2
open PySem PySem.Spec PyProof.Rows
theorem Al:dv "reversed"=some (.type "reversed"):=by decide+kernel
section
variable {X:Cx} {pins:List (Addr×Obj)} {σ:St} {H:Hp} {s:ao} {h':Heap}
theorem bG.turnedL {t':Nat} {ch:List Addr} (I:bG X pins σ H s) (k:∀b o,b∉ch->s.heap.get? b=some o->h'.get? b=some o) (hf:∀b∈ch,qL X pins H b):bG X pins σ H {s with heap:=h',toks:=t'}:=by
 have Se:∀b u,H b=some u->b∉ch:=λb u e z=>by
  have q:=(hf b z).1
  rw[q]at e;cases e
 refine I.step (g':=s.gens) (d':=s.drawn) (ch:=ch) (λb hb=>⟨(hf b hb).2.2.2.1,(hf b hb).2.1,(hf b hb).2.2.2.2.1,(hf b hb).2.2.2.2.2⟩) (λb o _ _ hc e _=>k b o hc e) (λb o _ _ hc e _=>⟨o.slots,k b o hc e⟩)
  (λ_ _ _ _ n=>n) (λb o hc e=>⟨o,k b o hc e⟩) (λ_ _ e=>e) (λ_ _ _ e=>e) (λb ps e=>⟨#[],by rw[e];simp⟩) (λm hm=>?_) (λb u e=>?_) I.bare
 ·obtain⟨o,es,ep,ho,r⟩:=hm
  exact⟨o,es,ep,k _ o (λz=>(hf _ z).2.1 rfl) ho,r⟩
 ·refine(I.hok b u e).stay (λc v hc q=>k c v ?_ q) (λ_ q=>q) λ_ _ q=>q
  rcases hc with z|z
  ·rw[z];exact Se b u e
  ·exact Se c _ z
theorem bG.turnedNew {t':Nat} {ch:List Addr} {T:Addr} {ob:HO} (I:bG X pins σ H s) (k:∀b o,b∉ch->s.heap.get? b=some o->h'.get? b=some o) (hf:∀b∈ch,qL X pins H b) (hT:s.heap.objs.size<=T)
  (new:kW X.prog X.w (fC H T ob) h' T ob):bG X pins σ (fC H T ob) {s with heap:=h',toks:=t'}:=by
 have hn:H T=none:=I.hok.fresh hT
 have Se:∀b u,H b=some u->b∉ch:=λb u e z=>by
  have q:=(hf b z).1
  rw[q]at e;cases e
 refine I.step (g':=s.gens) (d':=s.drawn) (ch:=ch) (λb hb=>⟨(hf b hb).2.2.2.1,(hf b hb).2.1,(hf b hb).2.2.2.2.1,(hf b hb).2.2.2.2.2⟩) (λb o _ _ hc e _=>k b o hc e) (λb o _ _ hc e _=>⟨o.slots,k b o hc e⟩)
  (λb o _ e n=>?_) (λb o hc e=>⟨o,k b o hc e⟩) (λb xs e=>?_) (λb o u e=>?_) (λb ps e=>⟨#[],?_⟩) (λm hm=>?_) (λb u e=>?_) I.bare
 ·rw[cb (cA (aX (aN e) hT))];exact n
 ·rw[cb (cJ e hn)];exact e
 ·rw[cb (cJ e hn)];exact e
 ·rw[cb (cJ e hn),e];simp
 ·obtain⟨o,es,ep,ho,r⟩:=hm
  exact⟨o,es,ep,k _ o (λz=>(hf _ z).2.1 rfl) ho,r⟩
 ·by_cases hb:b=T
  ·subst hb
   rw[cp]at e
   cases e
   exact new
  ·rw[cb hb]at e
   refine(I.hok b u e).stay (λc v hc q=>k c v ?_ q) (λc q=>by rw[cb (cJ q hn)];exact q) λc xs q=>by rw[cb (cJ q hn)];exact q
   rcases hc with z|z
   ·rw[z];exact Se b u e
   ·exact Se c _ z
end
section
variable {X:Cx}
theorem MI {tg:aS} {pins:List (Addr×Obj)} {σ:St} {H:Hp} {s:ao} {R:It->Hp->Prop} {J:It} {tn:Nat->Heap->Prop} {tk:Nat} (I:bG X pins σ H s) (o:Obj)
  (T:DG X.prog X.w X.K tg J [s.heap.objs.size] s.heap.objs.size tn) (st:tn 0 (s.heap.push o)) (q:R J H):Wm X pins σ tg R (.ref s.heap.objs.size) {s with heap:=s.heap.push o,toks:=tk}:=by
 refine⟨s.heap.objs.size,[s.heap.objs.size],tn,J,H,rfl,I.kept λb ob e=>au _ e,T,st,λb hb=>?_,q⟩
 have e:b=s.heap.objs.size:=by simpa using hb
 subst e
 exact I.fpOk (aO _) (I.hok.fresh (aO _))
end
def YB (lo c:Int) (n:Nat):It:=⟨λi _=>i<n,λi H x H'=>H'=H/\x= .int (lo+(i:Nat)*c),λi _=>n<=i⟩
theorem El {P:bR} {w:du} {K:ag} {tg:aS} (it:Addr) (lo c:Int) (n:Nat):DG P w K tg (YB lo c n) [it] it (λi h=>IsRangeIter h it (lo+(i:Nat)*c) ((n:Int)-(i:Nat)) c) where
 mem:=by simp
 obj:=λi h st b hb=>by
  have e:b=it:=by simpa using hb
  subst e
  exact⟨_,st,λv z=>nomatch z⟩
 keep:=λi h h' st k=>k it (by simp) _ st
 item:=by
  intro X hP hw hK hc i pins s σ H E I hf st hg
  subst hP hw hK
  obtain⟨f0,f1,f2,f3,f4,f5⟩:=hf it (by simp)
  have W:=Walks.range (prog:=X.prog) (w:=X.w) (I.ok.hd hc) it lo c n
  refine W.item i s _ _ hg st λv h' tk hv HG kk=>?_
  obtain⟨t,rfl⟩:=hv
  have I1:bG X pins σ H {s with heap:=h',toks:=tk}:=I.turned (λb o hb e=>kk b o (by simpa using hb) e) f0 f1 f3 f4 f5
  exact⟨_,rfl,E5 (s:={s with heap:=h',toks:=tk}) (n:="range_iterator") HG rfl rfl (by decide) ⟨.int (lo+(i:Nat)*c),H,I1,⟨t,rfl⟩,⟨rfl,rfl⟩,HG,λb hb=>(hf b hb).1⟩⟩
 done:=by
  intro X hP hw hK hc i pins s σ H E I hf st hg
  subst hP hw hK
  obtain⟨f0,f1,f2,f3,f4,f5⟩:=hf it (by simp)
  exact LA (I.ok.hd hc) st (by have:n<=i:=hg;lia) λh' eb=>⟨rfl,I.turned (t':=s.toks) (λb o hb e=>eb b o hb e) f0 f1 f3 f4 f5⟩
 self:=λA i s Q E st h=>wpAny_pyIter_rangeiter st h
def NA (i j c:Int) (n:Nat):Prop:=c≠0/\c.natAbs<1073741824/\AO i j c=true/\fZ i j c=n
theorem NA.neg {i j:Int} (ha: -(2^62)<=i) (ha':i<2^62) (hb: -(2^62)<=j) (Sz:j<2^62):NA i j (-1) (i-j).toNat:=
 ⟨by decide,by decide,PySem.W.small_down ha ha' hb Sz,PySem.W.rangeSize_downNat i j⟩
def WI (ta:TA):TI:=λσ H R=>ta σ H λvs H1=>∃(i j c:Int) (n:Nat),vs=[.int i,.int j,.int c]/\NA i j c n/\R (YB i c n) H1
section
variable {X:Cx} {tg:aS}
theorem Ke {a b c:aS} {ta:TA} {p pos:Pos} (hg:Gl X "range") (hm:X.mg "range"=none) (ha:PA X [a,b,c] ta)
  (hs:ak [a,b,c] X.env=(false,eval a X.env)::ak [b,c] X.env:=by rfl) (hpl:(cw pos (ak [b,c] X.env)).any (·.1)=false:=by rfl):
  PI X tg (.Call (.Name "range" p) [a,b,c] [] pos) (WI ta):=by
 intro pins s σ H R I h
 refine Call_ (oG I hg hm Sv (cx (fb (ha pos pins s σ H _ I h) λus s1 ⟨vs,H1,I1,r1,q1⟩=>?_) hs hpl))
 obtain⟨i,j,k,n,e,⟨c0,c1,c2,c3⟩,q⟩:=q1
 subst e
 cases r1 with
 |cons r rr=>
  cases rr with
  |cons r' rr=>
   cases rr with
   |cons r'' rr=>
    cases rr
    obtain⟨t,rfl⟩:=r
    obtain⟨t',rfl⟩:=r'
    obtain⟨t'',rfl⟩:=r''
    refine call_range_3 c0 ?_ (.inl (CI c1))
    refine Su (IsRange.new ..) c2 ?_
    have I2:bG X pins σ H1 {s1 with heap:=s1.heap.push {cls:= .type "range",data:= .fields #[.int i t,.int j t',.int k t'']}}:=I1.kept (t':=s1.toks) λb o e=>au _ e
    refine MI (tk:=s1.toks) I2 _ (El _ i k n) ?_ q
    have e1:i+((0:Nat):Int)*k=i:=by simp
    have e2:(n:Int)-((0:Nat):Int)=fZ i j k:=by rw[c3];simp
    show IsRangeIter _ _ (i+((0:Nat):Int)*k) ((n:Int)-((0:Nat):Int)) k
    rw[e1,e2]
    exact aK _ rfl
end
theorem wK:dv "zip"=some (.type "zip"):=by decide+kernel
def Itz (K:ag) (a b:Addr):It:=
 ⟨λi H=>∃(xs ys:List V) (x y:V),iL K H a xs/\iL K H b ys/\xs[i]? =some x/\ys[i]? =some y,
  λi H v H'=>∃T x y,v= .ref T/\H T=none/\H'=fC H T (.tup [x,y])/\(∀xs,iL K H a xs->xs[i]? =some x)/\∀ys,iL K H b ys->ys[i]? =some y,
  λi H=>∃xs ys:List V,iL K H a xs/\iL K H b ys/\(xs.length<=i\/ys.length<=i)⟩
theorem OD {P:bR} {w:du} {K:ag} {elts:List aS} {kk:Nat} {n8:Pos} {a b z TI TO i1 i2:Addr} (D:ZipApart z TI TO i1 i2 a b):
  DG P w K (.Tuple elts kk n8) (Itz K a b) [z,TI,TO,i1,i2] z (λi h=>IsZip h z TI TO .none/\IsPair h TI (.ref i1) (.ref i2)/\(∃x y,IsPair h TO x y)/\h.IsListIter i1 a i/\h.IsListIter i2 b i) where
 mem:=by simp
 obj:=λi h st c hc=>by
  obtain⟨hz,vf,⟨x,y,AS⟩,⟨o1,e1,_,d1⟩,⟨o2,e2,_,d2⟩⟩:=st
  have e':c=z\/c=TI\/c=TO\/c=i1\/c=i2:=by simpa using hc
  rcases e' with q|q|q|q|q
  ·rw[q];exact⟨_,hz,λv q=>nomatch q⟩
  ·rw[q];exact⟨_,vf,λv q=>nomatch q⟩
  ·rw[q];exact⟨_,AS,λv q=>nomatch q⟩
  ·rw[q];exact⟨o1,e1,λv q=>by rw[d1]at q;cases q⟩
  ·rw[q];exact⟨o2,e2,λv q=>by rw[d2]at q;cases q⟩
 keep:=λi h h' st k=>by
  obtain⟨hz,vf,⟨x,y,AS⟩,h1,h2⟩:=st
  exact⟨k z (by simp) _ hz,k TI (by simp) _ vf,⟨x,y,k TO (by simp) _ AS⟩,h1.at λo q=>k i1 (by simp) o q,h2.at λo q=>k i2 (by simp) o q⟩
 item:=by
  intro X hP hw hK hc i pins s σ H E I hf st hg
  subst hP hw hK
  obtain⟨hz,vf,⟨x0,y0,AS⟩,h1,h2⟩:=st
  obtain⟨xs,ys,x,y,Vv,Vj,hx,hy⟩:=hg
  obtain⟨bW,rv,p,_⟩:=I.list Vv
  obtain⟨qa,Jm,p2,_⟩:=I.list Vj
  obtain⟨u,hu,ru⟩:=rv.get hx
  obtain⟨u2,hu2,YZ⟩:=Jm.get hy
  have WS:z<s.heap.objs.size:=aN hz
  refine wpAny_pyNext_zip_item D hz vf AS h1 h2 p.isList p2.isList (x:=u) (y:=u2) (by simpa using hu) (by simpa using hu2) λh' z' ZV Qv UK hT hsz hk=>?_
  refine⟨_,rfl,HZ (s:={s with heap:=h'}) z' λJR YJ sb=>?_⟩
  have Ym:JR.get? s.heap.objs.size=some {cls:= .type "tuple",data:= .seq #[u,u2]}:=(sb.2 _ (qp WS)).trans hT
  have new:kW X.prog X.w (fC H s.heap.objs.size (.tup [x,y])) JR s.heap.objs.size (.tup [x,y]):=
   ⟨by show 2<=sizeLine;decide,[u,u2],.cons ru (.cons YZ .nil),⟨_,Ym,rfl,_,rfl⟩⟩
  have I1:bG X pins σ (fC H s.heap.objs.size (.tup [x,y])) {s with heap:=JR}:=
   I.turnedNew (t':=s.toks) (ch:=[z,TI,TO,i1,i2]) (λc o hb q=>(sb.2 c (λq'=>hb (by simp[q']))).trans (hk c o (λq'=>hb (by simp[q'])) (λq'=>hb (by simp[q'])) (λq'=>hb (by simp[q'])) (λq'=>hb (by simp[q'])) q)) hf (aO _) new
  refine⟨.ref s.heap.objs.size,_,I1,rfl,⟨_,x,y,rfl,I.hok.fresh (aO _),rfl,λl hl=>by rw[I.list_inj hl Vv];exact hx,λl hl=>by rw[I.list_inj hl Vj];exact hy⟩,⟨YJ,?_,⟨u,u2,?_⟩,?_,?_⟩,λc Tq=>?_⟩
  ·exact(sb.2 _ D.TIz).trans (hk _ _ D.TIz D.TITO D.TIi1 D.TIi2 vf)
  ·exact(sb.2 _ D.TOz).trans ZV
  ·exact Qv.at λo q=>(sb.2 _ D.i1z).trans q
  ·exact UK.at λo q=>(sb.2 _ D.i2z).trans q
  ·have jb:c<s.heap.objs.size:=by
    have e':c=z\/c=TI\/c=TO\/c=i1\/c=i2:=by simpa using Tq
    rcases e' with q|q|q|q|q
    ·rw[q];exact WS
    ·rw[q];exact aN vf
    ·rw[q];exact aN AS
    ·rw[q];obtain⟨_,e1,_⟩:=h1;exact aN e1
    ·rw[q];obtain⟨_,e2,_⟩:=h2;exact aN e2
   rw[cb (cA jb)]
   exact(hf c Tq).1
 done:=by
  intro X hP hw hK hc i pins s σ H E I hf st hg
  subst hP hw hK
  obtain⟨hz,vf,⟨x0,y0,AS⟩,h1,h2⟩:=st
  obtain⟨xs,ys,Vv,Vj,WW⟩:=hg
  obtain⟨bW,rv,p,_⟩:=I.list Vv
  obtain⟨qa,Jm,p2,_⟩:=I.list Vj
  have l1:=rv.length
  have l2:=Jm.length
  have he:bW.toArray[i]? =none\/qa.toArray[i]? =none:=by
   rcases WW with q|q
   ·exact .inl (by simp;omega)
   ·exact .inr (by simp;omega)
  exact wpAny_pyNext_zip_end (I.ok.hd hc) D hz vf AS h1 h2 p.isList p2.isList he λh' hk=>⟨rfl,I.turnedL (t':=s.toks) (ch:=[z,TI,TO,i1,i2]) (λc o hb q=>
   hk c o (λq'=>hb (by simp[q'])) (λq'=>hb (by simp[q'])) (λq'=>hb (by simp[q'])) (λq'=>hb (by simp[q'])) q) hf⟩
 self:=λA i s Q E st h=>wpAny_pyIter_zip st.1 h
def aaC (K:ag) (ta:TA):TI:=λσ H R=>ta σ H λvs H1=>∃a b xs ys,vs=[.ref a,.ref b]/\iL K H1 a xs/\iL K H1 b ys/\R (Itz K a b) H1
theorem Th {X:Cx} {e e2:aS} {ta:TA} {p pos n8:Pos} {elts:List aS} {kk:Nat} (hg:Gl X "zip") (hm:X.mg "zip"=none) (ha:PA X [e,e2] ta)
  (hs:ak [e,e2] X.env=(false,eval e X.env)::ak [e2] X.env:=by rfl) (hpl:(cw pos (ak [e2] X.env)).any (·.1)=false:=by rfl):
  PI X (.Tuple elts kk n8) (.Call (.Name "zip" p) [e,e2] [] pos) (aaC X.K ta):=by
 intro pins s σ H R I h
 refine Call_ (oG I hg hm wK (cx (fb (ha pos pins s σ H _ I h) λus s1 ⟨vs,H1,I1,r1,q1⟩=>?_) hs hpl))
 obtain⟨a,b,xs,ys,ex,Vv,Vj,q⟩:=q1
 subst ex
 cases r1 with
 |cons r rr=>
  cases rr with
  |cons r' rr=>
   cases rr
   cases r
   cases r'
   obtain⟨bW,rv,p1,_⟩:=I1.list Vv
   obtain⟨qa,Jm,p2,_⟩:=I1.list Vj
   have la:a<s1.heap.objs.size:=p1.lt
   have lb:b<s1.heap.objs.size:=p2.lt
   refine call_zip_2 p1.isList p2.isList λh' hz vf AS h1 h2 hsz hk=>wpAny_pyIter_zip hz ?_
   have I2:bG X pins σ H1 {s1 with heap:=h'}:=I1.kept (t':=s1.toks) hk
   refine⟨s1.heap.objs.size+4,[s1.heap.objs.size+4,s1.heap.objs.size+2,s1.heap.objs.size+3,s1.heap.objs.size,s1.heap.objs.size+1],_,_,H1,rfl,I2,OD (PySem.W.ktu_apart s1.heap.objs.size a b la lb),⟨hz,vf,⟨_,_,AS⟩,h1,h2⟩,λc Tq=>?_,q⟩
   have e':c=s1.heap.objs.size+4\/c=s1.heap.objs.size+2\/c=s1.heap.objs.size+3\/c=s1.heap.objs.size\/c=s1.heap.objs.size+1:=by simpa using Tq
   have hle:s1.heap.objs.size<=c:=by
    rcases e' with z|z|z|z|z
    ·rw[z];exact g9 _ _
    ·rw[z];exact g9 _ _
    ·rw[z];exact g9 _ _
    ·rw[z];exact aO _
    ·rw[z];exact g9 _ _
   exact I1.fpOk hle (I1.hok.fresh hle)
end L2
namespace Att
open PySem PySem.W PySem.Calls PyProof.Rows
theorem yt {P:Params} {h:Heap}:∀(ns:List Int) (vs:List Value),WellAll P h vs (ns.map sT)->t9 vs ns:=by
 intro ns
 induction ns with
 |nil=>
  intro vs w
  rw[fG]at w
  cases w
  exact .nil
 |cons n ns ih=>
  intro vs w
  rw[bg]at w
  cases w with
  |cons a b=>
   cases a
   exact .cons _ _ (ih _ b)
end Att
namespace L2
open PySem PySem.Spec PyProof.Rows
theorem CA:∀{vs:List Value} {ns:List Int},t9 vs ns->b8 (ns.map V.int) vs
 |_,_,.nil=> .nil
 |_,_,.cons n t h=> .cons ⟨t,rfl⟩ (CA h)
def X2 (H:Hp):Prop:=∀b,H b=none\/∃o xs,H b=some (.frz o (.lst xs))
end L2
namespace L2
open PySem PySem.Spec PyProof.Rows
def fU (s:Stmt) (j:Nat):Stmt:=match s with
 | .ClassDef _ _ _ body _ _ _ _ _ _ _=>body.getD j (.Pass ⟨0,0,0,0⟩)
 |_=> .Pass ⟨0,0,0,0⟩
def kI (s:Stmt):Arguments:=match s with
 | .FunctionDef _ a _ _ _ _ _ _ _ _=>a
 |_=>{posonlyargs:=[],args:=[],vararg:=none,kwonlyargs:=[],kw_defaults:=[],kwarg:=none,defaults:=[]}
def fo (s:Stmt):List Stmt:=match s with
 | .FunctionDef _ _ b _ _ _ _ _ _ _=>b
 |_=>[]
def bQ (s:Stmt):Scope:=match s with
 | .FunctionDef _ _ _ _ _ _ sc _ _ _=>sc
 |_=>{kind:= .function,names:=[],isGenerator:=false,isCoroutine:=false}
abbrev K5:Qi:=λ_ _ _ _ _ _=>False
abbrev E0:XK:=λ_ _ _=>False
theorem z6 {X:Cx}:mZ K5 X E0:=λ_ _ _ _ _ _ _ h=>h.elim
structure OO (K:ag) (x qual:Str) (st:Stmt) (f:Addr) (fd:ox):Prop where
 ex:∃(oc:Value) (od:Option Addr) (kV doc pm:Value) (an:Option Addr) (mw ct:Value) (He:Array (Option Value)),
  fd=eX x qual (kI st) (fo st) (bQ st) .none kV doc pm an mw ct/\K.lookup f=some ⟨oc,od,.func fd,He⟩/\jO K mw qual=true
 kp:cT K (.ref f)=true
section
variable {P:bR} {w:du} {K:ag} {mg:Str->Option Value} {base:Heap}
theorem OO.ok {x qual:Str} {st:Stmt} {f:Addr} {fd:ox} {N ps:List Str} {k:Nat} {sp:Sp} (F:OO K x qual st f fd) (S:jS N ps (bQ st)) (len:∀vs H Q E,sp vs H Q E->vs.length=ps.length)
  (ND:∀(mw:Value) (A:cG) (outer:List Env) (s:ao) (H:Hp) (vs:List V) (Q:VK) (E:XK),lE k (A.deeper (yY qual (bQ st) s.heap.objs.size f mw))->sp vs H Q E->
   ∃t,B8 (oF K5 P w K mg base N qual (bQ st) f mw A outer s H E).nox (fo st) t/\t {nx:=λ_ H'=>Q .non H',rt:=Q} (jm N vs) H):mv P w K mg base K5 (k+1) f fd ps sp:=by
 obtain⟨oc,od,kV,doc,pm,an,mw,ct,He,rfl,lk,Ir⟩:=F.ex
 refine RF lk Ir S len λA outer s H vs Q E hr SM=>?_
 obtain⟨t,h,q⟩:=ND mw A outer s H vs Q E hr SM
 exact⟨t,h.nox,q⟩
theorem OO.binds {x qual:Str} {st:Stmt} {f:Addr} {fd:ox} {ps:List Str} (F:OO K x qual st f fd)
  (h:∀(kV doc pm:Value) (an:Option Addr) (mw ct:Value) (us:List Value),us.length=ps.length->Gd (eX x qual (kI st) (fo st) (bQ st) .none kV doc pm an mw ct) ⟨us,[]⟩=pure (ps.zip us)):iC K fd ps []:=by
 obtain⟨oc,od,kV,doc,pm,an,mw,ct,He,rfl,lk,Ir⟩:=F.ex
 exact .all (h kV doc pm an mw ct)
theorem GJ {x qual:Str} {st:Stmt} {f:Addr} {oc:Value} {od an:Option Addr} {He:Array (Option Value)} {kV doc pm mw ct:Value} (l:K.lookup f=some ⟨oc,od,.func (eX x qual (kI st) (fo st) (bQ st) .none kV doc pm an mw ct),He⟩)
  (c:jO K mw qual=true) (k:cT K (.ref f)=true):OO K x qual st f (eX x qual (kI st) (fo st) (bQ st) .none kV doc pm an mw ct):=⟨⟨oc,od,kV,doc,pm,an,mw,ct,He,rfl,l,c⟩,k⟩
end
theorem z0 {A B:Prop} (h:B):if false=true then A else B:=by
 rw[if_neg aw]
 exact h
theorem AD {A B:Prop} (h:A):if true=true then A else B:=by
 rw[if_pos rfl]
 exact h
def bX (H H':Hp):Prop:=∀b o,H b=some o->H' b=some o
theorem bX.refl (H:Hp):bX H H:=λ_ _ h=>h
theorem bX.trans {H H1 H2:Hp} (a:bX H H1) (b:bX H1 H2):bX H H2:=λc o h=>b c o (a c o h)
theorem bX.free {H H':Hp} (e:bX H H') {l:Addr} (h:H' l=Option.none):H l=Option.none:=by
 cases q:H l with
 |none=>rfl
 |some o=>
  rw[e l o q]at h
  cases h
theorem bX.seq {K:ag} {H H':Hp} {a:Addr} {xs:List V} (e:bX H H') (h:iL K H a xs):iL K H' a xs:=by
 rcases h with (h|⟨o,h⟩)|h
 ·exact .inl (.inl (e _ _ h))
 ·exact .inl (.inr ⟨o,e _ _ h⟩)
 ·exact .inr h
end L2
namespace M
open Rd16
theorem iP {α β:Type} (f:α->β) (l:List α) (i:Nat) (d:β) (h:i<l.length):(l.map f).getD i d=f l[i]:=by
 rw[aR,aE,aI h];rfl
theorem dX {α:Type} (l:List α) (i:Nat) (d:α) (h:i<l.length):l.getD i d=l[i]:=by
 rw[aR,aI h];rfl
theorem yT {α:Type} (l:List α) (i:Nat) (d:α) (h:l.length<=i):l.getD i d=d:=by
 rw[aR,bu h];rfl
theorem bO {α:Type} (f:Nat->α) (n i:Nat) (d:α) (h:i<n):((ar n).map f).getD i d=f i:=by
 rw[iP _ _ _ _ (by simpa using h)];simp
theorem fQ {α:Type} (d:α) {l m:List α} (hl:l.length=m.length) (h:∀i,i<l.length->l.getD i d=m.getD i d):l=m:=by
 refine gV hl λi h1 h2=>?_
 have:=h i h1
 rwa [dX _ _ _ h1,dX _ _ _ h2]at this
theorem iY {α:Type} (l:List α) (n i:Nat) (d:α) (h:i<n):(l.take n).getD i d=l.getD i d:=by
 simp only[aR,List.getElem?_take,h,if_true]
theorem jz {α:Type} (l:List α) (n i:Nat) (d:α):(l.drop n).getD i d=l.getD (n+i) d:=by
 simp only[aR,wj]
def cN {α:Type} (l:List α) (w n:Nat):List (List α):=(ar n).map λi=>(l.drop (w*i)).take w
theorem kL {α:Type} (l:List α) (w n:Nat):(cN l w n).length=n:=by simp[cN]
theorem Fw {α:Type} (l:List α) (w n r:Nat) (h:r<n):(cN l w n).getD r []=(l.drop (w*r)).take w:=bO _ _ _ _ h
theorem eG {α:Type} {w:Nat}:∀{R:List (List α)},(∀r∈R,r.length=w)->R.flatten.length=R.length*w
 |[],_=>by simp
 |r::R,h=>by
  have h1:=h r (by simp)
  have ih:=eG (R:=R) λq hq=>h q (by simp[hq])
  simp only[ck,aj,aJ,ih,h1,fk];lia
theorem hU {α:Type} {w:Nat} (d:α):∀{R:List (List α)} {r c:Nat},(∀q∈R,q.length=w)->r<R.length->c<w->R.flatten.getD (w*r+c) d=(R.getD r []).getD c d
 |[],_,_,_,h,_=>by simp at h
 |q::R,0,c,hw,_,hc=>by
  have h1:=hw q (by simp)
  simp only[Gi,ku,ck,aR,List.getElem?_cons_zero,eT]
  rw[dD (by lia)]
 |q::R,r+1,c,hw,hr,hc=>by
  have h1:=hw q (by simp)
  have ih:=hU d (R:=R) (r:=r) (c:=c) (λz hz=>hw z (by simp[hz])) (by simpa using hr) hc
  simp only[ck,aR,List.getElem?_cons_succ]at ih⊢
  rw[cM (by rw[h1,eJ];lia),<-ih]
  congr 2
  rw[h1,eJ];lia
theorem AL {α:Type} (d:α) (l:List α) (w n:Nat) (hw:0<w) (h:l.length=n*w):(cN l w n).flatten=l:=by
 have oY:∀q∈cN l w n,q.length=w:=λq hq=>by
  obtain⟨i,hi,rfl⟩:=ay.mp hq
  have hi:i<n:=by simpa using hi
  rw[aA,ba,h]
  have:w*i+w<=n*w:=by
   have:=dz w hi
   rw[fk,bE i w]at this;exact this
  lia
 have hl:=eG oY
 rw[kL]at hl
 refine fQ d (by rw[hl,h]) λi hi=>?_
 rw[hl]at hi
 have hr:i/w<n:=ua (by rw[bE];exact hi)
 have e:i=w*(i/w)+i%w:=(AZ i w).symm
 have hc:i%w<w:=LG _ hw
 rw[e,hU d oY (by rw[kL];exact hr) hc,Fw _ _ _ _ hr,iY _ _ _ _ hc,jz]
def m7 (l:List Int) (c w n:Nat):List Int:=(ar n).map λr=>l.getD (c+w*r) 0
def j6 (l:List Int) (w h:Nat):List Int:=((ar w).map λc=>m7 l c w h).flatten
theorem iM (l:List Int) (w h:Nat):(j6 l w h).length=w*h:=by
 unfold j6
 rw[eG (w:=h) (λr hr=>by obtain⟨c,_,rfl⟩:=ay.mp hr;simp[m7])];simp
theorem oU (l:List Int) (w h c r:Nat) (hc:c<w) (hr:r<h):(j6 l w h).getD (h*c+r) 0=l.getD (w*r+c) 0:=by
 unfold j6
 rw[hU 0 (w:=h) (λr hr=>by obtain⟨c,_,rfl⟩:=ay.mp hr;simp[m7]) (by simpa using hc) hr,bO _ _ _ _ hc]
 unfold m7
 rw[bO _ _ _ _ hr,qu]
theorem nV (b:List Int):j6 b 8 8=iq b:=by
 refine fQ 0 (by rw[iM];simp[iq]) λi hi=>?_
 rw[iM]at hi
 have e:i=8*(i/8)+i%8:=by lia
 rw[e,oU _ _ _ _ _ (by lia) (by lia)]
 unfold iq
 rw[bO _ _ _ _ (by lia)]
 congr 1;lia
def rH (z:Int):Prop:= -32768<=z/\z<=32767
def tV (a b c:Int):Int:=(a+(b*c+16384)/2^15+32768)%65536-32768
def tj (a b c:Int):Int:=(a-(b*c+16384)/2^15+32768)%65536-32768
theorem Fq (a b c:Int):tV a b c=w16 (a+qy b c):=by
 unfold tV qy w16
 have e:(2:Int)^15=32768:=by decide
 rw[e]
 lia
theorem EH (a b c:Int):tj a b c=w16 (a-qy b c):=by
 unfold tj qy w16
 have e:(2:Int)^15=32768:=by decide
 rw[e]
 lia
theorem Pk (z:Int):rH (w16 z):=by unfold rH w16;lia
theorem TY {z:Int} (h:rH z):w16 z=z:=by unfold rH at h;unfold w16;lia
theorem Rw (c:Int):qy 0 c=0:=by unfold qy w16;simp
def dq (g:Int->Int->Int->Int) (R:List (List Int)) (s:Nat×Nat×Int):List (List Int):=
 if (R.getD s.2.1 []).any (λz=>z !=0)=true then R.set s.1 (((R.getD s.1 []).zip (R.getD s.2.1 [])).map λp=>g p.1 p.2 s.2.2)else R
structure KU (R:List (List Int)):Prop where
 len:R.length=8
 row:∀r∈R,r.length=8
 b:∀r∈R,∀z∈r,rH z
def col (R:List (List Int)) (c:Nat):List Int:=R.map λr=>r.getD c 0
theorem KU.getRow {R:List (List Int)} (h:KU R) {i:Nat} (hi:i<8):R.getD i []∈R:=by
 rw[dX _ _ _ (by rw[h.len];exact hi)];exact fS _
theorem KU.rowLen {R:List (List Int)} (h:KU R) {i:Nat} (hi:i<8):(R.getD i []).length=8:=h.row _ (h.getRow hi)
theorem nE {R:List (List Int)} (h:KU R) {i c:Nat} (hi:i<8):(col R c).getD i 0=(R.getD i []).getD c 0:=by
 unfold col
 rw[iP _ _ _ _ (by rw[h.len];exact hi),dX R _ _ (by rw[h.len];exact hi)]
theorem Cz {l:List Int} (h:¬l.any (λz=>z !=0)=true) (c:Nat):l.getD c 0=0:=by
 by_cases hc:c<l.length
 ·rw[dX _ _ _ hc]
  refine iR λhz=>h ?_
  exact pb.mpr ⟨l[c],fS _,by simpa using hz⟩
 ·exact yT _ _ _ (by lia)
theorem E7 {l:List Int} (h:∀z∈l,rH z) (c:Nat):rH (l.getD c 0):=by
 by_cases hc:c<l.length
 ·rw[dX _ _ _ hc];exact h _ (fS _)
 ·rw[yT _ _ _ (by lia)];unfold rH;lia
theorem C5 {g:Int->Int->Int->Int} {f:List Int->Nat×Nat×Int->List Int} (op:Int->Int->Int)
  (hg:∀a b c,g a b c=w16 (op a (qy b c))) (hf:∀x s,f x s=x.set s.1 (w16 (op (x.getD s.1 0) (qy (x.getD s.2.1 0) s.2.2)))) (h0:∀a,op a 0=a)
  {R:List (List Int)} (h:KU R) {s:Nat×Nat×Int} (h1:s.1<8) (h2:s.2.1<8):KU (dq g R s)/\∀c,c<8->col (dq g R s) c=f (col R c) s:=by
 have l1:=h.rowLen h1
 have l2:=h.rowLen h2
 unfold dq
 by_cases ha:(R.getD s.2.1 []).any (λz=>z !=0)=true
 ·rw[if_pos ha]
  refine⟨⟨by rw[eL,h.len],λr hr=>?_,λr hr z hz=>?_⟩,λc hc=>?_⟩
  ·rcases CK hr with hr|rfl
   ·exact h.row r hr
   ·rw[ah,bZ,l1,l2];rfl
  ·rcases CK hr with hr|rfl
   ·exact h.b r hr z hz
   ·obtain⟨p,_,rfl⟩:=ay.mp hz
    rw[hg];exact Pk _
  ·rw[hf]
   refine fQ 0 (by simp[col]) λi hi=>?_
   have hi:i<8:=by simpa[col,h.len] using hi
   rw[nE h h1,nE h h2]
   unfold col
   rw[iP _ _ _ _ (by rw[eL,h.len];exact hi)]
   by_cases hs:s.1=i
   ·subst hs
    rw[rW,iP _ _ _ _ (by rw[bZ,l1,l2];exact hc),List.getElem_zip]
    rw[dX (List.set _ _ _) _ _ (by rw[eL,ah,h.len];exact hi),rW,hg,dX (R.getD s.1 []) _ _ (by rw[l1];exact hc),dX (R.getD s.2.1 []) _ _ (by rw[l2];exact hc)]
   ·rw[JF hs,dX (List.set _ _ _) _ _ (by rw[eL,ah,h.len];exact hi),JF hs,k8]
 ·rw[if_neg ha]
  refine⟨h,λc hc=>?_⟩
  have hl:s.1<(col R c).length:=by unfold col;rw[ah,h.len];exact h1
  rw[hf,nE h h2,Cz ha,Rw,h0,nE h h1,TY (E7 (h.b _ (h.getRow h1)) c),<-nE h h1,dX _ _ _ hl,List.set_getElem_self]
theorem lK {g:Int->Int->Int->Int} {f:List Int->Nat×Nat×Int->List Int} (op:Int->Int->Int)
  (hg:∀a b c,g a b c=w16 (op a (qy b c))) (hf:∀x s,f x s=x.set s.1 (w16 (op (x.getD s.1 0) (qy (x.getD s.2.1 0) s.2.2)))) (h0:∀a,op a 0=a):
  ∀(l:List (Nat×Nat×Int)) (R:List (List Int)),(∀s∈l,s.1<8/\s.2.1<8)->KU R->KU (l.foldl (dq g) R)/\∀c,c<8->col (l.foldl (dq g) R) c=l.foldl f (col R c)
 |[],R,_,h=>⟨h,λ_ _=>rfl⟩
 |s::l,R,hl,h=>by
  obtain⟨a,b⟩:=C5 op hg hf h0 h (hl s (by simp)).1 (hl s (by simp)).2
  obtain⟨c,d⟩:=lK op hg hf h0 l _ (λs hs=>hl s (by simp[hs])) a
  refine⟨c,λk hk=>?_⟩
  rw[eM,eM,d k hk,b k hk]
theorem Hv {b:List Int} (hl:b.length=64) (hb:∀z∈b,rH z):KU (cN b 8 8):=by
 refine⟨kL _ _ _,λr hr=>?_,λr hr z hz=>?_⟩
 ·obtain⟨i,hi,rfl⟩:=ay.mp hr
  have hi:i<8:=by simpa using hi
  rw[aA,ba,hl];omega
 ·obtain⟨i,hi,rfl⟩:=ay.mp hr
  exact hb z (sU (i5 hz))
def nI (b:List Int):List Int:=(STEPS.foldl (dq tV) (cN b 8 8)).flatten
def rR (b:List Int):List Int:=(STEPS.reverse.foldl (dq tj) (cN b 8 8)).flatten
theorem n6:∀s∈STEPS,s.1<8/\s.2.1<8:=by decide
theorem Ao (f:List Int->Nat×Nat×Int->List Int) (hf:∀x s,(f x s).length=x.length):∀(l:List (Nat×Nat×Int)) (x:List Int),(l.foldl f x).length=x.length
 |[],_=>rfl
 |s::l,x=>by rw[eM,Ao f hf l,hf]
theorem M5 (x:List Int):(line x).length=x.length:=Ao _ (λx s=>by simp[step]) _ _
theorem Es (f:List Int->List Int) (b:List Int) (hl:b.length=64) (hf:∀x:List Int,(f x).length=x.length) (r c:Nat) (hr:r<8) (hc:c<8):(Gj f b).getD (8*r+c) 0=(f ((b.drop (8*r)).take 8)).getD c 0:=by
 unfold Gj
 rw[hU 0 (w:=8) (λq hq=>by obtain⟨i,hi,rfl⟩:=ay.mp hq;have hi:i<8:=(by simpa using hi);rw[hf,aA,ba,hl];lia) (by simpa using hr) hc,bO _ _ _ _ hr]
theorem GP (f:List Int->List Int) (b:List Int) (hl:b.length=64) (hf:∀x:List Int,(f x).length=x.length):(Gj f b).length=64:=by
 unfold Gj
 rw[eG (w:=8) (λq hq=>by obtain⟨i,hi,rfl⟩:=ay.mp hq;have hi:i<8:=(by simpa using hi);rw[hf,aA,ba,hl];omega)];simp
theorem cZ (b:List Int):(iq b).length=64:=by simp[iq]
theorem mG (b:List Int) (r c:Nat) (hr:r<8) (hc:c<8):(iq b).getD (8*r+c) 0=b.getD (8*c+r) 0:=by
 rw[<-nV,oU _ _ _ _ _ hr hc]
theorem RH {a b:List Int} (ha:a.length=64) (hb:b.length=64) (h:∀r c,r<8->c<8->a.getD (8*r+c) 0=b.getD (8*r+c) 0):a=b:=by
 refine fQ 0 (by rw[ha,hb]) λi hi=>?_
 have e:i=8*(i/8)+i%8:=by lia
 rw[e];exact h _ _ (by lia) (by lia)
theorem LX {b:List Int} (hl:b.length=64) {c:Nat} (hc:c<8):col (cN b 8 8) c=((iq b).drop (8*c)).take 8:=by
 refine fQ 0 (by simp[col,cN,cZ];lia) λi hi=>?_
 have hi:i<8:=by simpa[col,cN] using hi
 unfold col
 rw[iP _ _ _ _ (by rw[kL];exact hi),iY _ _ _ _ hi,jz,mG _ _ _ hc hi]
 unfold cN
 rw[k8,wm,iY _ _ _ _ hc,jz]
theorem Ez {g:Int->Int->Int->Int} {f:List Int->Nat×Nat×Int->List Int} (op:Int->Int->Int) (l:List (Nat×Nat×Int)) (hl8:∀s∈l,s.1<8/\s.2.1<8)
  (hg:∀a b c,g a b c=w16 (op a (qy b c))) (hf:∀x s,f x s=x.set s.1 (w16 (op (x.getD s.1 0) (qy (x.getD s.2.1 0) s.2.2)))) (h0:∀a,op a 0=a)
  {b:List Int} (hl:b.length=64) (hb:∀z∈b,rH z):(l.foldl (dq g) (cN b 8 8)).flatten=iq (Gj (λx=>l.foldl f x) (iq b))/\∀z∈(l.foldl (dq g) (cN b 8 8)).flatten,rH z:=by
 obtain⟨s8,hc⟩:=lK op hg hf h0 l _ hl8 (Hv hl hb)
 have Zm:∀x:List Int,(l.foldl f x).length=x.length:=Ao f (λx s=>by rw[hf];simp) l
 refine⟨RH ?_ (cZ _) λr c hr Wc=>?_,λz hz=>?_⟩
 ·rw[eG s8.row,s8.len]
 ·rw[hU 0 s8.row (by rw[s8.len];exact hr) Wc,mG _ _ _ hr Wc,Es _ _ (cZ _) Zm _ _ Wc hr,<-LX hl Wc,<-hc c Wc,nE s8 hr]
 ·obtain⟨q,hq,hz⟩:=OH.mp hz
  exact s8.b q hq z hz
theorem vz {b:List Int} (hl:b.length=64) (hb:∀z∈b,rH z):nI b=iq (Gj line (iq b))/\∀z∈nI b,rH z:=
 Ez (f:=step) (λa p=>a+p) STEPS n6 Fq (λ_ _=>rfl) qA hl hb
theorem zB {b:List Int} (hl:b.length=64) (hb:∀z∈b,rH z):rR b=iq (Gj lineBack (iq b))/\∀z∈rR b,rH z:=
 Ez (f:=unstep) (λa p=>a-p) STEPS.reverse (λs hs=>n6 s (by simpa using hs)) EH (λ_ _=>rfl) Int.sub_zero hl hb
theorem kK {b:List Int} (hl:b.length=64):iq (iq b)=b:=
 RH (cZ _) hl λr c hr hc=>by rw[mG _ _ _ hr hc,mG _ _ _ hc hr]
theorem jw {b:List Int} (hb:∀z∈b,rH z):∀z∈iq b,rH z:=λz hz=>by
 obtain⟨i,_,rfl⟩:=ay.mp hz
 exact E7 hb _
def ZC (b:List Int):List Int:=iq (nI (iq (nI b)))
def Xv (b:List Int):List Int:=rR (iq (rR (iq b)))
theorem GW {b:List Int} (hl:b.length=64) (hb:∀z∈b,rH z):ZC b=FY b/\(FY b).length=64/\∀z∈FY b,rH z:=by
 obtain⟨e1,b1⟩:=vz hl hb
 have l1:(nI b).length=64:=by rw[e1];exact cZ _
 obtain⟨e2,b2⟩:=vz (cZ (nI b)) (jw b1)
 have e:ZC b=FY b:=by
  unfold ZC FY
  rw[e2,kK (GP _ _ (cZ _) M5),kK l1,e1]
 refine⟨e,by rw[<-e];exact cZ _,by rw[<-e];exact jw b2⟩
theorem HF {b:List Int} (hl:b.length=64) (hb:∀z∈b,rH z):Xv b=backward b/\(backward b).length=64/\∀z∈backward b,rH z:=by
 obtain⟨e1,b1⟩:=zB (cZ b) (jw hb)
 have l1:(rR (iq b)).length=64:=by rw[e1];exact cZ _
 obtain⟨e2,b2⟩:=zB (cZ (rR (iq b))) (jw b1)
 have e:Xv b=backward b:=by
  unfold Xv backward
  rw[e2,kK l1,e1,kK hl]
 refine⟨e,by rw[<-e];unfold Xv;rw[e2];exact cZ _,by rw[<-e];exact b2⟩
def bi (b:Bool):Int:=if b=true then 1 else 0
def gi (l:List Bool):List Int:=l.map bi
theorem kB (a b:List Bool):gi (a++b)=gi a++gi b:=by simp[gi]
theorem bH (a:List Bool):(gi a).length=a.length:=by simp[gi]
theorem Ti (n:Nat):bi (n%2==1)=((n%2:Nat):Int):=by
 have:n%2=0\/n%2=1:=by lia
 rcases this with h|h<;>simp[bi,h]
theorem tq:∀k n,(bitsOf k n).length=k
 |0,_=>rfl
 |k+1,n=>by simp[bitsOf,tq k n]
def down (k v:Nat):List Int:=(ar k).map λ(i:Nat)=>((v/2^(k-1-i)%2:Nat):Int)
theorem ud:∀k v,gi (bitsOf k v)=down k v
 |0,_=>rfl
 |k+1,v=>by
  have ih:=ud k v
  unfold gi at ih⊢
  unfold down at ih⊢
  rw[bitsOf,bg,ih,fH,bg,aF,Ti]
  congr 1
  refine aW λi hi=>?_
  simp only[bP,Nat.add_sub_cancel]
  congr 4
  lia
theorem log2_lt (v:Nat) (h:v≠0):v<2^(v.log2+1):=Nat.lt_log2_self
theorem mi (n:Nat):(num n).length=2*(n+1).log2+1:=by
 simp only[num,aj,aP,tq];lia
theorem Pz (n:Nat):gi (num n)=down (2*(n+1).log2+1) (n+1):=by
 unfold num
 simp only[]
 rw[kB,ud]
 have jb:n+1<2^((n+1).log2+1):=log2_lt _ (by lia)
 generalize (n+1).log2=k at jb
 unfold down
 have hr:ar (2*k+1)=ar k++(ar (k+1)).map (k+·):=by rw[show 2*k+1=k+(k+1) by lia,List.range_add]
 rw[hr,aY,aF]
 congr 1
 ·unfold gi
  rw[dU]
  refine gV (by simp) λi h1 h2=>?_
  simp only[ic,k8,wm]
  have hi:i<k:=by simpa using h1
  have:(n+1)/2^(2*k+1-1-i)=0:=by
   refine pX (aX jb (ub (by decide) (by lia)))
  rw[this];rfl
 ·refine aW λi hi=>?_
  simp only[bP]
  congr 4
  lia
theorem Ce (k v:Nat):down k v=((ar k).map λ(i:Nat)=>((k:Int)-1)+(i:Int)*(-1)).map λ(j:Int)=>((v:Int)/2^j.toNat)%2:=by
 unfold down
 rw[aF]
 refine aW λi hi=>?_
 have hi:i<k:=by simpa using hi
 simp only[bP]
 have e:((k:Int)-1+(i:Int)*(-1)).toNat=k-1-i:=by lia
 rw[e]
 push_cast
 rfl
def Ou (z:Int):Int:=if 0<z then 2*z-1 else -2*z
theorem um (z:Int):0<=Ou z:=by unfold Ou;split<;>lia
theorem o7 (z:Int):signedNum z=num (Ou z).toNat:=by
 unfold signedNum Ou
 congr 1
 split<;>lia
def m8 (l:List Int):Int:=l.foldl (λb x=>2*b+x) 0
def p8 (l:List Bool):List Bool:=l++aq ((-(l.length:Int))%8).toNat false
theorem xO (l:List Bool):(p8 l).length=8*((l.length+7)/8):=by
 unfold p8
 rw[aj,aP]
 lia
theorem xI (f:Nat->Nat):(ar 8).foldl (λn k=>2*n+f k) 0=2*(2*(2*(2*(2*(2*(2*(2*0+f 0)+f 1)+f 2)+f 3)+f 4)+f 5)+f 6)+f 7:=rfl
theorem S9 (b:Bool):bi b=((if b=true then (1:Nat)else 0:Nat):Int):=by cases b<;>rfl
theorem HC (l:List Bool) (r:List Bool) (hr:∀k,k<8->((l++r).getD k false)=l.getD k false) (hl:8<=(l++r).length):
  m8 (gi ((l++r).take 8))=(((ar 8).foldl (λn k=>2*n+if l.getD k false=true then 1 else 0) 0:Nat):Int):=by
 have e:(l++r).take 8=(ar 8).map λk=>l.getD k false:=by
  refine fQ false (by simp only[aA,ah,fv];lia) λi hi=>?_
  have hi:i<8:=by simp only[aA]at hi;lia
  rw[iY _ _ _ _ hi,bO _ _ _ _ hi,hr i hi]
 rw[e,xI]
 unfold m8 gi
 simp only[show ar 8=[0,1,2,3,4,5,6,7]from rfl,bg,fG,eM,BC,S9]
 push_cast
 lia
theorem Bd (f:Nat->Bool):(ar 8).foldl (λn k=>2*n+if f k=true then 1 else 0) 0<256:=by
 rw[xI λk=>if f k=true then 1 else 0]
 have h:∀k,(if f k=true then 1 else 0)<=1:=λk=>by split<;>lia
 have h0:=h 0;have h1:=h 1;have h2:=h 2;have h3:=h 3;have h4:=h 4;have h5:=h 5;have h6:=h 6;have h7:=h 7
 lia
def kJ (l:List Bool):List Int:=(ar ((l.length+7)/8)).map λi=>m8 (gi (((p8 l).drop (8*i)).take 8))
theorem Lf (l:List Bool) (h:l≠[]):(p8 l).drop 8=p8 (l.drop 8):=by
 have h0:0<l.length:=List.length_pos_iff.mpr h
 unfold p8
 rw[ba]
 by_cases h8:8<=l.length
 ·rw[List.drop_append_of_le_length h8]
  congr 2
  lia
 ·have e1:l.drop 8=[]:=fJ (by lia)
  rw[e1,fJ (by rw[aj,aP];lia)]
  have:l.length-8=0:=by lia
  rw[this]
  rfl
theorem Kx (l:List Bool) (k:Nat):(p8 l).getD k false=l.getD k false:=by
 unfold p8
 simp only[aR]
 by_cases h:k<l.length
 ·rw[dD h]
 ·rw[cM (zc h),bu (zc h),jN]
  split<;>rfl
theorem xg:∀(f:Nat) (l:List Bool),l.length<f->kJ l=Rd16.ints (packed f l)
 |0,l,h=>by lia
 |f+1,[],_=>by simp[kJ,packed,Rd16.ints]
 |f+1,b::l,h=>by
  have ih:=xg f ((b::l).drop 8) (by simp only[ba,aJ]at h⊢;lia)
  have hm:((b::l).length+7)/8=(((b::l).drop 8).length+7)/8+1:=by simp only[ba,aJ];lia
  rw[packed,Rd16.ints,bg,<-Rd16.ints,<-ih]
  ·unfold kJ
   rw[hm,fH,bg,aF]
   congr 1
   ·rw[Gi,List.drop_zero]
    have hc:=HC (b::l) (aq ((-((b::l).length:Int))%8).toNat false) (λk _=>Kx (b::l) k) (by
     have:=xO (b::l)
     unfold p8 at this
     rw[this];simp only[aJ];lia)
    rw[show p8 (b::l)=b::l++aq ((-((b::l).length:Int))%8).toNat false from rfl,hc]
    rw[nq]
    exact Bd _
   ·refine aW λi _=>?_
    simp only[bP,Nat.succ_eq_add_one]
    rw[<-Lf _ (by simp),BD]
    congr 4
    lia
  ·intro z;cases z
theorem Ho (f:Nat) (l:List Bool) (h:l.length<f):(packed f l).length=(l.length+7)/8:=by
 have:=congrArg h9 (xg f l h)
 simpa[kJ,Rd16.ints] using this.symm
theorem Kq (b:Bytes):gi (bitsIn b)=((Rd16.ints b).map λ(c:Int)=>([7,6,5,4,3,2,1,0]:List Int).map λk=>(c/2^k.toNat)%2).flatten:=by
 unfold bitsIn Rd16.ints gi
 rw[pd,aF,aF]
 congr 1
 refine aW λc _=>?_
 have:=ud 8 c.toNat
 unfold gi at this
 simp only[bP]
 rw[this,Ce]
 rfl
theorem u9 {α:Type} (f:Nat->α) (n a m:Nat) (h:a+m<=n):(((ar n).map f).drop a).take m=(ar m).map λi=>f (a+i):=by
 refine gV (by simp;lia) λi h1 h2=>?_
 simp
theorem iI {α β γ:Type} (g:α->β->γ) (f:Nat->α) (f':Nat->β) (n:Nat):cS g ((ar n).map f) ((ar n).map f')=(ar n).map λi=>g (f i) (f' i):=by
 refine gV (by simp) λi h1 h2=>?_
 simp
theorem Az {α β:Type} (g:α->β) (f:Nat->α) (n:Nat):((ar n).map f).map g=(ar n).map λi=>g (f i):=by rw[aF];rfl
theorem bx {α:Type} {f g:Nat->α} {n:Nat} (h:∀i,i<n->f i=g i):(ar n).map f=(ar n).map g:=aW λi hi=>h i (by simpa using hi)
theorem KA {α:Type} (d:α) (f:Nat->Nat->α) (n w r c:Nat) (hr:r<n) (hc:c<w):(((ar n).map λk=>(ar w).map λc=>f c k).flatten).getD (w*r+c) d=f c r:=by
 rw[hU d (w:=w) (λq hq=>by obtain⟨i,_,rfl⟩:=ay.mp hq;simp) (by simpa using hr) hc,bO _ _ _ _ hr,bO _ _ _ _ hc]
theorem En {α:Type} (f:Nat->Nat->α) (n w:Nat):(((ar n).map λk=>(ar w).map λc=>f c k).flatten).length=n*w:=by
 rw[eG (w:=w) (λq hq=>by obtain⟨i,_,rfl⟩:=ay.mp hq;simp)];simp
theorem rh {α:Type} (f:Nat->Nat->α) (n w:Nat) (hw:0<w):(ar (n*w)).map (λi=>f (i%w) (i/w))=((ar n).map λk=>(ar w).map λc=>f c k).flatten:=by
 refine gV (by rw[En];simp) λi h1 h2=>?_
 have hi:i<n*w:=by simpa using h1
 have hr:i/w<n:=ua (by rw[bE];exact hi)
 have hc:i%w<w:=LG _ hw
 have e:=KA (f 0 0) f n w (i/w) (i%w) hr hc
 rw[AZ,dX _ _ _ h2]at e
 rw[e];simp
theorem oN {α:Type} (f:Nat×Nat->α):Gk.map f=((ar 16).map λk=>(ar 16).map λc=>f (c,k)).flatten:=by
 unfold Gk
 rw[aF]
 exact rh (λc k=>f (c,k)) 16 16 (by decide)
theorem oS:Gk.length=256:=by simp[Gk]
def tH (p:Pic) (L T:Int) (n:Nat):List (List Int):=(ar n).map λ(r:Nat)=>(ar n).map λ(c:Nat)=>((p.at_ (L+(c:Int)) (T+(r:Int)):Nat):Int)
def ja (a b:List Int):List Int:=cS (λx y=>(x+y+1)/2) a b
def lX (R:List (List Int)) (x y:Nat):List Int:=
 let A:=(R.drop (y/2)).take 17
 let t:=A.map λrow=>(row.drop (x/2)).take 16
 let t2:=if x%2=1 then cS ja t (A.map λrow=>(row.drop (x/2+1)).take 16)else t
 ((ar 16).map λk=>if y%2=1 then ja (t2.getD k []) (t2.getD (k+1) [])else t2.getD k []).flatten
theorem BP (a b:Nat):(((a:Int)+(b:Int)+1)/2)=((mean a b:Nat):Int):=by unfold mean;lia
theorem xT (p:Pic) (L T:Int) (n x y:Nat) (hx:x/2+17<=n) (hy:y/2+17<=n):
  lX (tH p L T n) x y=zd (Gk.map λz=>p.half (2*(L+(z.1:Int))+(x:Int)) (2*(T+(z.2:Int))+(y:Int))):=by
 unfold lX zd
 rw[aF,oN]
 have hA:((tH p L T n).drop (y/2)).take 17=(ar 17).map λ(r:Nat)=>(ar n).map λ(c:Nat)=>((p.at_ (L+(c:Int)) (T+((y/2+r:Nat):Int)):Nat):Int):=u9 _ _ _ _ hy
 have ht:∀a,a+16<=n->(((tH p L T n).drop (y/2)).take 17).map (λrow=>(row.drop a).take 16)=(ar 17).map λ(r:Nat)=>(ar 16).map λ(c:Nat)=>((p.at_ (L+((a+c:Nat):Int)) (T+((y/2+r:Nat):Int)):Nat):Int):=λa ha=>by
  rw[hA,Az]
  exact bx λr _=>u9 _ _ _ _ ha
 have DK:(if x%2=1 then cS ja ((((tH p L T n).drop (y/2)).take 17).map λrow=>(row.drop (x/2)).take 16) ((((tH p L T n).drop (y/2)).take 17).map λrow=>(row.drop (x/2+1)).take 16)else (((tH p L T n).drop (y/2)).take 17).map λrow=>(row.drop (x/2)).take 16)=
   (ar 17).map λ(r:Nat)=>(ar 16).map λ(c:Nat)=>((if x%2=1 then mean (p.at_ (L+((x/2+c:Nat):Int)) (T+((y/2+r:Nat):Int))) (p.at_ (L+((x/2+c:Nat):Int)+1) (T+((y/2+r:Nat):Int)))else p.at_ (L+((x/2+c:Nat):Int)) (T+((y/2+r:Nat):Int)):Nat):Int):=by
  by_cases h:x%2=1
  ·simp only[h,if_true]
   rw[ht _ (by lia),ht _ (by lia),iI]
   refine bx λr _=>?_
   unfold ja
   rw[iI]
   refine bx λc _=>?_
   rw[BP]
   congr 3
   push_cast;lia
  ·simp only[h,if_false]
   rw[ht _ (by lia)]
 simp only[]
 rw[DK]
 congr 1
 refine bx λk hk=>?_
 rw[bO _ _ _ _ (by lia),bO _ _ _ _ (by lia)]
 have e1:∀c:Nat,(2*(L+(c:Int))+(x:Int))/2=L+((x/2+c:Nat):Int):=λc=>by push_cast;lia
 have e2:(2*(T+(k:Int))+(y:Int))/2=T+((y/2+k:Nat):Int):=by push_cast;lia
 have e3:T+((y/2+(k+1):Nat):Int)=T+((y/2+k:Nat):Int)+1:=by push_cast;lia
 have m1:∀c:Nat,((2*(L+(c:Int))+(x:Int))%2=0)↔¬x%2=1:=λc=>by lia
 have m2:((2*(T+(k:Int))+(y:Int))%2=0)↔¬y%2=1:=by lia
 by_cases VC:y%2=1
 ·rw[if_pos VC]
  unfold ja
  rw[iI]
  refine bx λc _=>?_
  rw[BP]
  simp only[bP]
  unfold Pic.half
  simp only[e1,e2,m1,m2,e3]
  by_cases W3:x%2=1
  ·simp[W3,VC]
  ·simp[W3,VC]
 ·rw[if_neg VC]
  refine bx λc _=>?_
  simp only[bP]
  unfold Pic.half
  simp only[e1,e2,m1,m2,e3]
  by_cases W3:x%2=1
  ·simp[W3,VC]
  ·simp[W3,VC]
theorem qR (ref cur:Pic) (i j:Nat) (x y:Int):Gm ref cur i j (.moved x y)=Gk.map λz=>ref.half (2*(((16*i:Nat):Int)+(z.1:Int))+x) (2*(((16*j:Nat):Int)+(z.2:Int))+y):=by
 unfold Gm
 refine aW λz _=>?_
 congr 1<;>(push_cast;omega)
theorem Ol (ref cur:Pic) (i j:Nat) (x y:Int):lX (tH ref (((16*i:Nat):Int)+x/2) (((16*j:Nat):Int)+y/2) 17) (x%2).toNat (y%2).toNat=zd (Gm ref cur i j (.moved x y)):=by
 rw[xT _ _ _ _ _ _ (by lia) (by lia),qR]
 congr 1
 refine aW λz _=>?_
 congr 1<;>lia
theorem QV (ref cur:Pic) (i j:Nat) (x y:Int) (hx: -15<=x/\x<=15) (hy: -15<=y/\y<=15):lX (tH ref (((16*i:Nat):Int)-8) (((16*j:Nat):Int)-8) 32) (x+16).toNat (y+16).toNat=zd (Gm ref cur i j (.moved x y)):=by
 rw[xT _ _ _ _ _ _ (by lia) (by lia),qR]
 congr 1
 refine aW λz _=>?_
 congr 1<;>lia
structure fh (p:Pic):Prop where
 len:p.points.length=p.wide*p.high
 w:16<=p.wide/\p.wide<=256/\p.wide%16=0
 h:16<=p.high/\p.high<=256/\p.high%16=0
def iT (p:Pic):List Int:=Rd16.ints p.points
theorem jq (p:Pic):(iT p).length=p.points.length:=by simp[iT,Rd16.ints]
theorem zQ (p:Pic) (k:Nat):(iT p).getD k 0=((p.points.getD k 0).toNat:Int):=by
 unfold iT Rd16.ints
 simp only[aR,aE]
 cases p.points[k]? <;>rfl
theorem Cu {lo hi n:Int} (h1:lo<=n) (h2:n<=hi):within lo hi n=n:=by unfold within;rw[if_neg (by lia),if_neg (by lia)]
theorem Cq (p:Pic) (x y:Nat) (hx:x<p.wide) (hy:y<p.high):((p.at_ (x:Int) (y:Int):Nat):Int)=(iT p).getD (y*p.wide+x) 0:=by
 unfold Pic.at_
 rw[Cu (by lia) (by lia),Cu (by lia) (by lia),zQ]
 simp
def p9 (l:List Int) (wide left top side:Nat):List Int:=((ar side).map λr=>(l.drop ((top+r)*wide+left)).take side).flatten
theorem Dz (l:List Int) (wide left top side high:Nat) (hl:l.length=wide*high) (hw:left+side<=wide) (hh:top+side<=high):p9 l wide left top side=((ar side).map λr=>(ar side).map λc=>l.getD ((top+r)*wide+left+c) 0).flatten:=by
 unfold p9
 congr 1
 refine bx λr hr=>?_
 have hb:(top+r)*wide+left+side<=l.length:=by
  rw[hl]
  have:(top+r+1)*wide<=high*wide:=dz _ (by lia)
  rw[fk,bE high]at this
  lia
 refine fQ 0 (by simp only[aA,ba,ah,fv];lia) λi hi=>?_
 have hi:i<side:=by simp only[aA]at hi;lia
 rw[iY _ _ _ _ hi,jz,bO _ _ _ _ hi]
theorem Cn {p:Pic} (ok:fh p) (i j:Nat) (hi:i<p.wide/16) (hj:j<p.high/16):p9 (iT p) p.wide (16*i) (16*j) 16=zd (p.square i j):=by
 have h1:=ok.w;have h2:=ok.h
 rw[Dz _ _ _ _ _ p.high (by rw[jq,ok.len]) (by lia) (by lia)]
 unfold zd Pic.square
 rw[aF,oN]
 congr 1
 refine bx λr hr=>bx λc hc=>?_
 simp only[bP]
 rw[Cq _ _ _ (by lia) (by lia),lA]
theorem LQ (l:List Int) (hl:l.length=256) (k:Nat) (hk:k<4):p9 l 16 (8*(k%2)) (8*(k/2)) 8=block l k:=by
 rw[Dz _ _ _ _ _ 16 (by rw[hl]) (by lia) (by lia)]
 unfold block
 rw[show(64:Nat)=8*8 from rfl,rh (λc r=>l.getD (16*(8*(k/2)+r)+8*(k%2)+c) 0) 8 8 (by decide)]
 congr 1
 refine bx λr _=>bx λc _=>?_
 congr 1
 lia
def oa (l:List Int) (wide left top side:Nat) (fN:List Int) (n:Nat):List Int:=(ar l.length).map λk=>
 if left<=k%wide/\k%wide<left+side/\top<=k/wide/\k/wide<top+n then fN.getD (side*(k/wide-top)+(k%wide-left)) 0 else l.getD k 0
theorem vx (l:List Int) (wide left top side:Nat) (fN:List Int) (n:Nat):(oa l wide left top side fN n).length=l.length:=by simp[oa]
theorem J7 (l:List Int) (wide left top side:Nat) (fN:List Int):oa l wide left top side fN 0=l:=by
 refine fQ 0 (by simp[oa]) λi hi=>?_
 unfold oa
 rw[bO _ _ _ _ (by simpa[oa] using hi),if_neg (by omega)]
theorem Li (l:List Int) (wide left top side high:Nat) (fN:List Int) (n:Nat) (hl:l.length=wide*high) (hw:left+side<=wide) (hn:n<side) (hh:top+n<high) (hp:fN.length=side*side):
  let L:=oa l wide left top side fN n
  let s:=(top+n)*wide+left
  L.take s++(fN.drop (side*n)).take side++L.drop (s+side)=oa l wide left top side fN (n+1):=by
 intro L s
 have WT:L.length=wide*high:=by rw[vx,hl]
 have hb:s+side<=wide*high:=by
  have:(top+n+1)*wide<=high*wide:=dz _ (by omega)
  rw[fk,bE high]at this
  omega
 have oY:((fN.drop (side*n)).take side).length=side:=by
  rw[aA,ba,hp]
  have:side*(n+1)<=side*side:=b6 _ hn
  rw[eJ]at this
  omega
 refine fQ 0 (by simp only[aj,aA,ba,WT,oY,vx,hl];omega) λk hk=>?_
 have hk:k<wide*high:=by simp only[aj,aA,ba,WT,oY]at hk;omega
 have hwp:0<wide:=by
  rcases Nat.eq_zero_or_pos wide with h|h
  ·rw[h]at hk;simp at hk
  ·exact h
 have hdiv:=AZ k wide
 have acL:=LG k hwp
 have Zl:∀m,m<wide*high->L.getD m 0=if left<=m%wide/\m%wide<left+side/\top<=m/wide/\m/wide<top+n then fN.getD (side*(m/wide-top)+(m%wide-left)) 0 else l.getD m 0:=λm hm=>by
  show(oa l wide left top side fN n).getD m 0=_
  unfold oa
  rw[bO _ _ _ _ (by rw[hl];exact hm)]
 have hR:(oa l wide left top side fN (n+1)).getD k 0=if left<=k%wide/\k%wide<left+side/\top<=k/wide/\k/wide<top+(n+1)then fN.getD (side*(k/wide-top)+(k%wide-left)) 0 else l.getD k 0:=by
  unfold oa
  rw[bO _ _ _ _ (by rw[hl];exact hk)]
 rw[hR]
 have O6:∀q c,c<wide->(q*wide+c)/wide=q/\(q*wide+c)%wide=c:=λq c hc=>by
  constructor
  ·rw[bE,A0 hwp,pX hc,xW]
  ·rw[bE,A3,zf hc]
 have key:s<=k->k<s+side->k/wide=top+n/\k%wide=left+(k-s):=λh1 h2=>by
  have e:k=(top+n)*wide+(left+(k-s)):=by omega
  have:=O6 (top+n) (left+(k-s)) (by omega)
  rw[<-e]at this
  exact this
 simp only[aR]at Zl⊢
 by_cases c1:k<s
 ·rw[bM,dD (by rw[aA];omega),oi c1,Zl k hk]
  by_cases c2:left<=k%wide/\k%wide<left+side/\top<=k/wide/\k/wide<top+n
  ·rw[if_pos c2,if_pos ⟨c2.1,c2.2.1,c2.2.2.1,by omega⟩]
  ·rw[if_neg c2,if_neg λz=>c2 ⟨z.1,z.2.1,z.2.2.1,?_⟩]
   have z4:=z.2.2.2
   refine LH (by omega) λe=>?_
   have:k=(top+n)*wide+k%wide:=by rw[<-e,bE];exact hdiv.symm
   omega
 ·by_cases c2:k<s+side
  ·obtain⟨e1,e2⟩:=key (by omega) c2
   rw[bM,cM (by rw[aA];omega),dD (by rw[oY,aA];omega)]
   rw[if_pos ⟨by omega,by omega,by omega,by omega⟩,e1,e2]
   have e3:k-(List.take s L).length=k-s:=by rw[aA,WT];omega
   rw[e3,oi (by omega),wj]
   congr 2
   have:top+n-top=n:=by omega
   rw[this];omega
  ·rw[bM,cM (by rw[aA];omega),cM (by rw[oY,aA];omega),wj]
   have e3:s+side+(k-(List.take s L).length-((fN.drop (side*n)).take side).length)=k:=by rw[oY,aA,WT];omega
   rw[e3,Zl k hk]
   by_cases c3:left<=k%wide/\k%wide<left+side/\top<=k/wide/\k/wide<top+n
   ·rw[if_pos c3,if_pos ⟨c3.1,c3.2.1,c3.2.2.1,by omega⟩]
   ·rw[if_neg c3,if_neg λz=>c3 ⟨z.1,z.2.1,z.2.2.1,?_⟩]
    have z4:=z.2.2.2
    refine LH (by omega) λe=>?_
    have:k=(top+n)*wide+k%wide:=by rw[<-e,bE];exact hdiv.symm
    omega
theorem Jq {p:Pic} (ok:fh p) (i j:Nat) (hi:i<p.wide/16) (hj:j<p.high/16) (l:List Nat) (hl:∀x∈l,x<=255):oa (iT p) p.wide (16*i) (16*j) 16 (zd l) 16=iT (p.with_ i j l):=by
 have h1:=ok.w;have h2:=ok.h
 have hlen:(iT p).length=p.wide*p.high:=by rw[jq,ok.len]
 unfold oa
 rw[hlen]
 unfold iT Pic.with_ Rd16.ints
 simp only[]
 rw[aF]
 refine bx λk hk=>?_
 simp only[bP]
 unfold Pic.put
 have e:(16*i<=k%p.wide/\k%p.wide<16*i+16/\16*j<=k/p.wide/\k/p.wide<16*j+16)↔(k%p.wide/16=i/\k/p.wide/16=j):=by lia
 by_cases c:k%p.wide/16=i/\k/p.wide/16=j
 ·rw[if_pos (e.mpr c),if_pos c]
  have e2:16*(k/p.wide-16*j)+(k%p.wide-16*i)=16*(k/p.wide%16)+k%p.wide%16:=by lia
  rw[e2]
  generalize 16*(k/p.wide%16)+k%p.wide%16=m
  unfold zd
  simp only[aR,aE]
  cases q:l[m]?with
  |none=>rfl
  |some x=>
   have hx:=hl x (bJ q)
   simp only[jt,eT]
   rw[nq]
   show x<256
   lia
 ·rw[if_neg λz=>c (e.mp z),if_neg c]
  have:=zQ p k
  unfold iT Rd16.ints at this
  exact this
theorem DU {p:Pic} (ok:fh p) (i j:Nat) (l:List Nat):fh (p.with_ i j l):=⟨by simp[Pic.with_],ok.w,ok.h⟩
theorem kE:ORDER.length=64:=by decide+kernel
theorem Fo:ORDER.Nodup:=by decide+kernel
theorem Fn:∀p∈ORDER,p<64:=by decide+kernel
theorem Cv:∀p,p<64->p∈ORDER:=by decide+kernel
def CW (q c:Int):Int:=
 let n:=if 32767/q<((if c<0 then -c else c)+q/2)/q then 32767/q else ((if c<0 then -c else c)+q/2)/q
 if 0<=c then n else -n
theorem LZ (q:Nat) (c:Int):CW (q:Int) c=level q c:=by
 unfold CW level
 have e1:(if c<0 then -c else c)=(c.natAbs:Int):=by split<;>omega
 simp only[e1]
 have e2:(32767:Int)/(q:Int)=((32767/q:Nat):Int):=by simp
 have e3:((c.natAbs:Int)+(q:Int)/2)/(q:Int)=(((c.natAbs+q/2)/q:Nat):Int):=by simp
 rw[e2,e3]
 generalize (c.natAbs+q/2)/q=a
 generalize 32767/q=b
 by_cases h:c<0
 ·rw[if_neg (by omega),if_pos h];split<;>omega
 ·rw[if_pos (by omega),if_neg h];split<;>omega
theorem FQ (q:Nat) (c:Int):(level q c).natAbs*q<=32767:=by
 unfold level
 simp only[]
 have h1:min ((c.natAbs+q/2)/q) (32767/q)<=32767/q:=Nat.min_le_right _ _
 have h2:32767/q*q<=32767:=Nat.div_mul_le_self _ _
 have h3:min ((c.natAbs+q/2)/q) (32767/q)*q<=32767:=dR (dz q h1) h2
 split<;>simpa using h3
theorem zC (q:Nat) (b:List Int):(levels q b).length=64:=by simp[levels,kE]
theorem CS (q:Nat) (b:List Int):∀z∈levels q b,z.natAbs*q<=32767:=λz hz=>by
 obtain⟨p,_,rfl⟩:=ay.mp hz
 exact FQ q _
def sI (q:Int) (l:List Int) (n:Nat):List Int:=(ar 64).map λp=>if ORDER.idxOf p<n then l.getD (ORDER.idxOf p) 0*q else 0
theorem J6 (q:Int) (l:List Int):sI q l 0=aq 64 0:=by
 unfold sI
 simp only[Nat.not_lt_zero,if_false]
 rfl
theorem Le (q:Int) (l:List Int) (n:Nat) (hn:n<64):(sI q l n).set (ORDER.getD n 0) (l.getD n 0*q)=sI q l (n+1):=by
 have XT:=kE
 refine fQ 0 (by simp[sI]) λp hp=>?_
 have hp:p<64:=by simpa[sI] using hp
 have U8:∀m,(sI q l m).getD p 0=if ORDER.idxOf p<m then l.getD (ORDER.idxOf p) 0*q else 0:=λm=>bO _ _ _ _ hp
 have hpo:ORDER.getD n 0=ORDER[n]'(by lia):=dX _ _ _ (by lia)
 have YK:ORDER.idxOf (ORDER[n]'(by lia))=n:=Fo.idxOf_getElem n (by lia)
 rw[hpo]
 by_cases e:ORDER[n]'(by lia)=p
 ·have Rq:ORDER.idxOf p=n:=by rw[<-e];exact YK
  rw[U8,Rq,if_pos (by lia),<-e]
  simp only[aR]
  rw[cy (by simp only[sI,ah,fv];rw[e];exact hp)]
  rfl
 ·have Rq:ORDER.idxOf p≠n:=λz=>e (by
   have hm:=Cv p hp
   have:=List.getElem_idxOf (A4 hm)
   simp only[z]at this
   exact this)
  have e2:((sI q l n).set (ORDER[n]'(by lia)) (l.getD n 0*q)).getD p 0=(sI q l n).getD p 0:=by
   simp only[aR]
   rw[cf e]
  rw[e2,U8,U8]
  by_cases c:ORDER.idxOf p<n
  ·rw[if_pos c,if_pos (by lia)]
  ·rw[if_neg c,if_neg (by lia)]
theorem MR (q:Nat) (l:List Int):sI (q:Int) l 64=zi q l:=by
 unfold sI zi
 refine bx λp hp=>?_
 have:=A4 (Cv p hp)
 rw[kE]at this
 rw[if_pos this]
theorem ue (q:Nat) (l:List Int):(zi q l).length=64:=by simp[zi]
theorem zY (q:Nat) (l:List Int) (h:∀z∈l,z.natAbs*q<=32767):∀z∈zi q l,rH z:=λz hz=>by
 obtain⟨p,_,rfl⟩:=ay.mp hz
 by_cases hp:ORDER.idxOf p<l.length
 ·rw[dX _ _ _ hp]
  have:=h _ (fS hp)
  have e:(l[ORDER.idxOf p]*(q:Int)).natAbs=l[ORDER.idxOf p].natAbs*q:=by rw[Int.natAbs_mul];simp
  unfold rH;omega
 ·rw[yT _ _ _ (by omega)];unfold rH;omega
def Dq (o e:List Nat):List Int:=cS (λ(x y:Nat)=>(x:Int)-(y:Int)) o e
theorem QA (q:Nat) (e o:List Nat) (ho:o.length=256) (he:e.length=256):left q e o=(ar 4).map λk=>levels q (FY (p9 (Dq o e) 16 (8*(k%2)) (8*(k/2)) 8)):=by
 unfold left
 simp only[]
 refine bx λk hk=>?_
 rw[LQ _ (by simp[Dq,ho,he]) k hk]
 rfl
theorem mF {α β γ:Type} {f:α->β->γ}:∀{l:List α} {m:List β} {z:γ},z∈cS f l m->∃a∈l,∃b∈m,z=f a b
 |[],_,_,h=>by simp at h
 |_::_,[],_,h=>by simp at h
 |a::l,b::m,z,h=>by
  rw[List.zipWith_cons_cons]at h
  rcases aB.mp h with e|h
  ·exact⟨a,by simp,b,by simp,e⟩
  ·obtain⟨a',h1,b',h2,e⟩:=mF h
   exact⟨a',by simp[h1],b',by simp[h2],e⟩
theorem MB (o e:List Nat) (ho:∀x∈o,x<=255) (he:∀x∈e,x<=255):∀z∈Dq o e,rH z:=λz hz=>by
 obtain⟨a,h1,b,h2,rfl⟩:=mF hz
 have:=ho a h1;have:=he b h2
 unfold rH;lia
theorem Mi {l:List Int} (h:∀z∈l,rH z) (wide left top side:Nat):∀z∈p9 l wide left top side,rH z:=λz hz=>by
 obtain⟨q,hq,hz⟩:=OH.mp hz
 obtain⟨r,_,rfl⟩:=ay.mp hq
 exact h z (sU (i5 hz))
theorem N4 (l:List Int) (wide left top side high:Nat) (hl:l.length=wide*high) (hw:left+side<=wide) (hh:top+side<=high):(p9 l wide left top side).length=side*side:=by
 rw[Dz _ _ _ _ _ _ hl hw hh,En]
theorem DC (q:Nat) (e o:List Nat):(left q e o).length=4/\∀l∈left q e o,l.length=64/\∀z∈l,z.natAbs*q<=32767:=by
 unfold left
 refine⟨by simp,λl hl=>?_⟩
 obtain⟨k,_,rfl⟩:=ay.mp hl
 exact⟨zC _ _,CS _ _⟩
def uC (P:List (List Int)):Nat->List Int
 |0=>aq 256 0
 |k+1=>oa (uC P k) 16 (8*(k%2)) (8*(k/2)) 8 (P.getD k []) 8
theorem nW (P:List (List Int)):∀k,(uC P k).length=256
 |0=>by rw[uC,aP]
 |k+1=>by rw[uC,vx,nW P k]
theorem CB (P:List (List Int)):∀n,n<=4->∀i,i<256->(uC P n).getD i 0=if 2*(i/16/8)+i%16/8<n then (P.getD (2*(i/16/8)+i%16/8) []).getD (8*(i/16%8)+i%16%8) 0 else 0
 |0,_,i,hi=>by
  rw[if_neg (by omega)]
  show(aq 256 (0:Int)).getD i 0=0
  rw[dX _ _ _ (by rw[aP];exact hi),ic]
 |n+1,hn,i,hi=>by
  have ih:=CB P n (by omega) i hi
  rw[uC]
  unfold oa
  rw[bO _ _ _ _ (by rw[nW];exact hi)]
  by_cases c:2*(i/16/8)+i%16/8=n
  ·rw[if_pos (by omega),if_pos (by omega),c]
   congr 1;omega
  ·rw[if_neg (by omega),ih]
   by_cases c2:2*(i/16/8)+i%16/8<n
   ·rw[if_pos c2,if_pos (by omega)]
   ·rw[if_neg c2,if_neg (by omega)]
theorem MM (P:List (List Int)):uC P 4=joined P:=by
 refine fQ 0 (by rw[nW];simp[joined,oS]) λi hi=>?_
 rw[nW]at hi
 rw[CB P 4 (aO _) i hi,if_pos (by omega)]
 unfold joined Gk
 rw[aF,bO _ _ _ _ hi]
 rfl
def iK (v:Int):Int:=if 255<(if 0>v then 0 else v)then 255 else (if 0>v then 0 else v)
theorem C7 (v:Int):(byte v).toNat<=255:=by have:=(byte v).toNat_lt;lia
theorem nX (v:Int):iK v=((byte v).toNat:Int):=by
 unfold iK byte within
 by_cases h1:v<0
 ·simp only[h1,if_true,gt_iff_lt]
  rfl
 ·by_cases h2:255<v
  ·simp only[h1,h2,if_true,if_false,gt_iff_lt]
   rfl
  ·simp only[h1,h2,if_false,gt_iff_lt]
   rw[nq (by show v.toNat<256;lia)]
   lia
theorem rB (x:Nat) (h:x<=255):(byte (x:Int)).toNat=x:=by
 have:=nX (x:Int)
 unfold iK at this
 rw[if_neg (by split<;>lia),if_neg (by lia)]at this
 lia
theorem B4 (q:Nat) (e:List Nat) (l:List (List Int)) (he:e.length=256):(shown q e l).length=256:=by simp[shown,joined,oS,he]
theorem Aa (q:Nat) (e:List Nat) (l:List (List Int)):∀x∈shown q e l,x<=255:=λx hx=>by
 obtain⟨a,_,b,_,rfl⟩:=mF hx
 exact C7 _
theorem Nb (q:Nat) (e:List Nat) (l:List (List Int)):cS (λx d=>iK (x+d)) (zd e) (uC (l.map λb=>backward (zi q b)) 4)=zd (shown q e l):=by
 rw[MM]
 unfold zd shown
 rw[List.zipWith_map_left,jf]
 congr 1
 funext x d
 exact nX _
def u7 (l:List (List Int)):Prop:=∀b∈l,∀z∈b,z=0
theorem OB {b:List Int} (hl:b.length=64) (h:∀z∈b,z=0):b=aq 64 0:=rX.mpr ⟨hl,h⟩
theorem K0:backward (aq 64 0)=aq 64 0:=by decide+kernel
theorem Ey (q:Nat):zi q (aq 64 0)=aq 64 0:=by
 unfold zi
 refine gV (by simp) λi h1 h2=>?_
 simp only[k8,wm,ic]
 by_cases h:ORDER.idxOf i<64
 ·rw[dX _ _ _ (by rw[aP];exact h),ic,Int.zero_mul]
 ·rw[yT _ _ _ (by rw[aP];omega),Int.zero_mul]
theorem ug (q:Nat) (e:List Nat) (l:List (List Int)) (he:e.length=256) (hb:∀x∈e,x<=255) (hl:l.length=4) (h64:∀b∈l,b.length=64) (h0:u7 l):shown q e l=e:=by
 have h1:l.map (λb=>backward (zi q b))=aq 4 (aq 64 0):=by
  refine rX.mpr ⟨by simpa using hl,λb hb=>?_⟩
  obtain⟨c,hc,rfl⟩:=ay.mp hb
  rw[OB (h64 c hc) (h0 c hc),Ey,K0]
 have h2:joined (aq 4 (aq 64 0))=aq 256 0:=by decide+kernel
 unfold shown
 rw[h1,h2]
 refine gV (by rw[gR,aP,he];rfl) λi h3 h4=>?_
 simp only[List.getElem_zipWith,ic,qA]
 exact rB _ (hb _ (fS _))
theorem sv (l:List Nat):∀a,l.foldl (·+·) a=a+l.sum:=by
 induction l with
 |nil=>intro a;simp
 |cons x l ih=>intro a;rw[eM,ih,uL];lia
theorem Ax (l:List Nat):(l.map λ(x:Nat)=>(x:Int)).sum=((l.sum:Nat):Int):=by
 induction l with
 |nil=>rfl
 |cons x l ih=>rw[bg,uL,uL,ih];push_cast;rfl
theorem GL (a b:List Nat):(cS (λ(x y:Int)=>(x-y)*(x-y)) (zd a) (zd b)).sum=((squared a b:Nat):Int):=by
 unfold squared
 rw[sv,ku,<-Ax,jf]
 unfold zd
 rw[pj]
 congr 2
 funext x y
 have e:((((x:Int)-(y:Int)).natAbs^2:Nat):Int)=((x:Int)-(y:Int))*((x:Int)-(y:Int)):=by
  rw[Nat.pow_two]
  exact Int.natAbs_mul_self
 exact e.symm
theorem Fm (a b:List Nat):(cS (λ(x y:Int)=>if x-y<0 then -(x-y)else x-y) (zd a) (zd b)).sum=((distance a b:Nat):Int):=by
 unfold distance
 rw[sv,ku,<-Ax,jf]
 unfold zd
 rw[pj]
 congr 2
 funext x y
 split<;>omega
theorem Ms (l:List Int):((count l:Nat):Int)=(l.length:Int)-((l.countP (λz=>z==0):Nat):Int):=by
 unfold count
 rw[<-List.countP_eq_length_filter]
 have:=List.length_eq_countP_add_countP (λz:Int=>z==0) (l:=l)
 have e:l.countP (λx=>x !=0)=l.countP (λa=>decide ¬(a==0)=true):=by
  congr 1
  funext z
  by_cases h:z=0<;>simp[h]
 omega
theorem uh (l:List Int):(count l !=0)=l.any (λz=>z !=0):=by
 unfold count
 induction l with
 |nil=>rfl
 |cons z l ih=>
  rw[OI,lp,<-ih]
  by_cases h:z=0
  ·simp[h]
  ·simp[h]
theorem DS {n k:Nat} (h:n<2^k) (hn:n≠0):n.log2<k:=(Nat.log2_lt hn).mpr h
theorem Hf (n:Nat) (h:n<=65535):(num n).length<=33:=by
 rw[mi]
 have:(n+1).log2<17:=DS (by lia) (by lia)
 lia
theorem fD (n:Nat) (h:n<=63):(num n).length<=13:=by
 rw[mi]
 have:(n+1).log2<7:=DS (by lia) (by lia)
 lia
theorem zR:∀(l:List Int) (z:Nat),(∀x∈l,x.natAbs<=32767)->z+l.length<=64->(pairs z l).length<=47*l.length
 |[],_,_,_=>by simp[pairs]
 |x::r,z,h,hz=>by
  have hx:=h x (by simp)
  have hr:∀y∈r,y.natAbs<=32767:=λy hy=>h y (by simp[hy])
  rw[aJ]at hz⊢
  unfold pairs
  split
  ·have:=zR r (z+1) hr (by lia)
   lia
  ·have h1:=zR r 0 hr (by lia)
   have h2:=fD z (by lia)
   have h3:=Hf (x.natAbs-1) (by lia)
   simp only[aj,aJ]
   lia
def gd {α:Type} (f:α->Int):Int×α->List α->Int×α
 |b,[]=>b
 |b,x::r=>gd f (if f x<b.1 then (f x,x)else b) r
theorem rL {α:Type} (f:α->Nat):∀(l:List α) (b:α),gd (λx=>(f x:Int)) ((f b:Int),b) l=((f (sG f b l):Int),sG f b l)
 |[],b=>rfl
 |x::l,b=>by
  unfold gd sG
  by_cases h:f x<f b
  ·rw[if_pos h,if_pos (by show(f x:Int)<(f b:Int);lia)]
   exact rL f l x
  ·rw[if_neg h,if_neg (by show ¬(f x:Int)<(f b:Int);lia)]
   exact rL f l b
theorem qS {α:Type} (f:α->Nat) (m:Int) (b0 x:α) (l:List α) (h:(f x:Int)<m):gd (λx=>(f x:Int)) (m,b0) (x::l)=((f (sG f x l):Int),sG f x l):=by
 unfold gd
 rw[if_pos h]
 exact rL f l x
theorem C2 {α:Type} (f:α->Nat):∀(l:List α) (b:α),f (sG f b l)<=f b
 |[],b=>aO _
 |x::l,b=>by
  show f (sG f (if f x<f b then x else b) l)<=f b
  by_cases h:f x<f b
  ·rw[if_pos h];have:=C2 f l x;lia
  ·rw[if_neg h];exact C2 f l b
theorem qM {α:Type} (f:α->Nat):∀(l m:List α) (b:α),sG f b (l++m)=sG f (sG f b l) m
 |[],_,_=>rfl
 |x::l,m,b=>by show sG f _ (l++m)=_;rw[qM f l m];rfl
theorem K3 {α:Type} (f:α->Nat) (l m:List α) (b:α):sG f b (l++b::m)=sG f b (l++m):=by
 rw[qM,qM]
 show sG f (if f b<f (sG f b l)then b else sG f b l) m=_
 rw[if_neg (by have:=C2 f l b;lia)]
theorem v7 {α:Type} (f:α->Nat):∀(l:List α) (b:α),sG f b l=b\/sG f b l∈l
 |[],b=> .inl rfl
 |x::l,b=>by
  unfold sG
  rcases v7 f l (if f x<f b then x else b)with h|h
  ·rw[h];split
   ·exact .inr (by simp)
   ·exact .inl rfl
  ·exact .inr (by simp[h])
def mO (w:Vec):List Vec:=([(-1,-1),(0,-1),(1,-1),(-1,0),(0,0),(1,0),(-1,1),(0,1),(1,1)]:List Vec).map λd=>(w.1+d.1,w.2+d.2)
theorem FR (f:Vec->Nat) (w:Vec):sG f w (mO w)=sG f w (BESIDE.map λd=>(w.1+d.1,w.2+d.2)):=by
 have:=K3 f [(w.1+ -1,w.2+ -1),(w.1+0,w.2+ -1),(w.1+1,w.2+ -1),(w.1+ -1,w.2+0)] [(w.1+1,w.2+0),(w.1+ -1,w.2+1),(w.1+0,w.2+1),(w.1+1,w.2+1)] w
 have e:mO w=[(w.1+ -1,w.2+ -1),(w.1+0,w.2+ -1),(w.1+1,w.2+ -1),(w.1+ -1,w.2+0)]++w::[(w.1+1,w.2+0),(w.1+ -1,w.2+1),(w.1+0,w.2+1),(w.1+1,w.2+1)]:=by
  unfold mO
  simp
 rw[e,this]
 rfl
def UE:List Vec:=((ar 15).map λ(r:Nat)=>(ar 15).map λ(c:Nat)=>((-14+(c:Int)*2,-14+(r:Int)*2):Vec)).flatten
theorem MX:UE=WHOLE:=by decide+kernel
theorem HR:WHOLE=(-14,-14)::WHOLE.drop 1:=by decide+kernel
theorem EW:∀v∈WHOLE,-14<=v.1/\v.1<=14/\-14<=v.2/\v.2<=14:=by decide+kernel
theorem K9:∀d∈BESIDE,-1<=d.1/\d.1<=1/\-1<=d.2/\d.2<=1:=by decide
theorem uV (ref:Pic) (i j:Nat) (o:List Nat) (p:Vec): -14<=(xo ref i j o p).1/\(xo ref i j o p).1<=14/\-14<=(xo ref i j o p).2/\(xo ref i j o p).2<=14:=by
 unfold xo
 rcases v7 (vecCost ref i j o p) (WHOLE.drop 1) (-14,-14)with h|h
 ·rw[h];decide
 ·exact EW _ (sU h)
theorem GG (f:Vec->Nat) (w:Vec) (hw: -14<=w.1/\w.1<=14/\-14<=w.2/\w.2<=14) (v:Vec) (hv:v=sG f w (BESIDE.map λd=>(w.1+d.1,w.2+d.2))): -15<=v.1/\v.1<=15/\-15<=v.2/\v.2<=15:=by
 rcases v7 f (BESIDE.map λd=>(w.1+d.1,w.2+d.2)) w with h|h
 ·rw[hv,h];omega
 ·obtain⟨d,hd,e⟩:=ay.mp h
  have XD:=K9 d hd
  rw[hv,<-e]
  show -15<=w.1+d.1/\w.1+d.1<=15/\-15<=w.2+d.2/\w.2+d.2<=15
  omega
theorem Ck (ref:Pic) (i j:Nat) (o:List Nat) (p:Vec): -15<=(search ref i j o p).1/\(search ref i j o p).1<=15/\-15<=(search ref i j o p).2/\(search ref i j o p).2<=15:=
 GG (vecCost ref i j o p) (xo ref i j o p) (uV ref i j o p) (search ref i j o p) (by simp only[search])
def jx (q p1 p0 q0 q1:Int):Int:=
 if (4*q<=(if p0-q0<0 then -(p0-q0)else p0-q0))\/(2*q<=(if p1-p0<0 then -(p1-p0)else p1-p0))\/(2*q<=(if q1-q0<0 then -(q1-q0)else q1-q0))then 0
 else
  let v:=(4*(q0-p0)+(p1-q1)+4)/8
  let l:=(q-1)/2
  let m:=if -l>v then -l else v
  if l<m then l else m
theorem Jh (q:Nat) (hq:1<=q) (p1 p0 q0 q1:Nat) (h0:p0<=255) (h1:q0<=255):
  ((edge q p1 p0 q0 q1).1:Int)=iK ((p0:Int)+jx q p1 p0 q0 q1)/\((edge q p1 p0 q0 q1).2:Int)=iK ((q0:Int)+ -jx q p1 p0 q0 q1):=by
 have idc:∀x:Nat,x<=255->iK ((x:Int)+0)=(x:Int):=λx hx=>by rw[qA,nX,rB x hx]
 unfold edge jx
 simp only[]
 by_cases c:((p0:Int)-(q0:Int)).natAbs<4*q/\((p1:Int)-(p0:Int)).natAbs<2*q/\((q1:Int)-(q0:Int)).natAbs<2*q
 ·rw[if_pos c,if_neg (by omega)]
  have e:within (-(((q-1)/2:Nat):Int)) (((q-1)/2:Nat):Int) ((4*((q0:Int)-(p0:Int))+((p1:Int)-(q1:Int))+4)/8)=
    (if ((q:Int)-1)/2<(if -(((q:Int)-1)/2)>(4*((q0:Int)-(p0:Int))+((p1:Int)-(q1:Int))+4)/8 then -(((q:Int)-1)/2)else (4*((q0:Int)-(p0:Int))+((p1:Int)-(q1:Int))+4)/8)then ((q:Int)-1)/2
     else (if -(((q:Int)-1)/2)>(4*((q0:Int)-(p0:Int))+((p1:Int)-(q1:Int))+4)/8 then -(((q:Int)-1)/2)else (4*((q0:Int)-(p0:Int))+((p1:Int)-(q1:Int))+4)/8)):=by
   have e2:(((q-1)/2:Nat):Int)=((q:Int)-1)/2:=by omega
   rw[e2]
   generalize (4*((q0:Int)-(p0:Int))+((p1:Int)-(q1:Int))+4)/8=v
   have hl:0<=((q:Int)-1)/2:=by omega
   generalize ((q:Int)-1)/2=l at hl
   unfold within
   split
   ·rw[if_neg (by omega)]<;>(try rw[if_pos (by omega)])<;>omega
   ·rfl
  rw[e]
  exact⟨(nX _).symm,(nX _).symm⟩
 ·rw[if_neg c,if_pos (by omega)]
  exact⟨(idc p0 h0).symm,by rw[Int.neg_zero];exact(idc q0 h1).symm⟩
def cH (n m:Nat) (G:Nat->Nat->Nat):List (List Int):=(ar n).map λr=>(ar m).map λc=>((G r c:Nat):Int)
def gZ (q n:Nat) (G:Nat->Nat->Nat) (r c:Nat):Nat:=
 if r%8=7/\r+1<n then (edge q (G (r-1) c) (G r c) (G (r+1) c) (G (r+2) c)).1
 else if r%8=0/\r≠0 then (edge q (G (r-2) c) (G (r-1) c) (G r c) (G (r+1) c)).2 else G r c
theorem kD (n m:Nat) (G:Nat->Nat->Nat):(cH n m G).length=n:=by simp[cH]
theorem lU {n m:Nat} {G:Nat->Nat->Nat} {r:Nat} (h:r<n):(cH n m G)[r]? =some ((ar m).map λc=>((G r c:Nat):Int)):=by
 unfold cH;rw[aE,dE h];rfl
theorem mR {n m:Nat} {G G':Nat->Nat->Nat} (h:∀r c,r<n->c<m->G r c=G' r c):cH n m G=cH n m G':=
 bx λr hr=>bx λc hc=>by rw[h r c hr hc]
theorem Cs {n m:Nat} {G:Nat->Nat->Nat}:∀r∈cH n m G,r.length=m:=λr hr=>by
 unfold cH at hr;obtain⟨k,_,rfl⟩:=ay.mp hr;simp
theorem jX (n m:Nat) (G:Nat->Nat->Nat):(cH n m G).flatten.length=m*n:=by rw[eG Cs,kD,bE]
theorem lq {n m:Nat} {G:Nat->Nat->Nat} {r c:Nat} (hr:r<n) (hc:c<m):(cH n m G).flatten.getD (m*r+c) 0=((G r c:Nat):Int):=by
 rw[hU 0 Cs (by rw[kD];exact hr) hc]
 unfold cH
 rw[bO _ _ _ _ hr,bO _ _ _ _ hc]
theorem Ca {n m k:Nat} {F F':Nat->Nat->Nat} {A B:List Int} (hk:k<n) (hk0:0<k) (h:∀r,r<n->r≠k-1->r≠k->∀c,c<m->F' r c=F r c)
  (hA:A=(ar m).map λc=>((F' (k-1) c:Nat):Int)) (hB:B=(ar m).map λc=>((F' k c:Nat):Int)):((cH n m F).set (k-1) A).set k B=cH n m F':=by
 apply xp
 intro r
 by_cases hr:r<n
 ·rw[lU hr,LI,LI,eL,kD]
  by_cases e1:k=r
  ·subst e1;rw[if_pos rfl,if_pos hr,hB]
  ·rw[if_neg e1]
   by_cases e2:k-1=r
   ·rw[if_pos e2,if_pos (by lia),hA,<-e2]
   ·rw[if_neg e2,lU hr]
    congr 1
    exact bx λc hc=>by rw[h r hr (iy e2) (iy e1) c hc]
 ·rw[bu (by simp[kD];lia),bu (by rw[kD];lia)]
theorem IQ (q:Nat) (p1 p0 q0 q1:Nat) (h0:p0<=255) (h1:q0<=255):(edge q p1 p0 q0 q1).1<=255/\(edge q p1 p0 q0 q1).2<=255:=by
 unfold edge
 simp only[]
 split
 ·exact⟨C7 _,C7 _⟩
 ·exact⟨h0,h1⟩
theorem vg {q n:Nat} {G:Nat->Nat->Nat} (h:∀r c,G r c<=255) (r c:Nat):gZ q n G r c<=255:=by
 unfold gZ
 split
 ·exact(IQ q _ _ _ _ (h _ _) (h _ _)).1
 ·split
  ·exact(IQ q _ _ _ _ (h _ _) (h _ _)).2
  ·exact h _ _
theorem FV {q n:Nat} {G G':Nat->Nat->Nat} {c:Nat} (hn:n%8=0) (h:∀r,r<n->G r c=G' r c) {r:Nat} (hr:r<n):gZ q n G r c=gZ q n G' r c:=by
 unfold gZ
 split
 ·rename_i e
  rw[h (r-1) (by omega),h r hr,h (r+1) (by omega),h (r+2) (by omega)]
 ·split
  ·rename_i e
   rw[h (r-2) (by omega),h (r-1) (by omega),h r hr,h (r+1) (by omega)]
  ·exact h r hr
def jv (q n:Nat) (G:Nat->Nat->Nat) (i:Nat):Nat->Nat->Nat:=λr c=>if r<=8*i then gZ q n G r c else G r c
theorem HW (q n m:Nat) (G:Nat->Nat->Nat):cH n m (jv q n G 0)=cH n m G:=mR λr c _ _=>by
 unfold jv
 split
 ·rename_i e
  have:r=0:=by lia
  subst this
  unfold gZ
  rw[if_neg (by lia),if_neg (by lia)]
 ·rfl
theorem Lg (q n m:Nat) (G:Nat->Nat->Nat) (hn:n%8=0):cH n m (jv q n G (n/8-1))=cH n m (gZ q n G):=mR λr c hr _=>by
 unfold jv
 split
 ·rfl
 ·rename_i e
  unfold gZ
  rw[if_neg (by lia),if_neg (by lia)]
theorem vV {m:Nat} (f:Nat->Nat) {c:Nat} (hc:c<m):((ar m).map λc=>((f c:Nat):Int)).getD c 0=((f c:Nat):Int):=bO _ _ _ _ hc
theorem AK {q n m:Nat} {G:Nat->Nat->Nat} (hq:1<=q) (hG:∀r c,G r c<=255) (hn:n%8=0) (i:Nat) (hk:8+8*i<n):
  (((cH n m (jv q n G i)).set (8+8*i-1) ((ar m).map λc=>iK (((G (8+8*i-1) c:Nat):Int)+jx q (G (8+8*i-2) c) (G (8+8*i-1) c) (G (8+8*i) c) (G (8+8*i+1) c)))).set (8+8*i)
   ((ar m).map λc=>iK (((G (8+8*i) c:Nat):Int)+ -jx q (G (8+8*i-2) c) (G (8+8*i-1) c) (G (8+8*i) c) (G (8+8*i+1) c))))=cH n m (jv q n G (i+1)):=by
 refine Ca hk (by lia) (λr hr h1 h2 c hc=>?_) ?_ ?_
 ·unfold jv
  by_cases e:r<=8*i
  ·rw[if_pos e,if_pos (by lia)]
  ·rw[if_neg e]
   by_cases e2:r<=8*(i+1)
   ·rw[if_pos e2]
    unfold gZ
    rw[if_neg (by lia),if_neg (by lia)]
   ·rw[if_neg e2]
 ·refine bx λc hc=>?_
  unfold jv
  rw[if_pos (by lia)]
  unfold gZ
  rw[if_pos (by lia),(Jh q hq _ _ _ _ (hG _ _) (hG _ _)).1]
  rw[show 8+8*i-1-1=8+8*i-2 by lia,show 8+8*i-1+1=8+8*i by lia,show 8+8*i-1+2=8+8*i+1 by lia]
 ·refine bx λc hc=>?_
  unfold jv
  rw[if_pos (by lia)]
  unfold gZ
  rw[if_neg (by lia),if_pos (by lia),(Jh q hq _ _ _ _ (hG _ _) (hG _ _)).2]
theorem Oc {x:Nat} (h:x<=255):iK ((x:Int)+0)=(x:Int):=by rw[qA,nX,rB x h]
theorem Hu {q n m:Nat} {G:Nat->Nat->Nat} (hq:1<=q) (hG:∀r c,G r c<=255) (hn:n%8=0) (i:Nat) (hk:8+8*i<n)
  (h0:∀c,c<m->jx q (G (8+8*i-2) c) (G (8+8*i-1) c) (G (8+8*i) c) (G (8+8*i+1) c)=0):cH n m (jv q n G (i+1))=cH n m (jv q n G i):=by
 rw[<-AK hq hG hn i hk]
 refine Ca hk (by lia) (λr hr h1 h2 c hc=>rfl) ?_ ?_
 ·refine bx λc hc=>?_
  rw[h0 c hc,Oc (hG _ _)]
  unfold jv
  rw[if_neg (by lia)]
 ·refine bx λc hc=>?_
  rw[h0 c hc,Int.neg_zero,Oc (hG _ _)]
  unfold jv
  rw[if_neg (by lia)]
theorem jV (p:Pic) (x y:Int):p.at_ x y<=255:=by
 unfold Pic.at_
 have:=(p.points.getD ((within 0 ((p.high:Int)-1) y).toNat*p.wide+(within 0 ((p.wide:Int)-1) x).toNat) 0).toNat_lt
 omega
theorem Ni {p:Pic} (ok:fh p):cN (iT p) p.wide p.high=cH p.high p.wide λy x=>p.at_ (x:Nat) (y:Nat):=by
 unfold cN cH
 refine bx λy hy=>?_
 have hle:p.wide*y+p.wide<=p.wide*p.high:=by rw[<-eJ];exact b6 _ hy
 refine fQ 0 (by rw[aA,ba,jq,ok.len];simp;lia) λk hk=>?_
 have F7:k<p.wide:=by rw[aA]at hk;lia
 rw[iY _ _ _ _ F7,jz,bO _ _ _ _ F7,Cq p k y F7 hy,bE]
theorem Ow {p:Pic} (ok:fh p):cN (j6 (iT p) p.wide p.high) p.high p.wide=cH p.wide p.high λx y=>p.at_ (x:Nat) (y:Nat):=by
 unfold cN cH
 refine bx λx hx=>?_
 have hle:p.high*x+p.high<=p.high*p.wide:=by rw[<-eJ];exact b6 _ hx
 have hl:=iM (iT p) p.wide p.high
 rw[bE p.high p.wide]at hle
 refine fQ 0 (by rw[aA,ba,hl];simp;lia) λk hk=>?_
 have F7:k<p.high:=by rw[aA]at hk;lia
 rw[iY _ _ _ _ F7,jz,bO _ _ _ _ F7,oU (iT p) p.wide p.high x k hx F7,Cq p x k hx F7,bE]
theorem Kk (w h:Nat) (G:Nat->Nat->Nat):j6 (cH w h G).flatten h w=(cH h w λy x=>G x y).flatten:=by
 unfold j6
 congr 1
 rw[cH.eq_def h w]
 refine bx λc hc=>?_
 unfold m7
 refine bx λr hr=>?_
 rw[qu,lq hr hc]
theorem KZ (w h:Nat) (G:Nat->Nat->Nat):cN (cH h w G).flatten w h=cH h w G:=by
 unfold cN
 rw[cH.eq_def h w]
 refine bx λy hy=>?_
 have hle:w*y+w<=w*h:=by rw[<-eJ];exact b6 _ hy
 have hl:=jX h w G
 rw[cH.eq_def h w]at hl
 refine fQ 0 (by rw[aA,ba,hl];simp;lia) λk hk=>?_
 have F7:k<w:=by rw[aA]at hk;lia
 rw[iY _ _ _ _ F7,jz,bO _ _ _ _ F7,<-cH.eq_def h w,lq hy F7]
theorem zF (p:Pic) (f:Nat->Nat->Nat) (hf:∀x y,f x y<=255) (hw:0<p.wide):iT (p.mapped f)=(cH p.high p.wide λy x=>f x y).flatten:=by
 have e:=rh (λx y=>((f x y:Nat):Int)) p.high p.wide hw
 unfold cH
 rw[<-e]
 unfold iT Pic.mapped Rd16.ints
 simp only
 rw[aF,bE]
 refine bx λk _=>?_
 simp only[bP]
 have:=hf (k%p.wide) (k/p.wide)
 congr 1
 rw[JG]
 lia
theorem wL {p:Pic} (ok:fh p) (f:Nat->Nat->Nat):fh (p.mapped f):=⟨by simp[Pic.mapped],ok.w,ok.h⟩
theorem J8 {p:Pic} (ok:fh p) (f:Nat->Nat->Nat) (hf:∀x y,f x y<=255) (x y:Nat) (hx:x<p.wide) (hy:y<p.high):(p.mapped f).at_ (x:Nat) (y:Nat)=f x y:=by
 have h:=Cq (p.mapped f) x y hx hy
 rw[zF p f hf (by have:=ok.w;omega)]at h
 have h2:=lq (n:=p.high) (m:=p.wide) (G:=λy x=>f x y) hy hx
 rw[bE]at h2
 have:((p.mapped f).at_ (x:Int) (y:Int):Int)=(f x y:Int):=by rw[h];exact h2
 exact_mod_cast this
theorem ET (q:Nat) (p:Pic):A5 q p=p.mapped λx y=>gZ q p.wide (λx y=>p.at_ (x:Nat) (y:Nat)) x y:=rfl
theorem N1 (q:Nat) (p:Pic):smoothDown q p=p.mapped λx y=>gZ q p.high (λy x=>p.at_ (x:Nat) (y:Nat)) y x:=rfl
theorem xf {p:Pic} (ok:fh p) (q:Nat):fh (smooth q p):=by
 unfold smooth;rw[N1,ET];exact wL (wL ok _) _
theorem zI {p:Pic} (ok:fh p) (q:Nat):iT (smooth q p)=(cH p.high p.wide (gZ q p.high λy x=>gZ q p.wide (λx y=>p.at_ (x:Nat) (y:Nat)) x y)).flatten:=by
 unfold smooth
 rw[N1]
 have okA:fh (A5 q p):=wL ok _
 have hG:∀x y:Nat,p.at_ (x:Nat) (y:Nat)<=255:=λx y=>jV p _ _
 rw[zF (A5 q p) _ (λx y=>vg (λr c=>jV _ _ _) _ _) (by have:=okA.w;lia)]
 show(cH p.high p.wide _).flatten=_
 congr 1
 refine mR λy x hy hx=>?_
 show gZ q p.high (λy x=>(A5 q p).at_ (x:Nat) (y:Nat)) y x=_
 have h8:p.high%8=0:=by have:=ok.h;lia
 refine FV h8 (λr hr=>?_) hy
 rw[ET]
 exact J8 ok _ (λx y=>vg (G:=λx y=>p.at_ (x:Nat) (y:Nat)) (λr c=>jV _ _ _) x y) x r hx hr
theorem CG (q:Nat) (hq:(q-1)/2=0) (p1 p0 q0 q1:Nat) (h0:p0<=255) (h1:q0<=255):edge q p1 p0 q0 q1=(p0,q0):=by
 unfold edge
 rw[hq]
 have hd:∀v:Int,within (-((0:Nat):Int)) ((0:Nat):Int) v=0:=λv=>by unfold within;split<;>(try split)<;>lia
 simp only[hd]
 split
 ·rw[qA,Int.sub_zero,rB _ h0,rB _ h1]
 ·rfl
theorem zq {q n:Nat} (hq:(q-1)/2=0) {G:Nat->Nat->Nat} (h:∀r c,G r c<=255) (r c:Nat):gZ q n G r c=G r c:=by
 unfold gZ
 split
 ·rw[CG q hq _ _ _ _ (h _ _) (h _ _)]
 ·split
  ·rw[CG q hq _ _ _ _ (h _ _) (h _ _)]
  ·rfl
theorem IX {α β:Type} {f:α->β} (h:∀a b,f a=f b->a=b):∀l m:List α,l.map f=m.map f->l=m
 |[],[],_=>rfl
 |[],_::_,e=>by simp at e
 |_::_,[],e=>by simp at e
 |a::l,b::m,e=>by
  rw[bg,bg]at e
  rw[h a b (Eb.inj e).1,IX h l m (Eb.inj e).2]
theorem QL {p p':Pic} (h1:p.wide=p'.wide) (h2:p.high=p'.high) (h3:iT p=iT p'):p=p':=by
 cases p with
 |mk w h l=>
  cases p' with
  |mk w' h' l'=>
   cases h1;cases h2
   congr 1
   unfold iT Rd16.ints at h3
   simp only at h3
   have:∀a b:UInt8,((a.toNat:Nat):Int)=((b.toNat:Nat):Int)->a=b:=λa b e=>UInt8.toNat_inj.mp (by exact_mod_cast e)
   exact IX this l l' h3
theorem FC {p:Pic} (ok:fh p) (q:Nat) (hq:(q-1)/2=0):smooth q p=p:=by
 refine QL rfl rfl ?_
 rw[zI ok]
 have e:(cH p.high p.wide (gZ q p.high λy x=>gZ q p.wide (λx y=>p.at_ (x:Nat) (y:Nat)) x y))=cH p.high p.wide λy x=>p.at_ (x:Nat) (y:Nat):=mR λr c _ _=>by
  rw[zq hq (λr c=>vg (λr c=>jV _ _ _) _ _),zq hq (λr c=>jV _ _ _)]
 rw[e,<-Ni ok,AL 0 (iT p) p.wide p.high (by have:=ok.w;lia) (by rw[jq,ok.len,bE])]
theorem uf {p:Int} {n k:Nat} (h:de p=some (n,k)):(k=0\/k=1)/\n<=4/\0<=p/\p<=12:=by
 unfold de at h
 have go:∀{a:Int} {x y:Option (Nat×Nat)} {Q:Prop},(if p=a then x else y)=some (n,k)->(p=a->x=some (n,k)->Q)->(y=some (n,k)->Q)->Q:=λ{a x y Q} h h1 h2=>by
  by_cases e:p=a
  ·rw[if_pos e]at h;exact h1 e h
  ·rw[if_neg e]at h;exact h2 h
 have fin:∀{a b:Nat},some (a,b)=some (n,k)->a=n/\b=k:=λh=>by injection h with h;injection h with h1 h2;exact⟨h1,h2⟩
 refine go h (λe h=>by have:=fin h;lia) λh=>?_
 refine go h (λe h=>by have:=fin h;lia) λh=>?_
 refine go h (λe h=>by have:=fin h;lia) λh=>?_
 refine go h (λe h=>by have:=fin h;lia) λh=>?_
 refine go h (λe h=>by have:=fin h;lia) λh=>?_
 refine go h (λe h=>by have:=fin h;lia) λh=>?_
 refine go h (λe h=>by have:=fin h;lia) λh=>?_
 refine go h (λe h=>by have:=fin h;lia) λh=>?_
 refine go h (λe h=>by have:=fin h;lia) λh=>?_
 refine go h (λe h=>by have:=fin h;lia) λh=>?_
 refine go h (λe h=>by have:=fin h;lia) λh=>?_
 refine go h (λe h=>by have:=fin h;lia) λh=>?_
 refine go h (λe h=>by have:=fin h;lia) λh=>?_
 cases h
theorem HJ {p:Int} {r:List Int} {c:List (List Int)} {t:List Int} (h:xX de (p::r)=some (c,t)):∃n k,de p=some (n,k)/\n<=r.length/\
  ((k=0/\c=[p::r.take n]/\t=r.drop n)\/(k=1/\∃(m:Nat) (s:List Int),r.drop n=(m:Int)::s/\m<=s.length/\c=[p::r.take n,s.take m]/\t=s.drop m)):=by
 simp only[xX]at h
 cases hs:de p with
 |none=>rw[hs]at h;cases h
 |some nk=>
  obtain⟨n,k⟩:=nk
  rw[hs]at h
  simp only at h
  by_cases hn:r.length<n
  ·rw[if_pos hn]at h;cases h
  ·rw[if_neg hn]at h
   refine⟨n,k,rfl,by lia,?_⟩
   rcases(uf hs).1 with rfl|rfl
   ·left
    simp only[PyFlat.rows]at h
    injection h with h;injection h with h1 h2
    exact⟨rfl,h1.symm,h2.symm⟩
   ·right
    refine⟨rfl,?_⟩
    simp only[PyFlat.rows]at h
    cases hd:r.drop n with
    |nil=>rw[hd]at h;simp[PyFlat.row]at h
    |cons m s=>
     rw[hd]at h
     unfold PyFlat.row at h
     by_cases hm:0<=m/\m.toNat<=s.length
     ·simp only[hm,and_self,if_true]at h
      injection h with h;injection h with h1 h2
      exact⟨m.toNat,s,by rw[uM hm.1],hm.2,h1.symm,h2.symm⟩
     ·simp only[hm,if_false]at h;cases h
theorem HI {f:Nat} {p:Int} {r:List Int} {cs:List (List (List Int))} (h:ke de f (p::r)=some cs):∃f' c t L9,f=f'+1/\xX de (p::r)=some (c,t)/\ke de f' t=some L9/\cs=c::L9:=by
 cases f with
 |zero=>cases h
 |succ f=>
  simp only[ke]at h
  cases hc:xX de (p::r)with
  |none=>rw[hc]at h;cases h
  |some ct=>
   obtain⟨c,t⟩:=ct
   rw[hc]at h
   simp only at h
   cases hr:ke de f t with
   |none=>rw[hr]at h;cases h
   |some L9=>
    rw[hr]at h
    injection h with h
    exact⟨f,c,t,L9,rfl,rfl,hr,h.symm⟩
theorem BV:∀(z n:Nat) (l:List Bool) (x:Nat) (r:List Bool),CL z n l=some (x,r)->x<(n+1)*2^z
 |0,n,l,x,r,h=>by
  simp only[CL,dY,ie]at h
  rw[Nat.pow_zero];lia
 |z+1,n,[],x,r,h=>by simp[CL]at h
 |z+1,n,b::l,x,r,h=>by
  have h:=BV z _ l x r h
  have e:((2*n+if b=true then 1 else 0)+1)*2^z<=(n+1)*2^(z+1):=by
   rw[Nat.pow_succ,bE (2^z) 2,<-Nat.mul_assoc]
   refine dz _ ?_
   split<;>lia
  lia
theorem FE:∀(f z:Nat) (l:List Bool) (x:Nat) (r:List Bool),A6 f z l=some (x,r)->z+f<=21->x<2^21
 |0,z,l,x,r,h,_=>by simp[A6]at h
 |f+1,z,[],x,r,h,_=>by simp[A6]at h
 |f+1,z,b::l,x,r,h,hz=>by
  unfold A6 at h
  cases b with
  |false=>exact FE f (z+1) l x r (by simpa using h) (by lia)
  |true=>
   simp only[jJ,if_false]at h
   cases e:CL z 1 l with
   |none=>rw[e]at h;cases h
   |some y=>
    rw[e]at h
    simp only[jt,dY,ie]at h
    have:=BV z 1 l y.1 y.2 e
    have:(1+1)*2^z<=2*2^20:=b6 _ (ub (by lia) (by lia))
    lia
theorem Mq {l:List Bool} {x:Nat} {r:List Bool} (h:rdN l=some (x,r)):x<2^21:=FE 21 0 l x r h (by lia)
theorem Nh (f z:Nat) (r:List Bool):A6 (f+1) z (false::r)=A6 f (z+1) r:=by simp[A6]
theorem Q5 (f z:Nat) (r:List Bool):A6 (f+1) z (true::r)=(CL z 1 r).map λ(x:Nat×List Bool)=>(x.1-1,x.2):=by simp[A6]
theorem QU (f z:Nat):A6 f z []=none:=by cases f<;>simp[A6]
theorem Kr (z n:Nat) (b:Bool) (r:List Bool):CL (z+1) n (b::r)=CL z (2*n+if b=true then 1 else 0) r:=rfl
theorem Mp (z n:Nat):CL (z+1) n []=none:=rfl
def UU (s:Bool) (m:Nat):Int:=if s=true then -((m+1:Nat):Int)else ((m+1:Nat):Int)
theorem zt {q n k:Nat} {l l1 l2 l3:List Bool} {z m:Nat} {s:Bool} (h1:rdN l=some (z,l1)) (h2:rdN l1=some (m,l2)) (h3:l2=s::l3):
  rdPairs q (n+1) k l=if 64<=k+z\/32767<(m+1)*q then none else (rdPairs q n (k+z+1) l3).map λ(x:List Int×List Bool)=>(aq z 0++(UU s m::x.1),x.2):=by
 subst h3
 simp only[rdPairs,h1,h2,bit,UU]
theorem Fi {q n k:Nat} {l:List Bool} (h1:rdN l=none):rdPairs q (n+1) k l=none:=by simp only[rdPairs,h1]
theorem Ew {q n k:Nat} {l l1:List Bool} {z:Nat} (h1:rdN l=some (z,l1)) (h2:rdN l1=none):rdPairs q (n+1) k l=none:=by simp only[rdPairs,h1,h2]
theorem FH {q n k:Nat} {l l1:List Bool} {z m:Nat} (h1:rdN l=some (z,l1)) (h2:rdN l1=some (m,[])):rdPairs q (n+1) k l=none:=by simp only[rdPairs,h1,h2,bit]
theorem Uu (q:Nat) (s:Bool) (m:Nat) (h:¬32767<(m+1)*q):(UU s m).natAbs*q<=32767:=by
 have e:(UU s m).natAbs=m+1:=by unfold UU;split<;>lia
 rw[e];lia
theorem FG (q:Nat):∀(n k:Nat) (l:List Bool) (x:List Int) (r:List Bool),rdPairs q n k l=some (x,r)->k<=64->x.length=64-k/\∀z∈x,z.natAbs*q<=32767
 |0,k,l,x,r,h,_=>by
  simp only[rdPairs,dY,ie]at h
  rw[<-h.1]
  refine⟨by simp,λz hz=>?_⟩
  rw[gJ hz]
  simp
 |n+1,k,l,x,r,h,hk=>by
  cases h1:rdN l with
  |none=>rw[Fi h1]at h;cases h
  |some a=>
   obtain⟨z,l1⟩:=a
   cases h2:rdN l1 with
   |none=>rw[Ew h1 h2]at h;cases h
   |some b=>
    obtain⟨m,l2⟩:=b
    cases l2 with
    |nil=>rw[FH h1 h2]at h;cases h
    |cons s l3=>
     rw[zt h1 h2 rfl]at h
     by_cases c:64<=k+z\/32767<(m+1)*q
     ·rw[if_pos c]at h;cases h
     ·rw[if_neg c]at h
      cases h3:rdPairs q n (k+z+1) l3 with
      |none=>rw[h3]at h;cases h
      |some y=>
       rw[h3]at h
       simp only[jt,dY,ie]at h
       obtain⟨g1,g2⟩:=FG q n (k+z+1) l3 y.1 y.2 h3 (by omega)
       rw[<-h.1]
       refine⟨by rw[aj,aP,aJ,g1];omega,λw hw=>?_⟩
       rcases gq.mp hw with hw|hw
       ·rw[gJ hw];simp
       ·rcases aB.mp hw with rfl|hw
        ·exact Uu q s m (by omega)
        ·exact g2 w hw
theorem L3 {q:Nat} {f:Bool} {l:List Bool} {x:List Int} {r:List Bool} (h:nr q f l=some (x,r)):x.length=64/\∀z∈x,z.natAbs*q<=32767:=by
 unfold nr at h
 cases f with
 |false=>
  simp only[if_true,dY,ie]at h
  rw[<-h.1]
  refine⟨by simp,λz hz=>?_⟩
  rw[gJ hz]
  simp
 |true=>
  simp only[jJ,if_false]at h
  cases h1:rdN l with
  |none=>rw[h1]at h;cases h
  |some a=>
   obtain⟨n,l1⟩:=a
   rw[h1]at h
   simp only at h
   by_cases c:64<=n
   ·rw[if_pos c]at h;cases h
   ·rw[if_neg c]at h
    exact FG q (n+1) 0 l1 x r h (by lia)
theorem BN (q:Nat):∀(fs l:List Bool) (x:List (List Int)) (r:List Bool),oy q fs l=some (x,r)->x.length=fs.length/\∀b∈x,b.length=64/\∀z∈b,z.natAbs*q<=32767
 |[],l,x,r,h=>by
  simp only[oy,dY,ie]at h
  rw[<-h.1];exact⟨rfl,λb hb=>by cases hb⟩
 |f::fs,l,x,r,h=>by
  simp only[oy]at h
  cases h1:nr q f l with
  |none=>rw[h1]at h;cases h
  |some a=>
   obtain⟨b,l1⟩:=a
   rw[h1]at h
   simp only at h
   cases h2:oy q fs l1 with
   |none=>rw[h2]at h;cases h
   |some y=>
    rw[h2]at h
    simp only[jt,dY,ie]at h
    obtain⟨g1,g2⟩:=BN q fs l1 y.1 y.2 h2
    rw[<-h.1]
    refine⟨by rw[aJ,aJ,g1],λc hc=>?_⟩
    rcases aB.mp hc with rfl|hc
    ·exact L3 h1
    ·exact g2 c hc
theorem JW (d:List Int) (k z:Nat) (v:Int) (hk:d.length=k) (hz:k+z<64):(d++aq (64-k) 0).set (k+z) v=(d++(aq z 0++[v]))++aq (64-(k+z+1)) 0:=by
 have e:64-k=z+(1+(64-(k+z+1))):=by lia
 rw[Gn _ _ (by lia),hk,pY,e,<-xY,Gn _ _ (by simp),aP,qB,<-xY]
 simp
theorem Am {q:Nat} {l l1:List Bool} {n:Nat} (h:rdN l=some (n,l1)):nr q true l=if 64<=n then none else rdPairs q (n+1) 0 l1:=by
 unfold nr
 simp only[jJ,if_false,h]
theorem GH {q:Nat} {l:List Bool} (h:rdN l=none):nr q true l=none:=by
 unfold nr
 simp only[jJ,if_false,h]
theorem My {q:Nat} (l:List Bool):nr q false l=some (aq 64 0,l):=by simp[nr]
theorem Eu {q:Nat} {f:Bool} {fs l l1:List Bool} {b:List Int} (h:nr q f l=some (b,l1)):oy q (f::fs) l=(oy q fs l1).map λ(x:List (List Int)×List Bool)=>(b::x.1,x.2):=by
 simp only[oy,h]
theorem E1 {q:Nat} {f:Bool} {fs l:List Bool} (h:nr q f l=none):oy q (f::fs) l=none:=by simp only[oy,h]
theorem Dg {q:Nat} {key:Bool} {wide n k:Nat} {p:Vec} {l l1:List Bool} {s:Square} (h:rdSquare q key (k%wide) (k/wide) (if k%wide=0 then (0,0)else p) l=some (s,l1)):
  rdSquares q key wide (n+1) k p l=(rdSquares q key wide n (k+1) (vecOf s.kind) l1).map λ(x:List Square×List Bool)=>(s::x.1,x.2):=by simp only[rdSquares,h]
theorem CV {q:Nat} {key:Bool} {wide n k:Nat} {p:Vec} {l:List Bool} (h:rdSquare q key (k%wide) (k/wide) (if k%wide=0 then (0,0)else p) l=none):rdSquares q key wide (n+1) k p l=none:=by simp only[rdSquares,h]
theorem B1 (q wide:Nat) (ref:Pic):∀(a b:List Square) (k:Nat) (cur:Pic),shows q wide ref k (a++b) cur=shows q wide ref (k+a.length) b (shows q wide ref k a cur)
 |[],b,k,cur=>rfl
 |s::a,b,k,cur=>by
  have:=B1 q wide ref a b (k+1) (cur.with_ (k%(wide/16)) (k/(wide/16)) (shown q (Gm ref cur (k%(wide/16)) (k/(wide/16)) s.kind) s.levels))
  rw[aJ,show k+(a.length+1)=k+1+a.length by lia]
  exact this
end M
namespace G
open PySem PySem.Spec L2
inductive D where
 |non|bl (b:Bool)|int (i:Int)|str (x:Str)
 |lst (xs:List D)|tup (xs:List D)|ro (xs:List D)
 |ins (C:Addr) (ns:List Str) (xs:List D)
 |ptr (a:Addr)
mutual
def sP (K:ag) (F:Hp):D->V->Prop
 | .non,v=>v= .non
 | .bl b,v=>v= .bl b
 | .int i,v=>v= .int i
 | .str x,v=>v= .str x
 | .lst xs,v=>∃a vs,v= .ref a/\F a=some (.lst vs)/\cg K F xs vs
 | .tup xs,v=>∃a vs,v= .ref a/\o8 K F a vs/\cg K F xs vs
 | .ro xs,v=>∃a vs,v= .ref a/\iL K F a vs/\cg K F xs vs
 | .ins C ns xs,v=>∃a dx vs,v= .ref a/\F a=some (.ins C dx (ns.zip vs))/\ns.length=vs.length/\cg K F xs vs
 | .ptr a,v=>v= .ref a
def cg (K:ag) (F:Hp):List D->List V->Prop
 |[],vs=>vs=[]
 |d::ds,vs=>∃v r,vs=v::r/\sP K F d v/\cg K F ds r
end
theorem o8.same {K:ag} {H H':Hp} {a:Addr} {xs:List V} (e:bX H H') (h:o8 K H a xs):o8 K H' a xs:=by
 rcases h with (h|⟨o,h⟩)|h
 ·exact .inl (.inl (e _ _ h))
 ·exact .inl (.inr ⟨o,e _ _ h⟩)
 ·exact .inr h
mutual
theorem sP.mono {K:ag} {F F':Hp} (e:bX F F'):∀(d:D) (v:V),sP K F d v->sP K F' d v
 | .non,v,h=>h
 | .bl b,v,h=>h
 | .int i,v,h=>h
 | .str x,v,h=>h
 | .lst xs,v,h=>by
  obtain⟨a,vs,h1,h2,h3⟩:=h
  exact⟨a,vs,h1,e _ _ h2,cg.mono e xs vs h3⟩
 | .tup xs,v,h=>by
  obtain⟨a,vs,h1,h2,h3⟩:=h
  exact⟨a,vs,h1,o8.same e h2,cg.mono e xs vs h3⟩
 | .ro xs,v,h=>by
  obtain⟨a,vs,h1,h2,h3⟩:=h
  exact⟨a,vs,h1,e.seq h2,cg.mono e xs vs h3⟩
 | .ins C ns xs,v,h=>by
  obtain⟨a,dx,vs,h1,h2,h3,h4⟩:=h
  exact⟨a,dx,vs,h1,e _ _ h2,h3,cg.mono e xs vs h4⟩
 | .ptr a,v,h=>h
theorem cg.mono {K:ag} {F F':Hp} (e:bX F F'):∀(ds:List D) (vs:List V),cg K F ds vs->cg K F' ds vs
 |[],vs,h=>h
 |d::ds,vs,h=>by
  obtain⟨v,r,h1,h2,h3⟩:=h
  exact⟨v,r,h1,sP.mono e d v h2,cg.mono e ds r h3⟩
end
section
variable {K:ag} {F:Hp}
theorem cg.length:∀{ds:List D} {vs:List V},cg K F ds vs->ds.length=vs.length
 |[],_,h=>by cases h;rfl
 |_::ds,_,h=>by obtain⟨v,r,rfl,_,h3⟩:=h;simp[cg.length h3]
theorem cg.nil:cg K F [] []:=rfl
theorem cg.cons {d:D} {ds:List D} {v:V} {vs:List V} (h:sP K F d v) (t:cg K F ds vs):cg K F (d::ds) (v::vs):=⟨v,vs,rfl,h,t⟩
theorem cg.append:∀{ds es:List D} {vs us:List V},cg K F ds vs->cg K F es us->cg K F (ds++es) (vs++us)
 |[],_,_,_,h,h'=>by cases h;exact h'
 |_::ds,es,_,us,h,h'=>by obtain⟨v,r,rfl,h2,h3⟩:=h;exact⟨v,r++us,rfl,h2,cg.append h3 h'⟩
theorem cg.take:∀{ds:List D} {vs:List V} (n:Nat),cg K F ds vs->cg K F (ds.take n) (vs.take n)
 |[],_,n,h=>by cases h;simp[cg]
 |_::ds,_,0,h=>by simp[cg]
 |_::ds,_,n+1,h=>by obtain⟨v,r,rfl,h2,h3⟩:=h;exact⟨v,r.take n,rfl,h2,cg.take n h3⟩
theorem cg.drop:∀{ds:List D} {vs:List V} (n:Nat),cg K F ds vs->cg K F (ds.drop n) (vs.drop n)
 |[],_,n,h=>by cases h;simp[cg]
 |_::ds,_,0,h=>h
 |_::ds,_,n+1,h=>by obtain⟨v,r,rfl,h2,h3⟩:=h;exact cg.drop n h3
theorem cg.get:∀{ds:List D} {vs:List V} {i:Nat} {d:D},cg K F ds vs->ds[i]? =some d->∃v,vs[i]? =some v/\sP K F d v
 |[],_,_,_,_,e=>by simp at e
 |_::ds,_,0,d,h,e=>by
  obtain⟨v,r,rfl,h2,h3⟩:=h
  simp at e;subst e;exact⟨v,rfl,h2⟩
 |_::ds,_,i+1,d,h,e=>by
  obtain⟨v,r,rfl,h2,h3⟩:=h
  obtain⟨u,h4,h5⟩:=cg.get (i:=i) h3 (by simpa using e)
  exact⟨u,by simpa using h4,h5⟩
theorem cg.set {d:D} {v:V} (h:sP K F d v):∀{ds:List D} {vs:List V} (i:Nat),cg K F ds vs->cg K F (ds.set i d) (vs.set i v)
 |[],_,i,r=>by cases r;simp[cg]
 |_::ds,_,0,r=>by obtain⟨u,r,rfl,h2,h3⟩:=r;exact⟨v,r,rfl,h,h3⟩
 |_::ds,_,i+1,r=>by obtain⟨u,r,rfl,h2,h3⟩:=r;exact⟨u,r.set i v,rfl,h2,cg.set h i h3⟩
theorem cg.rep {ds:List D} {vs:List V} (h:cg K F ds vs):∀n:Nat,cg K F (aq n ds).flatten (aq n vs).flatten
 |0=> .nil
 |n+1=>by rw[eI,eI,ck,ck];exact h.append (cg.rep h n)
theorem cg.ints {l:List Int}:∀{vs:List V},cg K F (l.map .int) vs->vs=l.map V.int:=by
 induction l with
 |nil=>intro vs h;exact h
 |cons z l ih=>intro vs h;obtain⟨v,r,rfl,h2,h3⟩:=h;rw[ih h3,show v=V.int z from h2];rfl
end
inductive Ob where
 |lst (ds:List D)
 |ins (C:Addr) (ns:List Str) (ds:List D)
abbrev Os:=List (Addr×Ob)
abbrev cU (O:Os):List Addr:=O.map (·.1)
theorem gw (A B:Os):cU (A++B)=cU A++cU B:=aY
theorem EI (a:Addr×Ob) (B:Os):cU (a::B)=a.1::cU B:=rfl
def Bf (K:ag) (F H:Hp) (p:Addr):Ob->Prop
 | .lst ds=>∃vs,H p=some (.lst vs)/\cg K F ds vs
 | .ins C ns ds=>∃dx vs,H p=some (.ins C dx (ns.zip vs))/\ns.length=vs.length/\cg K F ds vs
theorem Bf.there {K:ag} {F H:Hp} {p:Addr} {ob:Ob} (h:Bf K F H p ob):∃o,H p=some o:=by
 cases ob with
 |lst ds=>obtain⟨vs,h,_⟩:=h;exact⟨_,h⟩
 |ins C ns ds=>obtain⟨dx,vs,h,_⟩:=h;exact⟨_,h⟩
theorem Bf.mono {K:ag} {F F' H H':Hp} {p:Addr} {ob:Ob} (h:Bf K F H p ob) (e:bX F F') (k:∀o,H p=some o->H' p=some o):Bf K F' H' p ob:=by
 cases ob with
 |lst ds=>obtain⟨vs,h,r⟩:=h;exact⟨vs,k _ h,r.mono e⟩
 |ins C ns ds=>obtain⟨dx,vs,h,n,r⟩:=h;exact⟨dx,vs,k _ h,n,r.mono e⟩
structure cB (K:ag) (F:Hp) (O:Os) (H:Hp):Prop where
 nd:(cU O).Nodup
 at_:∀q∈O,F q.1=none/\Bf K F H q.1 q.2
abbrev dk:=List (Option D)
structure jE (K:ag) (F:Hp) (ρ:dk) (O:Os) (σ:St) (H:Hp):Prop where
 sub:bX F H
 env:∀(i:Nat) (d:D),ρ[i]? =some (some d)->∃v,σ[i]? =some (some v)/\sP K F d v
 own:cB K F O H
 len:σ.length=ρ.length
structure dI (A:List Addr) (F H:Hp) (A':List Addr) (F' H':Hp):Prop where
 ff:bX F F'
 keep:∀b o,H b=some o->b∉A->H' b=some o
 back:∀b o,F' b=some o->F b=some o\/H b=none\/b∈A
 there:∀b o,H b=some o->∃o',H' b=some o'
 new:∀p∈A',p∈A\/H p=none
theorem dI.refl {A:List Addr} {F H:Hp}:dI A F H A F H:=⟨bX.refl _,λ_ _ h _=>h,λ_ _ h=> .inl h,λ_ _ h=>⟨_,h⟩,λ_ h=> .inl h⟩
theorem dI.trans {A A1 A2:List Addr} {F F1 F2 H H1 H2:Hp} (g:dI A F H A1 F1 H1) (g':dI A1 F1 H1 A2 F2 H2):dI A F H A2 F2 H2:=by
 have RR:∀b,H1 b=none->H b=none:=λb h=>by
  cases q:H b with
  |none=>rfl
  |some o=>obtain⟨o',z⟩:=g.there b o q;rw[h]at z;cases z
 refine⟨g.ff.trans g'.ff,λb o h hb=>g'.keep b o (g.keep b o h hb) λh1=>?_,λb o h=>?_,λb o h=>?_,λp hp=>?_⟩
 ·rcases g.new b h1 with z|z
  ·exact hb z
  ·rw[h]at z;cases z
 ·rcases g'.back b o h with z|z|z
  ·exact g.back b o z
  ·exact .inr (.inl (RR b z))
  ·rcases g.new b z with z|z
   ·exact .inr (.inr z)
   ·exact .inr (.inl z)
 ·obtain⟨o',z⟩:=g.there b o h;exact g'.there b o' z
 ·rcases g'.new p hp with z|z
  ·exact g.new p z
  ·exact .inr (RR p z)
section
variable {K:ag} {F F' H H':Hp} {ρ:dk} {O O':Os} {σ:St}
theorem jE.grow (s:jE K F ρ O σ H) (e:bX F F') (sub:bX F' H') (own:cB K F' O' H'):jE K F' ρ O' σ H':=
 ⟨sub,λi d h=>let ⟨v,h1,h2⟩:=s.env i d h;⟨v,h1,h2.mono e⟩,own,s.len⟩
theorem cB.kept (o:cB K F O H) (e:bX F F') (hf:∀q∈O,F' q.1=none) (k:∀q∈O,∀ob,H q.1=some ob->H' q.1=some ob):cB K F' O H':=
 ⟨o.nd,λq hq=>⟨hf q hq,(o.at_ q hq).2.mono e (k q hq)⟩⟩
theorem cB.ne (o:cB K F O H) {p:Addr} (hp:H p=none):p∉cU O:=λh=>by
 obtain⟨q,hq,rfl⟩:=ay.mp h
 obtain⟨x,hx⟩:=(o.at_ q hq).2.there
 rw[hp]at hx;cases hx
theorem bX.none_of (e:bX F H) {p:Addr} (hp:H p=none):F p=none:=e.free hp
theorem vk (e:bX F H) {p:Addr} {o:HO} (hp:F p=none):bX F (fC H p o):=λb u h=>by
 rw[cb (cJ h hp)];exact e b u h
theorem Ej {p:Addr} {o:HO} (hp:F p=none):bX F (fC F p o):=vk (bX.refl F) hp
theorem Ip {p:Addr} {o:HO} {ob:Ob} (sub:bX F H) (own:cB K F O H) (hp:H p=none) (W4:Bf K F (fC H p o) p ob):
  dI (cU O) F H (p::cU O) F (fC H p o)/\bX F (fC H p o)/\cB K F ((p,ob)::O) (fC H p o):=by
 have fp:=bX.none_of sub hp
 refine⟨⟨bX.refl _,λb u h _=>?_,λb u h=> .inl h,λb u h=>?_,λq hq=>?_⟩,vk sub fp,⟨?_,λq hq=>?_⟩⟩
 ·rw[cb (cJ h hp)];exact h
 ·exact⟨u,by rw[cb (cJ h hp)];exact h⟩
 ·rcases aB.mp hq with rfl|hq
  ·exact .inr hp
  ·exact .inl hq
 ·exact bc.mpr ⟨own.ne hp,own.nd⟩
 ·rcases aB.mp hq with rfl|hq
  ·exact⟨fp,W4⟩
  ·exact⟨(own.at_ q hq).1,(own.at_ q hq).2.mono (bX.refl _) λx hx=>by rw[cb (cJ hx hp)];exact hx⟩
theorem rp {p:Addr} {ob:Ob} {o:HO} (sub:bX F H) (own:cB K F ((p,ob)::O) H) (ho:H p=some o):
  dI (p::cU O) F H (cU O) (fC F p o) H/\bX F (fC F p o)/\bX (fC F p o) H/\cB K (fC F p o) O H:=by
 have fp:F p=none:=(own.at_ (p,ob) ae).1
 have sf:bX F (fC F p o):=Ej fp
 refine⟨⟨sf,λb u h _=>h,λb u h=>?_,λb u h=>⟨u,h⟩,λq hq=> .inl (ai _ hq)⟩,sf,λb u h=>?_,⟨(bc.mp own.nd).2,λq hq=>?_⟩⟩
 ·by_cases e:b=p
  ·subst e;exact .inr (.inr ae)
  ·rw[cb e]at h;exact .inl h
 ·by_cases e:b=p
  ·subst e;rw[cp]at h;cases h;exact ho
  ·rw[cb e]at h;exact sub b u h
 ·have ne:q.1≠p:=λe=>(bc.mp own.nd).1 (e▸ay.mpr ⟨q,hq,rfl⟩)
  refine⟨by rw[cb ne];exact(own.at_ q (ai _ hq)).1,(own.at_ q (ai _ hq)).2.mono sf λ_ h=>h⟩
theorem zM {p:Addr} {ob ob':Ob} {o:HO} (sub:bX F H) (own:cB K F ((p,ob)::O) H) (W4:Bf K F (fC H p o) p ob'):
  dI (p::cU O) F H (p::cU O) F (fC H p o)/\bX F (fC H p o)/\cB K F ((p,ob')::O) (fC H p o):=by
 have fp:F p=none:=(own.at_ (p,ob) ae).1
 obtain⟨oo,hoo⟩:=(own.at_ (p,ob) ae).2.there
 refine⟨⟨bX.refl _,λb u h hb=>?_,λb u h=> .inl h,λb u h=>?_,λq hq=> .inl hq⟩,vk sub fp,⟨own.nd,λq hq=>?_⟩⟩
 ·rw[cb (λe:b=p=>hb (by rw[e];exact ae))];exact h
 ·by_cases e:b=p
  ·subst e;exact⟨o,cp⟩
  ·exact⟨u,by rw[cb e];exact h⟩
 ·rcases aB.mp hq with rfl|hq
  ·exact⟨fp,W4⟩
  ·have ne:q.1≠p:=λe=>(bc.mp own.nd).1 (e▸ay.mpr ⟨q,hq,rfl⟩)
   exact⟨(own.at_ q (ai _ hq)).1,(own.at_ q (ai _ hq)).2.mono (bX.refl _) λx hx=>by rw[cb ne];exact hx⟩
inductive Up:Os->Addr->Ob->Ob->Os->Prop where
 |here {q:Addr} {ob ob':Ob} {O:Os}:Up ((q,ob)::O) q ob ob' ((q,ob')::O)
 |there {a:Addr×Ob} {q:Addr} {ob ob':Ob} {O O':Os}:Up O q ob ob' O'->Up (a::O) q ob ob' (a::O')
theorem Up.adr_eq {q:Addr} {ob ob':Ob} {O O':Os} (u:Up O q ob ob' O'):cU O'=cU O:=by
 induction u with
 |here=>rfl
 |there _ ih=>show _::cU _=_::cU _;rw[ih]
theorem Up.mem {q:Addr} {ob ob':Ob} {O O':Os} (u:Up O q ob ob' O'):(q,ob)∈O:=by
 induction u with
 |here=>exact ae
 |there _ ih=>exact ai _ ih
theorem Up.of {q:Addr} {ob ob':Ob} {O O':Os} (u:Up O q ob ob' O') (nd:(cU O).Nodup):∀r∈O',r=(q,ob')\/(r∈O/\r.1≠q):=by
 induction u with
 |here=>
  intro r hr
  rcases aB.mp hr with rfl|hr
  ·exact .inl rfl
  ·refine .inr ⟨ai _ hr,λe=>(bc.mp nd).1 ?_⟩
   exact ay.mpr ⟨r,hr,e⟩
 |@there a q ob ob' O O' u ih=>
  intro r hr
  rcases aB.mp hr with rfl|hr
  ·refine .inr ⟨ae,λe=>(bc.mp nd).1 ?_⟩
   exact ay.mpr ⟨_,u.mem,e.symm⟩
  ·rcases ih (bc.mp nd).2 r hr with z|⟨z,z2⟩
   ·exact .inl z
   ·exact .inr ⟨ai _ z,z2⟩
theorem nA {q:Addr} {ob ob':Ob} {o:HO} (sub:bX F H) (own:cB K F O H) (u:Up O q ob ob' O') (W4:Bf K F (fC H q o) q ob'):
  dI (cU O) F H (cU O') F (fC H q o)/\bX F (fC H q o)/\cB K F O' (fC H q o):=by
 have fp:F q=none:=(own.at_ _ u.mem).1
 have hq:q∈cU O:=ay.mpr ⟨_,u.mem,rfl⟩
 refine⟨⟨bX.refl _,λb x h hb=>?_,λb x h=> .inl h,λb x h=>?_,λp hp=> .inl (by rw[<-u.adr_eq];exact hp)⟩,vk sub fp,⟨by rw[u.adr_eq];exact own.nd,λr hr=>?_⟩⟩
 ·rw[cb (λe:b=q=>hb (by rw[e];exact hq))];exact h
 ·by_cases e:b=q
  ·subst e;exact⟨o,cp⟩
  ·exact⟨x,by rw[cb e];exact h⟩
 ·rcases u.of own.nd r hr with rfl|⟨h1,h2⟩
  ·exact⟨fp,W4⟩
  ·exact⟨(own.at_ r h1).1,(own.at_ r h1).2.mono (bX.refl _) λx hx=>by rw[cb h2];exact hx⟩
theorem cB.sub (own:cB K F O H) (h:∀q∈O',q∈O) (nd:(cU O').Nodup):cB K F O' H:=⟨nd,λq hq=>own.at_ q (h q hq)⟩
end
structure dg where
 P:bR
 w:du
 K:ag
 mg:Str->Option Value
 base:Heap
structure eZ (W:dg) (X:Cx) (N:List Str) (sc:Scope) (k:Nat) (top:Bool):Prop where
 prog:X.prog=W.P
 wrld:X.w=W.w
 frag:X.K=W.K
 glob:X.mg=W.mg
 bas:X.base=W.base
 nms:X.N=N
 nd:N.Nodup
 scp:X.env.scope=sc
 calm:X.calm=true
 room:lE k X.A
 all:top=true->(∀x,X.fn x=true)/\Lp (aU X.prog X.w) X.A X.env X.xe
def MD (sc:Scope) (x:Str):Bool:=sc.names.lookup x==some .local||sc.names.lookup x==some .cell||sc.names.lookup x==some .free
def Bh (tp:Bool) (sc:Scope) (x:Str):Bool:=sc.names.lookup x==some .local||(tp&&sc.names.lookup x==some .cell)
def glB (sc:Scope) (x:Str):Bool:=sc.names.lookup x==some .globalImplicit
theorem MD.vis {sc:Scope} {x:Str} (h:MD sc x=true):VB sc x:=by
 simp only[MD,eP,beq_iff_eq]at h
 rcases h with (h|h)|h
 ·exact .inl h
 ·exact .inr (.inl h)
 ·exact .inr (.inr h)
theorem Bh.loc {tp:Bool} {sc:Scope} {x:Str} (h:Bh tp sc x=true):L2.TN sc x/\(tp=true\/sc.names.lookup x=some .local):=by
 simp only[Bh,eP,aH,beq_iff_eq]at h
 rcases h with h|h
 ·exact⟨.inl h,.inr h⟩
 ·exact⟨.inr h.2,.inl h.1⟩
abbrev mr (sc:Scope) (x:Str):Prop:=glB sc x=true
theorem mr.gl {sc:Scope} {x:Str} (h:mr sc x):sc.names.lookup x=some .globalImplicit:=by
 have h':(sc.names.lookup x==some .globalImplicit)=true:=h
 exact beq_iff_eq.mp h'
inductive Og:List Str->dk->Str->D->Prop where
 |here {x:Str} {d:D} {N:List Str} {ρ:dk}:Og (x::N) (some d::ρ) x d
 |there {x y:Str} {d:D} {o:Option D} {N:List Str} {ρ:dk}:Og N ρ x d->Og (y::N) (o::ρ) x d
inductive uv:List Str->dk->Str->D->dk->Prop where
 |here {x:Str} {d:D} {o:Option D} {N:List Str} {ρ:dk}:uv (x::N) (o::ρ) x d (some d::ρ)
 |there {x y:Str} {d:D} {o:Option D} {N:List Str} {ρ ρ':dk}:uv N ρ x d ρ'->uv (y::N) (o::ρ) x d (o::ρ')
inductive Wk:dk->dk->Prop where
 |nil:Wk [] []
 |same {o:Option D} {ρ ρ':dk}:Wk ρ ρ'->Wk (o::ρ) (o::ρ')
 |drop {o:Option D} {ρ ρ':dk}:Wk ρ ρ'->Wk (none::ρ) (o::ρ')
theorem Wk.refl:∀ρ:dk,Wk ρ ρ
 |[]=> .nil
 |_::ρ=> .same (Wk.refl ρ)
theorem Og.ix:∀{N:List Str} {ρ:dk} {x:Str} {d:D},Og N ρ x d->∃i:Nat,N[i]? =some x/\ρ[i]? =some (some d)
 |_,_,_,_,.here=>⟨0,rfl,rfl⟩
 |_,_,_,_,.there h=>let ⟨i,a,b⟩:=Og.ix h;⟨i+1,by simpa using a,by simpa using b⟩
theorem uv.ix:∀{N:List Str} {ρ ρ':dk} {x:Str} {d:D},uv N ρ x d ρ'->∃i:Nat,N[i]? =some x/\ρ'=ρ.set i (some d)/\i<ρ.length
 |_,_,_,_,_,.here=>⟨0,rfl,rfl,by simp⟩
 |_,_,_,_,_,.there h=>let ⟨i,a,b,c⟩:=uv.ix h;⟨i+1,by simpa using a,by rw[b];rfl,by simpa using c⟩
theorem Wk.len:∀{ρ ρ':dk},Wk ρ ρ'->ρ.length=ρ'.length
 |_,_,.nil=>rfl
 |_,_,.same w=>by simp[Wk.len w]
 |_,_,.drop w=>by simp[Wk.len w]
theorem Wk.get:∀{ρ ρ':dk} {i:Nat} {d:D},Wk ρ ρ'->ρ[i]? =some (some d)->ρ'[i]? =some (some d)
 |_,_,_,_,.nil,h=>by simp at h
 |_,_,0,_,.same _,h=>h
 |_,_,i+1,_,.same w,h=>by simpa using Wk.get (i:=i) w (by simpa using h)
 |_,_,0,_,.drop _,h=>by simp at h
 |_,_,i+1,_,.drop w,h=>by simpa using Wk.get (i:=i) w (by simpa using h)
section
variable (X:Cx)
def tW (e:aS):TE:=λσ H Q=>∀(pins:List (Addr×Obj)) (s:ao),bG X pins σ H s->wpAny (aU X.prog X.w) X.A (eval e X.env) (EP X pins σ Q) X.xe s
def VP (e:aS):TT:=λσ H Q=>∀(pins:List (Addr×Obj)) (s:ao),bG X pins σ H s->wpAny (aU X.prog X.w) X.A (isTrue e X.env (eval e X.env)) (TP X pins σ Q) X.xe s
def Wo (es:List aS):TA:=λσ H Q=>∀(pos:Pos) (pins:List (Addr×Obj)) (s:ao),bG X pins σ H s->wpAny (aU X.prog X.w) X.A (spliced (cw pos (ak es X.env))) (AP X pins σ Q) X.xe s
def Sl (st:Stmt):TS:=λE σ H=>∀(pins:List (Addr×Obj)) (s:ao),bG X pins σ H s->wpAny (aU X.prog X.w) X.A (exec st X.env) (SP X pins E) X.xe s
def Pu (m5:List Stmt):TS:=λE σ H=>∀(pins:List (Addr×Obj)) (s:ao),bG X pins σ H s->wpAny (aU X.prog X.w) X.A (execs m5 X.env) (SP X pins E) X.xe s
def Uy (tg:aS):TG:=λv σ H Q=>∀(pins:List (Addr×Obj)) (s:ao) (u:Value),bG X pins σ H s->dQ v u->wpAny (aU X.prog X.w) X.A (lh tg X.env u) (λ_ s'=>∃σ' H',bG X pins σ' H' s'/\Q σ' H') X.xe s
def Ta (tg iter:aS):TI:=λσ H R=>∀(pins:List (Addr×Obj)) (s:ao),bG X pins σ H s->wpAny (aU X.prog X.w) X.A (eval iter X.env) (λv s1=>wpAny (aU X.prog X.w) X.A (pyIter v) (Wm X pins σ tg R) X.xe s1) X.xe s
end
section
variable {X:Cx} {e:aS} {es:List aS} {st:Stmt} {m5:List Stmt} {tg iter:aS}
theorem bV:PE X e (tW X e):=λpins s σ H Q I h=>h pins s I
theorem pI:PT X e (VP X e):=λpins s σ H Q I h=>h pins s I
theorem kZ:PA X es (Wo X es):=λpos pins s σ H Q I h=>h pos pins s I
theorem RW:PS X st (Sl X st):=λpins s σ H E I h=>h pins s I
theorem jR:B8 X m5 (Pu X m5):=λpins s σ H E I h=>h pins s I
theorem IG:PG X tg (Uy X tg):=λpins s σ H v u Q I r h=>h pins s u I r
theorem z8:PI X tg iter (Ta X tg iter):=λpins s σ H R I h=>h pins s I
theorem PE.to {t:TE} (h:PE X e t) {σ:St} {H:Hp} {Q:VK} (q:t σ H Q):tW X e σ H Q:=λpins s I=>h pins s σ H Q I q
theorem PT.to {t:TT} (h:PT X e t) {σ:St} {H:Hp} {Q:Bool->Hp->Prop} (q:t σ H Q):VP X e σ H Q:=λpins s I=>h pins s σ H Q I q
theorem PA.to {t:TA} (h:PA X es t) {σ:St} {H:Hp} {Q:List V->Hp->Prop} (q:t σ H Q):Wo X es σ H Q:=λpos pins s I=>h pos pins s σ H Q I q
theorem PS.to {t:TS} (h:PS X st t) {σ:St} {H:Hp} {E:uw} (q:t E σ H):Sl X st E σ H:=λpins s I=>h pins s σ H E I q
theorem B8.to {t:TS} (h:B8 X m5 t) {σ:St} {H:Hp} {E:uw} (q:t E σ H):Pu X m5 E σ H:=λpins s I=>h pins s σ H E I q
theorem PG.to {t:TG} (h:PG X tg t) {v:V} {σ:St} {H:Hp} {Q:St->Hp->Prop} (q:t v σ H Q):Uy X tg v σ H Q:=λpins s u I r=>h pins s σ H v u Q I r q
theorem PI.to {t:TI} (h:PI X tg iter t) {σ:St} {H:Hp} {R:It->Hp->Prop} (q:t σ H R):Ta X tg iter σ H R:=λpins s I=>h pins s σ H R I q
end
abbrev KD:=D->Os->Prop
abbrev QM:=List D->Os->Prop
abbrev KB:=Bool->Os->Prop
abbrev KR:=dk->Os->Prop
def jo (K:ag) (F H:Hp) (O:Os) (k:KD) (Q:VK):Prop:=
 ∀v d O' F' H',dI (cU O) F H (cU O') F' H'->bX F' H'->cB K F' O' H'->sP K F' d v->k d O'->Q v H'
def NM (K:ag) (F H:Hp) (O:Os) (k:QM) (Q:List V->Hp->Prop):Prop:=
 ∀vs ds O' F' H',dI (cU O) F H (cU O') F' H'->bX F' H'->cB K F' O' H'->cg K F' ds vs->k ds O'->Q vs H'
def Co (K:ag) (F H:Hp) (O:Os) (k:KB) (Q:Bool->Hp->Prop):Prop:=
 ∀b O' F' H',dI (cU O) F H (cU O') F' H'->bX F' H'->cB K F' O' H'->k b O'->Q b H'
def vW (K:ag) (F H:Hp) (O:Os) (k:KR) (Q:St->Hp->Prop):Prop:=
 ∀σ' ρ' O' F' H',dI (cU O) F H (cU O') F' H'->jE K F' ρ' O' σ' H'->k ρ' O'->Q σ' H'
theorem jo.after {K:ag} {F H F1 H1:Hp} {O O1:Os} {k:KD} {Q:VK} (p:jo K F H O k Q) (g:dI (cU O) F H (cU O1) F1 H1):jo K F1 H1 O1 k Q:=
 λv d O' F' H' g'=>p v d O' F' H' (g.trans g')
theorem vW.after {K:ag} {F H F1 H1:Hp} {O O1:Os} {k:KR} {Q:St->Hp->Prop} (p:vW K F H O k Q) (g:dI (cU O) F H (cU O1) F1 H1):vW K F1 H1 O1 k Q:=
 λv d O' F' H' g'=>p v d O' F' H' (g.trans g')
section
variable (X:Cx) (ρ:dk) (O:Os)
structure EV (e:aS) (k:KD):Prop where
 run:∀σ F H Q,jE X.K F ρ O σ H->jo X.K F H O k Q->tW X e σ H Q
structure Dc (es:List aS) (k:QM):Prop where
 run:∀σ F H Q,jE X.K F ρ O σ H->NM X.K F H O k Q->Wo X es σ H Q
structure TV (e:aS) (k:KB):Prop where
 run:∀σ F H Q,jE X.K F ρ O σ H->Co X.K F H O k Q->VP X e σ H Q
structure QY (st:Stmt) (kn:KR) (kr:KD):Prop where
 run:∀σ F H (E:uw),jE X.K F ρ O σ H->vW X.K F H O kn E.nx->jo X.K F H O kr E.rt->Sl X st E σ H
structure SV (m5:List Stmt) (kn:KR) (kr:KD):Prop where
 run:∀σ F H (E:uw),jE X.K F ρ O σ H->vW X.K F H O kn E.nx->jo X.K F H O kr E.rt->Pu X m5 E σ H
abbrev bq (e:aS) (d:D):Prop:=EV X ρ O e λd' O'=>d'=d/\O'=O
abbrev ir (es:List aS) (ds:List D):Prop:=Dc X ρ O es λds' O'=>ds'=ds/\O'=O
abbrev nP (e:aS) (b:Bool):Prop:=TV X ρ O e λb' O'=>b'=b/\O'=O
abbrev cD (e:aS) (ds:List D):Prop:=EV X ρ O e λd O'=>∃p,d= .ptr p/\O'=(p,.lst ds)::O
end
instance {X:Cx} {ρ:dk} {O:Os} {e:aS} {k:KD}:CoeFun (EV X ρ O e k) (λ_=>∀σ F H Q,jE X.K F ρ O σ H->jo X.K F H O k Q->tW X e σ H Q):=⟨λh=>h.run⟩
instance {X:Cx} {ρ:dk} {O:Os} {es:List aS} {k:QM}:CoeFun (Dc X ρ O es k) (λ_=>∀σ F H Q,jE X.K F ρ O σ H->NM X.K F H O k Q->Wo X es σ H Q):=⟨λh=>h.run⟩
instance {X:Cx} {ρ:dk} {O:Os} {e:aS} {k:KB}:CoeFun (TV X ρ O e k) (λ_=>∀σ F H Q,jE X.K F ρ O σ H->Co X.K F H O k Q->VP X e σ H Q):=⟨λh=>h.run⟩
instance {X:Cx} {ρ:dk} {O:Os} {st:Stmt} {kn:KR} {kr:KD}:CoeFun (QY X ρ O st kn kr) (λ_=>∀σ F H (E:uw),jE X.K F ρ O σ H->vW X.K F H O kn E.nx->jo X.K F H O kr E.rt->Sl X st E σ H):=⟨λh=>h.run⟩
instance {X:Cx} {ρ:dk} {O:Os} {m5:List Stmt} {kn:KR} {kr:KD}:CoeFun (SV X ρ O m5 kn kr) (λ_=>∀σ F H (E:uw),jE X.K F ρ O σ H->vW X.K F H O kn E.nx->jo X.K F H O kr E.rt->Pu X m5 E σ H):=⟨λh=>h.run⟩
section
variable {X:Cx} {ρ:dk} {O:Os} {e a b:aS} {es:List aS} {k k':KD} {d:D}
theorem EV.mono (h:EV X ρ O e k) (m:∀d O',k d O'->k' d O'):EV X ρ O e k':= .mk λσ F H Q s p=>h σ F H Q s λv d O' F' H' g su ow r q=>p v d O' F' H' g su ow r (m d O' q)
theorem bq.go (h:bq X ρ O e d) (q:k d O):EV X ρ O e k:=EV.mono h λd' O' ⟨h1,h2⟩=>by rw[h1,h2];exact q
theorem bq.cast {d':D} (h:bq X ρ O e d) (q:d=d'):bq X ρ O e d':=q▸h
theorem TV.mono {k k':KB} (h:TV X ρ O e k) (m:∀d O',k d O'->k' d O'):TV X ρ O e k':= .mk λσ F H Q s p=>h σ F H Q s λb O' F' H' g su ow q=>p b O' F' H' g su ow (m b O' q)
theorem nP.go {k:KB} {b:Bool} (h:nP X ρ O e b) (q:k b O):TV X ρ O e k:=TV.mono h λd' O' ⟨h1,h2⟩=>by rw[h1,h2];exact q
theorem nP.cast {b b':Bool} (h:nP X ρ O e b) (q:b=b'):nP X ρ O e b':=q▸h
theorem SV.mono {m5:List Stmt} {kn kn':KR} (h:SV X ρ O m5 kn k) (mn:∀ρ O',kn ρ O'->kn' ρ O') (m:∀d O',k d O'->k' d O'):SV X ρ O m5 kn' k':= .mk λσ F H E s pn p=>
 h σ F H E s (λσ' ρ' O' F' H' g st q=>pn σ' ρ' O' F' H' g st (mn _ _ q)) λv d O' F' H' g su ow r q=>p v d O' F' H' g su ow r (m d O' q)
theorem EV.frz {O0:Os} (h:EV X ρ O e λd O'=>∃p ds,d= .ptr p/\O'=(p,.lst ds)::O0/\k (.lst ds) O0):EV X ρ O e k:= .mk λσ F H Q s p=>h σ F H Q s λv d O' F' H' g su ow r q=>by
 obtain⟨a,ds,rfl,rfl,q⟩:=q
 obtain⟨_,vs,hv,hr⟩:=ow.at_ _ ae
 obtain⟨g2,sf,gX,gB⟩:=rp su ow hv
 obtain rfl:v=V.ref a:=r
 exact p _ (.lst ds) O0 _ H' (g.trans g2) gX gB ⟨a,vs,rfl,cp,hr.mono sf⟩ q
theorem cD.pev {ds:List D} (h:cD X ρ O e ds):bq X ρ O e (.lst ds):=EV.frz (O0:=O) (EV.mono h λd O' ⟨p,h1,h2⟩=>⟨p,ds,h1,h2,rfl,rfl⟩)
theorem cD.cast {ds ds':List D} (h:cD X ρ O e ds) (q:ds=ds'):cD X ρ O e ds':=q▸h
end
section
variable {X:Cx} {ρ:dk} {O:Os} {e:aS} {es:List aS} {k:QM}
theorem yM (h:k [] O):Dc X ρ O [] k:= .mk λσ F H Q s p=>PA.to DW (p [] [] O F H .refl s.sub s.own .nil h)
theorem qK (h:EV X ρ O e λd O1=>Dc X ρ O1 es λds O2=>k (d::ds) O2) (hs:ak (e::es) X.env=(false,eval e X.env)::ak es X.env:=by rfl):Dc X ρ O (e::es) k:= .mk λσ F H Q s p=>
 PA.to (uQ bV kZ hs) (h σ F H _ s λv d O1 F1 H1 g su ow r q=>q σ F1 H1 _ (s.grow g.ff su ow) λvs ds O2 F2 H2 g2 gX gB r2 q2=>
  p (v::vs) (d::ds) O2 F2 H2 (g.trans g2) gX gB (.cons (r.mono g2.ff) r2) q2)
theorem az:ir X ρ O [] []:=yM ⟨rfl,rfl⟩
theorem aa {d:D} {ds:List D} (h:bq X ρ O e d) (t:ir X ρ O es ds) (hs:ak (e::es) X.env=(false,eval e X.env)::ak es X.env:=by rfl):ir X ρ O (e::es) (d::ds):=
 qK (bq.go h (.mk λσ F H Q s p=>t σ F H Q s λvs ds' O' F' H' g su ow r ⟨q1,q2⟩=>p vs ds' O' F' H' g su ow r ⟨by rw[q1],q2⟩)) hs
theorem Dc.mono {k':QM} (h:Dc X ρ O es k) (m:∀d O',k d O'->k' d O'):Dc X ρ O es k':= .mk λσ F H Q s p=>h σ F H Q s λv d O' F' H' g su ow r q=>p v d O' F' H' g su ow r (m d O' q)
theorem ir.go {ds:List D} (h:ir X ρ O es ds) (q:k ds O):Dc X ρ O es k:=Dc.mono h λd' O' ⟨h1,h2⟩=>by rw[h1,h2];exact q
end
section
variable {W:dg} {X:Cx} {N:List Str} {sc:Scope} {n:Nat} {tp:Bool} {ρ:dk} {O:Os} {pos:Pos}
theorem bI {i:Int} {j}:bq X ρ O (.Constant (.int i) j pos) (.int i):= .mk λσ F H Q s p=>PE.to UH (p _ (.int i) O F H .refl s.sub s.own rfl ⟨rfl,rfl⟩)
theorem Uk {b:Bool} {j}:bq X ρ O (.Constant (.bool b) j pos) (.bl b):= .mk λσ F H Q s p=>PE.to VQ (p _ (.bl b) O F H .refl s.sub s.own rfl ⟨rfl,rfl⟩)
theorem se {j}:bq X ρ O (.Constant .none j pos) .non:= .mk λσ F H Q s p=>PE.to U1 (p _ (.non) O F H .refl s.sub s.own rfl ⟨rfl,rfl⟩)
theorem Q9 {x:Str} {j}:bq X ρ O (.Constant (.str x) j pos) (.str x):= .mk λσ F H Q s p=>PE.to UB (p _ (.str x) O F H .refl s.sub s.own rfl ⟨rfl,rfl⟩)
theorem OE {x:Str} {d:D} (c:eZ W X N sc n tp) (h:Og N ρ x d) (hv:MD sc x=true) (hd:(x==("__debug__":Str))=false) (Ir:(x==("__classdict__":Str))=false):bq X ρ O (.Name x pos) d:= .mk λσ F H Q s p=>by
 obtain⟨i,h1,h2⟩:=h.ix
 obtain⟨v,h3,h4⟩:=s.env i d h2
 exact PE.to (T9 (i:=i) (by rw[c.nms];exact h1) (by rw[c.scp];exact MD.vis hv) hd Ir) ⟨v,h3,p v d O F H .refl s.sub s.own h4 ⟨rfl,rfl⟩⟩
theorem NC {x:Str} {d:D} {v:V} {u:Value} (c:eZ W X N sc n tp) (hg:mr sc x) (hm:W.mg x=some u) (r:dQ v u) (hr:∀F,sP W.K F d v) (hd:(x==("__debug__":Str))=false:=by decide):
  bq X ρ O (.Name x pos) d:= .mk λσ F H Q s p=>
 PE.to (QO (v:=v) (by show X.env.scope.names.lookup x=_;rw[c.scp];exact mr.gl hg) (by rw[c.glob];exact hm) r hd) (p v d O F H .refl s.sub s.own (by rw[c.frag];exact hr F) ⟨rfl,rfl⟩)
end
def wV (K:ag) (r:R2) (O:Os) (d1 d2:D) (k:KD):Prop:=
 ∀F H x y (Q:VK),bX F H->cB K F O H->sP K F d1 x->sP K F d2 y->jo K F H O k Q->r x y H Q
section
variable {X:Cx} {ρ:dk} {O:Os} {a b c:aS} {pos:Pos} {k:KD} {op:wy} {Cw KS:qb} {r r':R2} {i j:Int} {d1 d2 d3 d:D}
theorem Te (ho:ql X (js op) r) (h:EV X ρ O a λd1 O1=>EV X ρ O1 b λd2 O2=>wV X.K r O2 d1 d2 k):EV X ρ O (.BinOp a op b pos) k:= .mk λσ F H Q s p=>
 PE.to (RJ ho bV bV) (h σ F H _ s λv d1 O1 F1 H1 g su ow r1 q=>q σ F1 H1 _ (s.grow g.ff su ow) λu d2 O2 F2 H2 g2 gX gB r2 q2=>
  q2 F2 H2 v u Q gX gB (r1.mono g2.ff) r2 (p.after (g.trans g2)))
theorem lN (ho:ql X (js op) r) (ha:bq X ρ O a d1) (hb:bq X ρ O b d2) (h:wV X.K r O d1 d2 k):EV X ρ O (.BinOp a op b pos) k:=Te ho (ha.go (hb.go h))
theorem OA (ho:ql X (dG Cw) r) (h:EV X ρ O a λd1 O1=>EV X ρ O1 b λd2 O2=>wV X.K r O2 d1 d2 k) (hm:eR Cw b=false):EV X ρ O (.Compare a [Cw] [b] pos) k:= .mk λσ F H Q s p=>
 PE.to (IF ho bV bV hm) (h σ F H _ s λv d1 O1 F1 H1 g su ow r1 q=>q σ F1 H1 _ (s.grow g.ff su ow) λu d2 O2 F2 H2 g2 gX gB r2 q2=>
  q2 F2 H2 v u Q gX gB (r1.mono g2.ff) r2 (p.after (g.trans g2)))
theorem Aw {k:KB} (ho:ql X (dG Cw) r) (h:EV X ρ O a λd1 O1=>EV X ρ O1 b λd2 O2=>wV X.K r O2 d1 d2 λd O3=>∃c,d= .bl c/\k c O3) (hm:eR Cw b=false):TV X ρ O (.Compare a [Cw] [b] pos) k:= .mk λσ F H Q s p=>
 PT.to (Jl ho bV bV hm) (h σ F H _ s λv d1 O1 F1 H1 g su ow r1 q=>q σ F1 H1 _ (s.grow g.ff su ow) λu d2 O2 F2 H2 g2 gX gB r2 q2=>
  q2 F2 H2 v u _ gX gB (r1.mono g2.ff) r2 λz d O3 F3 H3 g3 kX kN r3 ⟨c,ed,q3⟩=>⟨c,by subst ed;exact r3,p c O3 F3 H3 ((g.trans g2).trans g3) kX kN q3⟩)
theorem qO {h:Int->Int->Int} (q:k (.int (h i j)) O) {K:ag}:wV K (G8 λi j=>V.int (h i j)) O (.int i) (.int j) k:=λF H x y Q su ow rx ry p=>
 ⟨i,j,rx,ry,p _ (.int (h i j)) O F H .refl su ow rfl q⟩
theorem yJ {C:Int->Int->Prop} {h:Int->Int->Int} (hC:C i j) (q:k (.int (h i j)) O) {K:ag}:wV K (rI C λi j=>V.int (h i j)) O (.int i) (.int j) k:=λF H x y Q su ow rx ry p=>
 ⟨i,j,rx,ry,hC,p _ (.int (h i j)) O F H .refl su ow rfl q⟩
theorem yH {h:Int->Int->Bool} (q:k (.bl (h i j)) O) {K:ag}:wV K (G8 λi j=>V.bl (h i j)) O (.int i) (.int j) k:=λF H x y Q su ow rx ry p=>
 ⟨i,j,rx,ry,p _ (.bl (h i j)) O F H .refl su ow rfl q⟩
theorem jr (ha:bq X ρ O a (.int i)) (hb:bq X ρ O b (.int j)):bq X ρ O (.BinOp a .Add b pos) (.int (i+j)):=lN Hi ha hb (qO (h:=λi j=>i+j) ⟨rfl,rfl⟩)
theorem vO (ha:bq X ρ O a (.int i)) (hb:bq X ρ O b (.int j)):bq X ρ O (.BinOp a .Sub b pos) (.int (i-j)):=lN Ur ha hb (qO (h:=λi j=>i-j) ⟨rfl,rfl⟩)
theorem lH (ha:bq X ρ O a (.int i)) (hb:bq X ρ O b (.int j)) (hC:QN i j):bq X ρ O (.BinOp a .Mult b pos) (.int (i*j)):=lN Uq ha hb (yJ (h:=λi j=>i*j) hC ⟨rfl,rfl⟩)
theorem rK (ha:bq X ρ O a (.int i)) (hb:bq X ρ O b (.int j)) (hC:VR i j):bq X ρ O (.BinOp a .FloorDiv b pos) (.int (i/j)):=lN Pf ha hb (yJ (h:=λi j=>i/j) hC ⟨rfl,rfl⟩)
theorem PR (ha:bq X ρ O a (.int i)) (hb:bq X ρ O b (.int j)) (hC:0<j):bq X ρ O (.BinOp a .Mod b pos) (.int (i%j)):=lN Tw ha hb (yJ (C:=λ_ j=>0<j) (h:=λi j=>i%j) hC ⟨rfl,rfl⟩)
theorem QQ (ha:bq X ρ O a (.int i)) (hb:bq X ρ O b (.int j)) (hC:0<=j):bq X ρ O (.BinOp a .RShift b pos) (.int (i/2^j.toNat)):=lN Tr ha hb (yJ (C:=λ_ j=>0<=j) (h:=λi j=>i/2^j.toNat) hC ⟨rfl,rfl⟩)
theorem Mx (ha:bq X ρ O a (.int i)) (hb:bq X ρ O b (.int j)):bq X ρ O (.BinOp a .BitAnd b pos) (.int (yW i j)):=lN TX ha hb (qO (h:=λi j=>yW i j) ⟨rfl,rfl⟩)
theorem yK (ha:bq X ρ O a (.int i)):bq X ρ O (.UnaryOp .USub a pos) (.int (-i)):= .mk λσ F H Q s p=>
 PE.to (Wr SG bV) (ha σ F H _ s λv d O1 F1 H1 g su ow r ⟨q1,q2⟩=>by subst q1;subst q2;exact⟨i,r,p _ (.int (-i)) _ F1 H1 g su ow rfl ⟨rfl,rfl⟩⟩)
theorem OC (ha:bq X ρ O a (.int i)) (hb:bq X ρ O b (.int j)):bq X ρ O (.Compare a [.Gt] [b] pos) (.bl (decide (j<i))):=OA Sd (ha.go (hb.go (yH (h:=λi j=>decide (j<i)) ⟨rfl,rfl⟩))) (oO _)
theorem yU {K:ag} (h:k (.bl (decide (i=j))) O):wV K rEq O (.int i) (.int j) k:=λF H x y Q su ow rx ry p=>by
 obtain rfl:x= .int i:=rx
 obtain rfl:y= .int j:=ry
 refine⟨rfl,p _ (.bl (decide (i=j))) O F H .refl su ow ?_ h⟩
 show V.bl _=V.bl _
 by_cases e:i=j<;>simp[e]
theorem Rm {K:ag} (h:k (.bl (!decide (i=j))) O):wV K rNe O (.int i) (.int j) k:=λF H x y Q su ow rx ry p=>by
 obtain rfl:x= .int i:=rx
 obtain rfl:y= .int j:=ry
 refine⟨rfl,p _ (.bl (!decide (i=j))) O F H .refl su ow ?_ h⟩
 show V.bl _=V.bl _
 by_cases e:i=j<;>simp[e]
theorem Ul (ha:bq X ρ O a (.int i)) (hb:bq X ρ O b (.int j)):bq X ρ O (.Compare a [.Eq] [b] pos) (.bl (decide (i=j))):=OA Jj (ha.go (hb.go (yU ⟨rfl,rfl⟩))) (oO _)
theorem Dh (ha:bq X ρ O a (.int i)) (hb:bq X ρ O b (.int j)):nP X ρ O (.Compare a [.Lt] [b] pos) (decide (i<j)):=Aw NB (ha.go (hb.go (yH (h:=λi j=>decide (i<j)) ⟨_,rfl,rfl,rfl⟩))) (oO _)
theorem C6 (ha:bq X ρ O a (.int i)) (hb:bq X ρ O b (.int j)):nP X ρ O (.Compare a [.Gt] [b] pos) (decide (j<i)):=Aw Sd (ha.go (hb.go (yH (h:=λi j=>decide (j<i)) ⟨_,rfl,rfl,rfl⟩))) (oO _)
theorem DT (ha:bq X ρ O a (.int i)) (hb:bq X ρ O b (.int j)):nP X ρ O (.Compare a [.GtE] [b] pos) (decide (j<=i)):=Aw WD (ha.go (hb.go (yH (h:=λi j=>decide (j<=i)) ⟨_,rfl,rfl,rfl⟩))) (oO _)
theorem rA (ha:bq X ρ O a (.int i)) (hb:bq X ρ O b (.int j)):nP X ρ O (.Compare a [.Eq] [b] pos) (decide (i=j)):=Aw Jj (ha.go (hb.go (yU ⟨_,rfl,rfl,rfl⟩))) (oO _)
theorem Ac (ha:bq X ρ O a (.int i)) (hb:bq X ρ O b (.int j)):nP X ρ O (.Compare a [.NotEq] [b] pos) (!decide (i=j)):=Aw V2 (ha.go (hb.go (Rm ⟨_,rfl,rfl,rfl⟩))) (oO _)
def Jk:D->Bool
 | .non=>true
 |_=>false
theorem Jw {K:ag} {F:Hp} {d:D} {v:V} (r:sP K F d v):decide (v= .non)=Jk d:=by
 cases d with
 |non=>cases r;rfl
 |bl _=>cases r;rfl
 |int _=>cases r;rfl
 |str _=>cases r;rfl
 |lst _=>obtain⟨a,vs,rfl,_⟩:=r;rfl
 |tup _=>obtain⟨a,vs,rfl,_⟩:=r;rfl
 |ro _=>obtain⟨a,vs,rfl,_⟩:=r;rfl
 |ins _ _ _=>obtain⟨a,dx,vs,rfl,_⟩:=r;rfl
 |ptr _=>cases r;rfl
theorem MT {j pos'} (ha:bq X ρ O a d):bq X ρ O (.Compare a [.IsNot] [.Constant .none j pos'] pos) (.bl (!Jk d)):= .mk λσ F H Q s p=>
 PE.to (UR (Qk bV)) (ha σ F H _ s λv d' O1 F1 H1 g su ow r ⟨q1,q2⟩=>by subst q1;subst q2;exact p _ _ _ F1 H1 g su ow (by show V.bl _=V.bl _;rw[Jw r]) ⟨rfl,rfl⟩)
theorem lF {j pos'} (ha:bq X ρ O a d):nP X ρ O (.Compare a [.Is] [.Constant .none j pos'] pos) (Jk d):= .mk λσ F H Q s p=>
 PT.to (Um (U6 bV)) (ha σ F H _ s λv d' O1 F1 H1 g su ow r ⟨q1,q2⟩=>by subst q1;subst q2;exact⟨_,rfl,by rw[Jw r];exact p _ _ F1 H1 g su ow ⟨rfl,rfl⟩⟩)
theorem r9 {m:Int} {p1 p2:Int->Int->Bool} (ho:ql X (dG Cw) (G8 λi j=> .bl (p1 i j))) (ho':ql X (dG KS) (G8 λi j=> .bl (p2 i j))) (ha:bq X ρ O a (.int i)) (hb:bq X ρ O b (.int j)) (hc:bq X ρ O c (.int m))
  (hm:Lq [Cw,KS] [b,c]=false:=by with_unfolding_all rfl):bq X ρ O (.Compare a [Cw,KS] [b,c] pos) (.bl (p1 i j&&p2 j m)):= .mk λσ F H Q s p=>
 PE.to (Mw ho ho' bV bV bV hm) (ha σ F H _ s λv d O1 F1 H1 g su ow r ⟨q1,q2⟩=>by
  subst q1;subst q2
  refine hb σ F1 H1 _ (s.grow g.ff su ow) λu d O2 F2 H2 g2 gX gB r2 ⟨q1,q2⟩=>?_
  subst q1;subst q2
  refine⟨i,j,r,r2,_,rfl,?_⟩
  cases e:p1 i j with
  |false=>exact z0 (p _ (.bl false) _ F2 H2 (g.trans g2) gX gB rfl ⟨by rw[e];rfl,rfl⟩)
  |true=>
   refine AD (hc σ F2 H2 _ (s.grow (g.ff.trans g2.ff) gX gB) λw d O3 F3 H3 g3 kX kN r3 ⟨q1,q2⟩=>?_)
   subst q1;subst q2
   exact⟨j,m,r2,r3,p _ (.bl (p2 j m)) _ F3 H3 ((g.trans g2).trans g3) kX kN rfl ⟨by rw[e];rfl,rfl⟩⟩)
theorem K1 {m:Int} {p1 p2:Int->Int->Bool} (ho:ql X (dG Cw) (G8 λi j=> .bl (p1 i j))) (ho':ql X (dG KS) (G8 λi j=> .bl (p2 i j))) (ha:bq X ρ O a (.int i)) (hb:bq X ρ O b (.int j)) (hc:bq X ρ O c (.int m))
  (hm:Lq [Cw,KS] [b,c]=false:=by with_unfolding_all rfl):nP X ρ O (.Compare a [Cw,KS] [b,c] pos) (p1 i j&&p2 j m):= .mk λσ F H Q s p=>
 PT.to (Od ho ho' bV bV bV hm) (ha σ F H _ s λv d O1 F1 H1 g su ow r ⟨q1,q2⟩=>by
  subst q1;subst q2
  refine hb σ F1 H1 _ (s.grow g.ff su ow) λu d O2 F2 H2 g2 gX gB r2 ⟨q1,q2⟩=>?_
  subst q1;subst q2
  refine⟨i,j,r,r2,_,rfl,?_⟩
  cases e:p1 i j with
  |false=>exact z0 ⟨false,rfl,p _ _ F2 H2 (g.trans g2) gX gB ⟨by rw[e];rfl,rfl⟩⟩
  |true=>
   refine AD (hc σ F2 H2 _ (s.grow (g.ff.trans g2.ff) gX gB) λw d O3 F3 H3 g3 kX kN r3 ⟨q1,q2⟩=>?_)
   subst q1;subst q2
   exact⟨j,m,r2,r3,_,rfl,p _ _ F3 H3 ((g.trans g2).trans g3) kX kN ⟨by rw[e];rfl,rfl⟩⟩)
end
section
variable {X:Cx} {ρ:dk} {O:Os} {a b c:aS} {rest:List aS} {pos:Pos} {k:KD} {d:D} {x y:Bool}
structure WV (X:Cx) (ρ:dk) (O:Os) (e:aS) (k:KB):Prop where
 run:∀(whole:Sem Value) σ F H Q,jE X.K F ρ O σ H->Co X.K F H O k Q->∀(pins:List (Addr×Obj)) (s:ao),bG X pins σ H s->wpAny (aU X.prog X.w) X.A (isTrue e X.env whole) (TP X pins σ Q) X.xe s
instance {X:Cx} {ρ:dk} {O:Os} {e:aS} {k:KB}:CoeFun (WV X ρ O e k) (λ_=>∀(whole:Sem Value) σ F H Q,jE X.K F ρ O σ H->Co X.K F H O k Q->∀(pins:List (Addr×Obj)) (s:ao),bG X pins σ H s->wpAny (aU X.prog X.w) X.A (isTrue e X.env whole) (TP X pins σ Q) X.xe s):=⟨λh=>h.run⟩
abbrev FA (X:Cx) (ρ:dk) (O:Os) (e:aS) (x:Bool):Prop:=WV X ρ O e λb' O'=>b'=x/\O'=O
theorem FA.ptv (h:FA X ρ O a x):nP X ρ O a x:= .mk λσ F H Q s p pins s' I=>h _ σ F H Q s p pins s' I
theorem FI (ha:nP X ρ O a x):FA X ρ O (.BoolOp .And [a] pos) x:= .mk λwh σ F H Q s p pins s' I=>QP pI wh pins s' σ H Q I (ha σ F H Q s p)
theorem oK (ha:nP X ρ O a x):FA X ρ O (.BoolOp .Or [a] pos) x:= .mk λwh σ F H Q s p pins s' I=>T1 pI wh pins s' σ H Q I (ha σ F H Q s p)
theorem Jc {e:aS}:PW X e (λσ H Q=>∀(wh:Sem Value) (pins:List (Addr×Obj)) (s:ao),bG X pins σ H s->wpAny (aU X.prog X.w) X.A (isTrue e X.env wh) (TP X pins σ Q) X.xe s):=λwh pins s σ H Q I h=>h wh pins s I
theorem Io (ha:nP X ρ O a x) (hb:x=true->FA X ρ O (.BoolOp .And (b::rest) pos) y):FA X ρ O (.BoolOp .And (a::b::rest) pos) (x&&y):= .mk λwh σ F H Q s p pins s' I=>
 SU pI Jc wh pins s' σ H Q I (ha σ F H _ s λz O1 F1 H1 g su ow ⟨q1,q2⟩=>by
  subst q1;subst q2
  cases z with
  |false=>exact z0 (p _ _ F1 H1 g su ow ⟨rfl,rfl⟩)
  |true=>exact AD λX5 MQ s2 I2=>hb rfl X5 σ F1 H1 Q (s.grow g.ff su ow) (λz2 O2 F2 H2 g2 gX gB q=>p z2 O2 F2 H2 (g.trans g2) gX gB ⟨by rw[q.1];rfl,q.2⟩) MQ s2 I2)
theorem oH (ha:nP X ρ O a x) (hb:x=false->FA X ρ O (.BoolOp .Or (b::rest) pos) y):FA X ρ O (.BoolOp .Or (a::b::rest) pos) (x||y):= .mk λwh σ F H Q s p pins s' I=>
 WB pI Jc wh pins s' σ H Q I (ha σ F H _ s λz O1 F1 H1 g su ow ⟨q1,q2⟩=>by
  subst q1;subst q2
  cases z with
  |true=>exact AD (p _ _ F1 H1 g su ow ⟨rfl,rfl⟩)
  |false=>exact z0 λX5 MQ s2 I2=>hb rfl X5 σ F1 H1 Q (s.grow g.ff su ow) (λz2 O2 F2 H2 g2 gX gB q=>p z2 O2 F2 H2 (g.trans g2) gX gB ⟨by rw[q.1];rfl,q.2⟩) MQ s2 I2)
theorem kO (ha:nP X ρ O a x):nP X ρ O (.UnaryOp .Not a pos) (!x):= .mk λσ F H Q s p=>
 PT.to (SO pI) (ha σ F H _ s λz O1 F1 H1 g su ow ⟨q1,q2⟩=>p _ O1 F1 H1 g su ow ⟨by rw[q1],q2⟩)
theorem fV (ha:bq X ρ O a (.bl x)) (he:∀whole,isTrue a X.env whole=(do let v<-whole;standAt a.pos;holding [v] (truthy v)):=by intro _;rfl):nP X ρ O a x:= .mk λσ F H Q s p=>
 PT.to (Sy bV he) (ha σ F H _ s λv d O1 F1 H1 g su ow r ⟨q1,q2⟩=>by subst q1;subst q2;exact⟨x,r,p _ _ F1 H1 g su ow ⟨rfl,rfl⟩⟩)
theorem CZ {op} (ha:bq X ρ O a d):bq X ρ O (.BoolOp op [a] pos) d:= .mk λσ F H Q s p=>PE.to (Vb bV) (ha σ F H Q s p)
theorem yP (ha:bq X ρ O a (.bl x)) (hb:x=true->bq X ρ O (.BoolOp .And (b::rest) pos) (.bl y)):bq X ρ O (.BoolOp .And (a::b::rest) pos) (.bl (x&&y)):= .mk λσ F H Q s p=>
 PE.to (T3 bV bV) (ha σ F H _ s λv d O1 F1 H1 g su ow r ⟨q1,q2⟩=>by
  subst q1;subst q2
  refine⟨x,r,?_⟩
  cases x with
  |false=>exact z0 (p _ (.bl false) _ F1 H1 g su ow rfl ⟨rfl,rfl⟩)
  |true=>exact AD (hb rfl σ F1 H1 Q (s.grow g.ff su ow) λv2 d2 O2 F2 H2 g2 gX gB r2 q=>p v2 d2 O2 F2 H2 (g.trans g2) gX gB r2 ⟨by rw[q.1];rfl,q.2⟩))
theorem RD {x:Bool} (hc:nP X ρ O c x) (ha:x=true->EV X ρ O a k) (hb:x=false->EV X ρ O b k):EV X ρ O (.IfExp c a b pos) k:= .mk λσ F H Q s p=>
 PE.to (EM pI bV bV) (hc σ F H _ s λz O1 F1 H1 g su ow ⟨q1,q2⟩=>by
  subst q1;subst q2
  cases z with
  |true=>exact AD (ha rfl σ F1 H1 Q (s.grow g.ff su ow) (p.after g))
  |false=>exact z0 (hb rfl σ F1 H1 Q (s.grow g.ff su ow) (p.after g)))
theorem wF {x:Bool} {da db:D} (hc:nP X ρ O c x) (ha:x=true->bq X ρ O a da) (hb:x=false->bq X ρ O b db):bq X ρ O (.IfExp c a b pos) (if x=true then da else db):=
 RD hc (λe=>(ha e).go ⟨by rw[e];rfl,rfl⟩) λe=>(hb e).go ⟨by rw[e];rfl,rfl⟩
end
theorem frame {K:ag} {F H F' H':Hp} {Oa Ob O':Os} (own:cB K F (Oa++Ob) H) (g:dI (cU Oa) F H (cU O') F' H') (Ph:cB K F' O' H'):
  cB K F' (O'++Ob) H'/\dI (cU (Oa++Ob)) F H (cU (O'++Ob)) F' H':=by
 have nd:=own.nd
 have dis:∀p∈cU Oa,p∉cU Ob:=by
  have TM:(cU Oa++cU Ob).Nodup:=by rw[<-gw];exact nd
  exact λp h1 h2=>(fA.mp TM).2.2 p h1 p h2 rfl
 have ndB:(cU Ob).Nodup:=by
  have TM:(cU Oa++cU Ob).Nodup:=by rw[<-gw];exact nd
  exact(fA.mp TM).2.1
 have HK:∀q∈Ob,F q.1=none/\Bf K F H q.1 q.2:=λq hq=>own.at_ q (bB _ hq)
 have UG:∀q∈Ob,q.1∉cU Oa:=λq hq h=>dis _ h (ay.mpr ⟨q,hq,rfl⟩)
 have VT:∀q∈Ob,F' q.1=none:=λq hq=>by
  cases e:F' q.1 with
  |none=>rfl
  |some o=>
   obtain⟨f0,ob⟩:=HK q hq
   obtain⟨x,hx⟩:=ob.there
   rcases g.back _ _ e with z|z|z
   ·rw[f0]at z;cases z
   ·rw[hx]at z;cases z
   ·exact absurd z (UG q hq)
 refine⟨⟨?_,λq hq=>?_⟩,⟨g.ff,λb o h hb=>g.keep b o h λz=>hb (by rw[gw];exact fm _ z),λb o h=>?_,g.there,λp hp=>?_⟩⟩
 ·rw[gw]
  refine fA.mpr ⟨Ph.nd,ndB,λp h1 p' h2 e=>?_⟩
  subst e
  obtain⟨q,hq,rfl⟩:=ay.mp h2
  rcases g.new _ h1 with z|z
  ·exact UG q hq z
  ·obtain⟨x,hx⟩:=(HK q hq).2.there
   rw[hx]at z;cases z
 ·rcases gq.mp hq with hq|hq
  ·exact Ph.at_ q hq
  ·exact⟨VT q hq,(HK q hq).2.mono g.ff λo h=>g.keep _ _ h (UG q hq)⟩
 ·rcases g.back b o h with z|z|z
  ·exact .inl z
  ·exact .inr (.inl z)
  ·exact .inr (.inr (by rw[gw];exact fm _ z))
 ·rw[gw]at hp⊢
  rcases gq.mp hp with hp|hp
  ·rcases g.new p hp with z|z
   ·exact .inl (fm _ z)
   ·exact .inr z
  ·exact .inl (bB _ hp)
theorem cB.left {K:ag} {F H:Hp} {Oa Ob:Os} (own:cB K F (Oa++Ob) H):cB K F Oa H:=by
 have TM:(cU Oa++cU Ob).Nodup:=by rw[<-gw];exact own.nd
 exact own.sub (λq hq=>fm _ hq) (fA.mp TM).1
theorem cB.right {K:ag} {F H:Hp} {Oa Ob:Os} (own:cB K F (Oa++Ob) H):cB K F Ob H:=by
 have TM:(cU Oa++cU Ob).Nodup:=by rw[<-gw];exact own.nd
 exact own.sub (λq hq=>bB _ hq) (fA.mp TM).2.1
theorem cB.rot {K:ag} {F H:Hp} {a:Addr×Ob} {O:Os} (own:cB K F (a::O) H):cB K F (O++[a]) H:=by
 refine own.sub (λq hq=>by simpa[or_comm] using hq) ?_
 have nd:=own.nd
 rw[EI,bc]at nd
 rw[gw,fA]
 exact⟨nd.2,by simp,λx hx y hy e=>nd.1 (by have:y=a.1:=(by simpa using hy);rw[<-this,<-e];exact hx)⟩
theorem cB.rot' {K:ag} {F H:Hp} {a:Addr×Ob} {O:Os} (own:cB K F (O++[a]) H):cB K F (a::O) H:=by
 refine own.sub (λq hq=>by simpa[or_comm] using hq) ?_
 have nd:=own.nd
 rw[gw,fA]at nd
 rw[EI,bc]
 exact⟨λh=>nd.2.2 _ h a.1 (by simp) rfl,nd.1⟩
theorem zS {K:ag} {F H F' H':Hp} {a:Addr×Ob} {O O':Os} (own:cB K F (a::O) H) (g:dI (cU O) F H (cU O') F' H') (Ph:cB K F' O' H'):
  cB K F' (a::O') H'/\dI (a.1::cU O) F H (a.1::cU O') F' H':=by
 obtain⟨h1,h2⟩:=frame (Oa:=O) (Ob:=[a]) own.rot g Ph
 refine⟨h1.rot',⟨h2.ff,λb o h hb=>h2.keep b o h λz=>hb (by simpa[or_comm] using z),λb o h=>?_,h2.there,λp hp=>?_⟩⟩
 ·rcases h2.back b o h with z|z|z
  ·exact .inl z
  ·exact .inr (.inl z)
  ·exact .inr (.inr (by simpa[or_comm] using z))
 ·rcases h2.new p (by simpa[or_comm] using hp)with z|z
  ·exact .inl (by simpa[or_comm] using z)
  ·exact .inr z
theorem jn {K:ag} {F H:Hp} {O:Os} {Q:VK} {ds:List D} {vs:List V} (su:bX F H) (ow:cB K F O H) (r:cg K F ds vs) (p:jo K F H O (λd O'=>∃p,d= .ptr p/\O'=(p,.lst ds)::O) Q):∀a,H a=none->Q (.ref a) (fC H a (.lst vs)):=λa ha=>by
 obtain⟨g,GD,Ga⟩:=Ip (ob:= .lst ds) su ow ha ⟨vs,cp,r⟩
 exact p _ (.ptr a) ((a,.lst ds)::O) F _ g GD Ga rfl ⟨a,rfl,rfl⟩
theorem zK {K:ag} {F H:Hp} {O:Os} {Q:VK} {ds:List D} {vs:List V} (su:bX F H) (ow:cB K F O H) (r:cg K F ds vs) (p:jo K F H O (λd O'=>d= .tup ds/\O'=O) Q):∀a,H a=none->Q (.ref a) (fC H a (.tup vs)):=λa ha=>by
 have fa:=bX.none_of su ha
 have sf:bX F (fC F a (.tup vs)):=Ej fa
 have sh:bX (fC F a (.tup vs)) (fC H a (.tup vs)):=λb o h=>by
  by_cases e:b=a
  ·subst e;rw[cp]at h⊢;exact h
  ·rw[cb e]at h⊢;exact su b o h
 refine p _ (.tup ds) O (fC F a (.tup vs)) _ ⟨sf,λb o h _=>?_,λb o h=>?_,λb o h=>?_,λq hq=> .inl hq⟩ sh (ow.kept sf (λq hq=>?_) λq hq ob h=>?_) ⟨a,vs,rfl,o8.of cp,r.mono sf⟩ ⟨rfl,rfl⟩
 ·rw[cb (cJ h ha)];exact h
 ·by_cases e:b=a
  ·subst e;exact .inr (.inl ha)
  ·rw[cb e]at h;exact .inl h
 ·exact⟨o,by rw[cb (cJ h ha)];exact h⟩
 ·obtain⟨x,hx⟩:=(ow.at_ q hq).2.there
  rw[cb (cJ hx ha)];exact(ow.at_ q hq).1
 ·rw[cb (cJ h ha)];exact h
section
variable {X:Cx} {ρ:dk} {O:Os} {a b:aS} {es:List aS} {pos:Pos} {ds es':List D}
theorem dP (h:ir X ρ O es ds) (hz:ds.length<=sizeLine):cD X ρ O (.List es pos) ds:= .mk λσ F H Q s p=>
 PE.to (Tb kZ) (h σ F H _ s λvs ds' O1 F1 H1 g su ow r ⟨q1,q2⟩=>by
  subst q1;subst q2
  exact⟨by rw[<-r.length];exact hz,jn su ow r (p.after g)⟩)
theorem PQ {x1} (h:ir X ρ O es ds) (hz:ds.length<=sizeLine:=by show _<=sizeLine;rw[wz];decide):bq X ρ O (.Tuple es x1 pos) (.tup ds):= .mk λσ F H Q s p=>
 PE.to (SR kZ) (h σ F H _ s λvs ds' O1 F1 H1 g su ow r ⟨q1,q2⟩=>by
  subst q1;subst q2
  exact⟨by rw[<-r.length];exact hz,zK su ow r (p.after g)⟩)
theorem oV (ha:bq X ρ O a (.lst ds)) (hb:bq X ρ O b (.lst es')) (hz:ds.length+es'.length<=sizeLine):cD X ρ O (.BinOp a .Add b pos) (ds++es'):=lN UI ha hb λF H x y Q su ow rx ry p=>by
 obtain⟨l,vs,rfl,hl,r1⟩:=rx
 obtain⟨m,us,rfl,hm,r2⟩:=ry
 exact⟨l,m,vs,us,rfl,rfl,su _ _ hl,su _ _ hm,by rw[<-r1.length,<-r2.length];exact hz,jn su ow (r1.append r2) p⟩
theorem lL {i:Int} (ha:bq X ρ O a (.lst ds)) (hb:bq X ρ O b (.int i)) (h1: -(2^63)<=i) (h2:i<2^63) (hz:ds.length*i.toNat<=sizeLine):cD X ρ O (.BinOp a .Mult b pos) (aq i.toNat ds).flatten:=lN TB ha hb λF H x y Q su ow rx ry p=>by
 obtain⟨l,vs,rfl,hl,r1⟩:=rx
 exact⟨l,i,vs,rfl,ry,su _ _ hl,h1,h2,by rw[<-r1.length];exact hz,jn su ow (r1.rep _) p⟩
end
theorem EV.own_k {X:Cx} {ρ:dk} {O:Os} {e:aS} {ds:List D} {k:KD} (h:cD X ρ O e ds) (q:∀p,k (.ptr p) ((p,.lst ds)::O)):EV X ρ O e k:=EV.mono h λd O' ⟨p,h1,h2⟩=>by rw[h1,h2];exact q p
theorem cg.atI {K:ag} {F:Hp} {ds:List D} {vs:List V} {i:Int} {d:D} (r:cg K F ds vs) (h:L2.atI ds i=some d):∃v,L2.atI vs i=some v/\sP K F d v:=by
 unfold L2.atI at h⊢
 rw[<-r.length]
 cases e:M0 ds.length i with
 |none=>rw[e]at h;cases h
 |some j=>rw[e]at h;exact r.get h
section
variable {X:Cx} {ρ:dk} {O:Os} {a b:aS} {pos:Pos} {ds:List D} {i:Int} {d:D} {k:KD}
theorem Ie {r:R2} (ho:Xr X r) (h:EV X ρ O a λd1 O1=>EV X ρ O1 b λd2 O2=>wV X.K r O2 d1 d2 k) (hs:lG b):EV X ρ O (.Subscript a b pos) k:= .mk λσ F H Q s p=>
 PE.to (Xb ho bV bV hs) (h σ F H _ s λv d1 O1 F1 H1 g su ow r1 q=>q σ F1 H1 _ (s.grow g.ff su ow) λu d2 O2 F2 H2 g2 gX gB r2 q2=>
  q2 F2 H2 v u Q gX gB (r1.mono g2.ff) r2 (p.after (g.trans g2)))
theorem UO (ha:bq X ρ O a (.lst ds)) (hb:bq X ρ O b (.int i)) (h:atI ds i=some d) (hs:lG b:=by intro _ _;rfl):bq X ρ O (.Subscript a b pos) d:=Ie DA (ha.go (hb.go λF H x y Q su ow rx ry p=>by
 obtain⟨l,vs,rfl,hl,r1⟩:=rx
 obtain⟨v,h1,h2⟩:=r1.atI h
 exact⟨l,vs,i,v,rfl,ry,iL.of (su _ _ hl),h1,p _ _ O F H .refl su ow h2 ⟨rfl,rfl⟩⟩)) hs
theorem zD (ha:bq X ρ O a (.ro ds)) (hb:bq X ρ O b (.int i)) (h:atI ds i=some d) (hs:lG b:=by intro _ _;rfl):bq X ρ O (.Subscript a b pos) d:=Ie DA (ha.go (hb.go λF H x y Q su ow rx ry p=>by
 obtain⟨l,vs,rfl,hl,r1⟩:=rx
 obtain⟨v,h1,h2⟩:=r1.atI h
 exact⟨l,vs,i,v,rfl,ry,su.seq hl,h1,p _ _ O F H .refl su ow h2 ⟨rfl,rfl⟩⟩)) hs
theorem Iw (ha:bq X ρ O a (.tup ds)) (hb:bq X ρ O b (.int i)) (h:atI ds i=some d) (hs:lG b:=by intro _ _;rfl):bq X ρ O (.Subscript a b pos) d:=Ie Uv (ha.go (hb.go λF H x y Q su ow rx ry p=>by
 obtain⟨l,vs,rfl,hl,r1⟩:=rx
 obtain⟨v,h1,h2⟩:=r1.atI h
 exact⟨l,vs,i,v,rfl,ry,o8.same su hl,h1,p _ _ O F H .refl su ow h2 ⟨rfl,rfl⟩⟩)) hs
theorem IT {q:Addr} (ha:bq X ρ O a (.ptr q)) (hq:(q,.lst ds)∈O) (hb:bq X ρ O b (.int i)) (h:atI ds i=some d) (hs:lG b:=by intro _ _;rfl):bq X ρ O (.Subscript a b pos) d:=Ie DA (ha.go (hb.go λF H x y Q su ow rx ry p=>by
 obtain rfl:x=V.ref q:=rx
 obtain⟨_,vs,hl,r1⟩:=ow.at_ _ hq
 obtain⟨v,h1,h2⟩:=r1.atI h
 exact⟨q,vs,i,v,rfl,ry,iL.of hl,h1,p _ _ O F H .refl su ow h2 ⟨rfl,rfl⟩⟩)) hs
def yy (xs:List D) (lo hi:Option Int):List D:=(xs.drop (HT.Dt xs.length 0 lo)).take (HT.Dt xs.length xs.length hi-HT.Dt xs.length 0 lo)
theorem cg.cut {K:ag} {F:Hp} {ds:List D} {vs:List V} (r:cg K F ds vs) (lo hi:Option Int):cg K F (yy ds lo hi) (Kz vs lo hi):=by
 unfold yy Kz
 rw[<-r.length]
 exact(r.drop _).take _
def OV (X:Cx) (ρ:dk) (O:Os) (e:Option aS) (o:Option Int):Prop:=match e with
 |none=>o=none
 |some e=>∃i,o=some i/\bq X ρ O e (.int i)
theorem rS {lo hi:Option aS} {l h:Option Int} {p2:Pos} (ha:bq X ρ O a (.lst ds)) (hl:OV X ρ O lo l) (hh:OV X ρ O hi h):cD X ρ O (.Subscript a (.Slice lo hi none p2) pos) (yy ds l h):= .mk λσ F H Q s p=>by
 have uN:∀{e:Option aS} {o:Option Int},OV X ρ O e o->∃t:TO,PO X e t/\∀σ F H (Q:Option Int->Hp->Prop),jE X.K F ρ O σ H->(∀F' H',dI (cU O) F H (cU O) F' H'->bX F' H'->cB X.K F' O H'->Q o H')->t σ H Q:=by
  intro e o h
  cases e with
  |none=>cases (show o=none from h);exact⟨_,vd,λσ F H Q s q=>q F H .refl s.sub s.own⟩
  |some e=>
   obtain⟨i,rfl,h⟩:=h
   exact⟨_,vh bV,λσ F H Q s q=>h σ F H _ s λv d O1 F1 H1 g su ow r ⟨q1,q2⟩=>by subst q1;subst q2;exact⟨i,r,q F1 H1 g su ow⟩⟩
 obtain⟨t1,pl,h1⟩:=uN hl
 obtain⟨t2,ph,h2⟩:=uN hh
 refine PE.to (zx C3 bV pl ph) (ha σ F H _ s λv d1 O1 F1 H1 g su ow r ⟨q1,q2⟩=>?_)
 subst q1;subst q2
 refine h1 σ F1 H1 _ (s.grow g.ff su ow) λF2 H2 g2 gX gB=>h2 σ F2 H2 _ (s.grow (g.ff.trans g2.ff) gX gB) λF3 H3 g3 kX kN=>?_
 obtain⟨l',vs,rfl,hl',r1⟩:=r
 have Zn:=r1.mono (g2.ff.trans g3.ff)
 exact⟨l',vs,rfl,iL.of (kX _ _ (g3.ff _ _ (g2.ff _ _ hl'))),jn kX kN (Zn.cut l h) (p.after ((g.trans g2).trans g3))⟩
theorem Ek {lo hi:Option aS} {l h:Option Int} {p2:Pos} (ha:bq X ρ O a (.ro ds)) (hl:OV X ρ O lo l) (hh:OV X ρ O hi h):cD X ρ O (.Subscript a (.Slice lo hi none p2) pos) (yy ds l h):= .mk λσ F H Q s p=>by
 have uN:∀{e:Option aS} {o:Option Int},OV X ρ O e o->∃t:TO,PO X e t/\∀σ F H (Q:Option Int->Hp->Prop),jE X.K F ρ O σ H->(∀F' H',dI (cU O) F H (cU O) F' H'->bX F' H'->cB X.K F' O H'->Q o H')->t σ H Q:=by
  intro e o h
  cases e with
  |none=>cases (show o=none from h);exact⟨_,vd,λσ F H Q s q=>q F H .refl s.sub s.own⟩
  |some e=>
   obtain⟨i,rfl,h⟩:=h
   exact⟨_,vh bV,λσ F H Q s q=>h σ F H _ s λv d O1 F1 H1 g su ow r ⟨q1,q2⟩=>by subst q1;subst q2;exact⟨i,r,q F1 H1 g su ow⟩⟩
 obtain⟨t1,pl,h1⟩:=uN hl
 obtain⟨t2,ph,h2⟩:=uN hh
 refine PE.to (zx C3 bV pl ph) (ha σ F H _ s λv d1 O1 F1 H1 g su ow r ⟨q1,q2⟩=>?_)
 subst q1;subst q2
 refine h1 σ F1 H1 _ (s.grow g.ff su ow) λF2 H2 g2 gX gB=>h2 σ F2 H2 _ (s.grow (g.ff.trans g2.ff) gX gB) λF3 H3 g3 kX kN=>?_
 obtain⟨l',vs,rfl,hl',r1⟩:=r
 have Zn:=r1.mono (g2.ff.trans g3.ff)
 exact⟨l',vs,rfl,kX.seq (g3.ff.seq (g2.ff.seq hl')),jn kX kN (Zn.cut l h) (p.after ((g.trans g2).trans g3))⟩
end
section
variable {W:dg} {X:Cx} {N:List Str} {sc:Scope} {n:Nat} {ρ ρ':dk} {O:Os} {e a b:aS} {x:Str} {pos p':Pos} {d:D} {st:Stmt} {m5 rest:List Stmt} {kn:KR} {kr:KD}
theorem jE.wk {K:ag} {F H:Hp} {σ:St} (s:jE K F ρ O σ H) (w:Wk ρ' ρ):jE K F ρ' O σ H:=⟨s.sub,λi d h=>s.env i d (w.get h),s.own,by rw[s.len,w.len]⟩
theorem aL (w:Wk ρ' ρ) (h:kn ρ' O):SV X ρ O [] kn kr:= .mk λσ F H E s pn p=>B8.to PB (pn σ ρ' O F H .refl (s.wk w) h)
theorem ey (h:QY X ρ O st (λρ1 O1=>SV X ρ1 O1 rest kn kr) kr):SV X ρ O (st::rest) kn kr:= .mk λσ F H E s pn p=>
 B8.to (EN RW jR) (h σ F H {E with nx:=Pu X rest E} s (λσ1 ρ1 O1 F1 H1 g s1 q=>q σ1 F1 H1 E s1 (pn.after g) (p.after g)) p)
theorem jE.put {K:ag} {F H:Hp} {σ:St} {i:Nat} {v:V} (s:jE K F ρ O σ H) (r:sP K F d v) (hl:i<ρ.length):jE K F (ρ.set i (some d)) O (σ.set i (some v)) H:=by
 refine⟨s.sub,λj d' h=>?_,s.own,by simp[s.len]⟩
 by_cases e:i=j
 ·subst e
  rw[cy hl]at h
  obtain rfl:d=d':=bo (bo h)
  exact⟨v,by rw[cy (by rw[s.len];exact hl)],r⟩
 ·rw[cf e]at h⊢
  exact s.env j d' h
theorem lM (c:eZ W X N sc n true) (hl:Bh true sc x=true) (hx:∃i:Nat,N[i]? =some x) (h:EV X ρ O e λd O1=>∃ρ',uv N ρ x d ρ'/\kn ρ' O1) (hs:eA e (some (.Name x p')) pos.line X.env=pure false):QY X ρ O (.Assign [.Name x p'] e pos) kn kr:= .mk λσ F H E s pn p pins s' I=>by
 obtain⟨i,hi⟩:=hx
 have hm:x∈N:=bJ hi
 have M4:X.N[i]? =some x:=by rw[c.nms];exact hi
 refine PS.to (Gu (by rw[c.nms];exact c.nd) M4 (by rw[c.scp];exact(Bh.loc hl).1) bV hs (.inl ((c.all rfl).1 x))) (E:=E) (H:=H) (σ:=σ) (h σ F H _ s λv d O1 F1 H1 g su ow r ⟨ρ',hp,q⟩=>?_) pins s' I
 obtain⟨j,hj,rfl,jb⟩:=hp.ix
 obtain rfl:j=i:=gh c.nd hj hi
 exact pn _ _ O1 F1 H1 g ((s.grow g.ff su ow).put r jb) q
theorem uv.has {N:List Str} {ρ ρ':dk} {x:Str} {d:D} (h:uv N ρ x d ρ'):∃i:Nat,N[i]? =some x:=let ⟨i,a,_,_⟩:=h.ix;⟨i,a⟩
theorem bK (c:eZ W X N sc n true) (hl:Bh true sc x=true) (he:bq X ρ O e d) (hp:uv N ρ x d ρ') (h:SV X ρ' O rest kn kr) (hs:eA e (some (.Name x p')) pos.line X.env=pure false:=by rfl):SV X ρ O (.Assign [.Name x p'] e pos::rest) kn kr:=
 ey (lM c hl hp.has (he.go ⟨ρ',hp,h⟩) hs)
theorem uv.any {N:List Str} {ρ ρ':dk} {x:Str} {d:D} (d':D) (hp:uv N ρ x d ρ'):∃ρ'',uv N ρ x d' ρ'':=by
 induction hp with
 |here=>exact⟨_,.here⟩
 |there _ ih=>obtain⟨r,h⟩:=ih;exact⟨_,.there h⟩
theorem Py (h:EV X ρ O e kr):QY X ρ O (.Return (some e) pos) kn kr:= .mk λσ F H E s pn p=>PS.to (Of bV) (h σ F H _ s p)
theorem aT (h:EV X ρ O e kr):SV X ρ O (.Return (some e) pos::rest) kn kr:=ey (Py h)
theorem NZ (h:EV X ρ O e λ_ O1=>kn ρ O1) (hs:eA e none pos.line X.env=pure false:=by rfl):QY X ρ O (.Expr e pos) kn kr:= .mk λσ F H E s pn p=>PS.to (IV bV hs) (h σ F H _ s λv d O1 F1 H1 g su ow r q=>pn σ ρ O1 F1 H1 g (s.grow g.ff su ow) q)
theorem fE (h:EV X ρ O e λ_ O1=>SV X ρ O1 rest kn kr) (hs:eA e none pos.line X.env=pure false:=by rfl):SV X ρ O (.Expr e pos::rest) kn kr:=ey (NZ h hs)
theorem SX {y z:List Stmt} {t:Bool} (hc:nP X ρ O a t) (h1:t=true->SV X ρ O y kn kr) (h2:t=false->SV X ρ O z kn kr):QY X ρ O (.If a y z pos) kn kr:= .mk λσ F H E s pn p=>
 PS.to (RY pI jR jR) (hc σ F H _ s λb O1 F1 H1 g su ow ⟨q1,q2⟩=>by
  subst q1;subst q2
  cases b with
  |true=>exact AD (h1 rfl σ F1 H1 E (s.grow g.ff su ow) (pn.after g) (p.after g))
  |false=>exact z0 (h2 rfl σ F1 H1 E (s.grow g.ff su ow) (pn.after g) (p.after g)))
theorem eQ {y z:List Stmt} {t:Bool} (hc:nP X ρ O a t) (h1:t=true->SV X ρ O y (λρ1 O1=>SV X ρ1 O1 rest kn kr) kr) (h2:t=false->SV X ρ O z (λρ1 O1=>SV X ρ1 O1 rest kn kr) kr):SV X ρ O (.If a y z pos::rest) kn kr:=ey (SX hc h1 h2)
theorem DP {i j:Int} (c:eZ W X N sc n true) (hl:Bh true sc x=true) (hx:Og N ρ x (.int i)) (he:bq X ρ O e (.int j)) (hp:uv N ρ x (.int (i+j)) ρ') (h:SV X ρ' O rest kn kr):SV X ρ O (.AugAssign (.Name x p') .Add e pos::rest) kn kr:=ey<| .mk λσ F H E s pn p pins s' I=>by
 obtain⟨m,hm,hr⟩:=hx.ix
 obtain⟨m',SS,rfl,jb⟩:=hp.ix
 obtain rfl:m'=m:=gh c.nd SS hm
 have hmem:x∈N:=bJ hm
 have M4:X.N[m']? =some x:=by rw[c.nms];exact hm
 obtain⟨v,hv,rv⟩:=s.env m' _ hr
 refine PS.to (Nd (by rw[c.nms];exact c.nd) M4 (by rw[c.scp];exact(Bh.loc hl).1) bV MW (.inl ((c.all rfl).1 x))) (E:=E) (H:=H) (σ:=σ) ⟨v,hv,he σ F H _ s λu d O1 F1 H1 g su ow r ⟨q1,q2⟩=>?_⟩ pins s' I
 subst q1;subst q2
 exact⟨i,j,rv,r,pn _ _ O1 F1 H1 g ((s.grow g.ff su ow).put (d:= .int (i+j)) rfl jb) h⟩
theorem NT {q:Addr} {ds:List D} (hρ:∀i:Nat,ρ'[i]? =ρ[i]? \/(ρ[i]? =some (some (.ptr q))/\ρ'[i]? =some (some (.lst ds)))) (h:SV X ρ' O m5 kn kr):SV X ρ ((q,.lst ds)::O) m5 kn kr:= .mk λσ F H E s pn p=>by
 obtain⟨_,vs,hv,hr⟩:=s.own.at_ _ ae
 obtain⟨g,sf,su,ow⟩:=rp s.sub s.own hv
 have hlen:ρ'.length=ρ.length:=by
  have a:∀i,i<ρ'.length↔i<ρ.length:=λi=>by
   have z1:i<ρ'.length↔(ρ'[i]?).isSome=true:=by simp
   have z2:i<ρ.length↔(ρ[i]?).isSome=true:=by simp
   rw[z1,z2]
   rcases hρ i with z|⟨z1,z2⟩
   ·rw[z]
   ·rw[z1,z2];simp
  have h1:=a ρ.length
  have h2:=a ρ'.length
  lia
 refine h σ (fC F q (.lst vs)) H E ⟨su,λi d e=>?_,ow,by rw[s.len,hlen]⟩ (pn.after g) (p.after g)
 rcases hρ i with z|⟨z1,z2⟩
 ·rw[z]at e
  obtain⟨v,h1,h2⟩:=s.env i d e
  exact⟨v,h1,h2.mono sf⟩
 ·obtain rfl:D.lst ds=d:=by rw[z2]at e;exact bo (bo e)
  obtain⟨v,h1,h2⟩:=s.env i _ z1
  obtain rfl:v=V.ref q:=h2
  exact⟨_,h1,q,vs,rfl,cp,hr.mono sf⟩
theorem SV.own {O':Os} (h:SV X ρ O' m5 kn kr) (hs:∀q∈O',q∈O) (hn:(cU O).Nodup->(cU O').Nodup):SV X ρ O m5 kn kr:= .mk λσ F H E s pn p=>by
 have g:dI (cU O) F H (cU O') F H:=⟨bX.refl _,λ_ _ h _=>h,λ_ _ h=> .inl h,λ_ _ h=>⟨_,h⟩,λp hp=> .inl (by
  obtain⟨q,hq,rfl⟩:=ay.mp hp
  exact ay.mpr ⟨q,hs q hq,rfl⟩)⟩
 exact h σ F H E ⟨s.sub,s.env,s.own.sub hs (hn s.own.nd),s.len⟩ (pn.after g) (p.after g)
end
def lu:aS->List Str
 | .Name x _=>[x]
 | .Tuple es _ _=>es.filterMap λ| .Name x _=>some x|_=>none
 |_=>[]
structure F9 (X:Cx) (tg:aS) (ρ:dk) (d:D) (ρ':dk):Prop where
 run:∀σ F H O x (Q:St->Hp->Prop),jE X.K F ρ O σ H->sP X.K F d x->
 (∀σ',jE X.K F ρ' O σ' H->σ'.length=σ.length->(∀(j:Nat),(∀y,X.N[j]? =some y->y∉lu tg)->σ'[j]? =σ[j]?)->Q σ' H)->Uy X tg x σ H Q
instance {X:Cx} {tg:aS} {ρ:dk} {d:D} {ρ':dk}:CoeFun (F9 X tg ρ d ρ') (λ_=>∀σ F H O x (Q:St->Hp->Prop),jE X.K F ρ O σ H->sP X.K F d x->
 (∀σ',jE X.K F ρ' O σ' H->σ'.length=σ.length->(∀(j:Nat),(∀y,X.N[j]? =some y->y∉lu tg)->σ'[j]? =σ[j]?)->Q σ' H)->Uy X tg x σ H Q):=⟨λh=>h.run⟩
def PL (X:Cx) (tgs:List aS) (ρ:dk) (ds:List D) (ρ':dk):Prop:=∃t:RB,Xh X tgs t/\∀σ F H O xs (Q:St->Hp->Prop),jE X.K F ρ O σ H->cg X.K F ds xs->
 (∀σ',jE X.K F ρ' O σ' H->σ'.length=σ.length->(∀(j:Nat),(∀y,X.N[j]? =some y->y∉(tgs.filterMap λ| .Name x _=>some x|_=>none))->σ'[j]? =σ[j]?)->Q σ' H)->t xs σ H Q
section
variable {W:dg} {X:Cx} {N:List Str} {sc:Scope} {n:Nat} {tp:Bool} {ρ ρ' ρ'':dk} {x:Str} {pos:Pos} {d:D} {ds:List D}
theorem Ma (c:eZ W X N sc n tp) (hx:Bh tp sc x=true) (hp:uv N ρ x d ρ'):∃i,X.N[i]? =some x/\ρ'=ρ.set i (some d)/\i<ρ.length/\PG X (.Name x pos) (AE i):=by
 obtain⟨i,h1,h2,h4⟩:=hp.ix
 have hm:x∈N:=bJ h1
 have M4:X.N[i]? =some x:=by rw[c.nms];exact h1
 refine⟨i,M4,h2,h4,?_⟩
 rcases(Bh.loc hx).2 with e|e
 ·exact Im (by rw[c.nms];exact c.nd) M4 (by rw[c.scp];exact(Bh.loc hx).1) (.inl ((c.all e).1 x))
 ·exact Im (by rw[c.nms];exact c.nd) M4 (by rw[c.scp];exact .inl e) (.inr (by rw[c.scp];exact e))
theorem MZ (c:eZ W X N sc n tp) (hx:Bh tp sc x=true) (hp:uv N ρ x d ρ'):F9 X (.Name x pos) ρ d ρ':= .mk λσ F H O v Q s r q=>by
 obtain⟨i,h1,rfl,hi,h3⟩:=Ma (pos:=pos) c hx hp
 refine PG.to h3 (q _ (s.put r hi) (by simp) λj hy=>?_)
 rw[cf]
 rintro rfl
 exact hy x h1 (by simp[lu])
theorem MG:PL X [] ρ [] ρ:=⟨_,PZ,λσ F H O xs Q s r q=>⟨r,q σ s rfl λ_ _=>rfl⟩⟩
theorem JK {tgs:List aS} (c:eZ W X N sc n tp) (hx:Bh tp sc x=true) (hp:uv N ρ x d ρ') (h:PL X tgs ρ' ds ρ'')
  (hs:(gr (.Name x pos::tgs) X.env).map (·.2)=lh (.Name x pos) X.env::(gr tgs X.env).map (·.2):=by rfl):PL X (.Name x pos::tgs) ρ (d::ds) ρ'':=by
 obtain⟨i,h1,rfl,hi,h3⟩:=Ma (pos:=pos) c hx hp
 obtain⟨t,ht,hq⟩:=h
 refine⟨_,LY h3 ht hs,λσ F H O xs Q s r q=>?_⟩
 obtain⟨v,vr,rfl,rv,rr⟩:=r
 refine⟨v,vr,rfl,hq _ F H O vr _ (s.put rv hi) rr λσ' s' l' k'=>q σ' s' (by rw[l',eL]) λj hy=>?_⟩
 rw[k' j λy hj z=>hy y hj (cR.mpr (let ⟨e,h1,h2⟩:=cR.mp z;⟨e,ai _ h1,h2⟩)),cf]
 rintro rfl
 exact hy x h1 (cR.mpr ⟨_,ae,rfl⟩)
theorem Qj {tgs:List aS} {kk:Nat} (c:eZ W X N sc n tp) (h:PL X tgs ρ ds ρ') (hn:(gr tgs X.env).length=ds.length:=by rfl) (D7:(gr tgs X.env).findIdx? (·.1)=none:=by rfl):F9 X (.Tuple tgs kk pos) ρ (.tup ds) ρ':= .mk λσ F H O v Q s r q=>by
 obtain⟨t,ht,hq⟩:=h
 obtain⟨a,xs,rfl,ON,rr⟩:=r
 refine PG.to (UT c.calm ht hn D7) ⟨a,xs,rfl,o8.same s.sub ON,rr.length.symm,hq σ F H O xs Q s rr λσ' s' l' k'=>q σ' s' l' λj hy=>k' j hy⟩
end
def CT (K:ag) (J:It) (ds:List D) (F1:Hp):Prop:=∀(i:Nat) (F2 H2:Hp) (O2:Os),bX F1 F2->bX F2 H2->cB K F2 O2 H2->
 (∀d,ds[i]? =some d->J.go i H2/\∀x H3,J.yld i H2 x H3->∃F3,dI (cU O2) F2 H2 (cU O2) F3 H3/\bX F3 H3/\cB K F3 O2 H3/\sP K F3 d x)/\(ds.length<=i->J.stop i H2)
structure pF (X:Cx) (ρ:dk) (O:Os) (tg iter:aS) (ds:List D):Prop where
 run:∀σ F H (R:It->Hp->Prop),jE X.K F ρ O σ H->
 (∀J F1 H1,dI (cU O) F H (cU O) F1 H1->bX F1 H1->cB X.K F1 O H1->CT X.K J ds F1->R J H1)->Ta X tg iter σ H R
instance {X:Cx} {ρ:dk} {O:Os} {tg iter:aS} {ds:List D}:CoeFun (pF X ρ O tg iter ds) (λ_=>∀σ F H (R:It->Hp->Prop),jE X.K F ρ O σ H->
 (∀J F1 H1,dI (cU O) F H (cU O) F1 H1->bX F1 H1->cB X.K F1 O H1->CT X.K J ds F1->R J H1)->Ta X tg iter σ H R):=⟨λh=>h.run⟩
section
variable {W:dg} {X:Cx} {N:List Str} {sc:Scope} {n:Nat} {tp:Bool} {ρ:dk} {O:Os} {tg e a b c':aS} {ds:List D} {pos p:Pos}
theorem pF.cast {ds':List D} (h:pF X ρ O tg e ds) (q:ds=ds'):pF X ρ O tg e ds':=q▸h
theorem Kl {K:ag} {l:Addr} {vs:List V} {F1:Hp} (hl:iL K F1 l vs) (r:cg K F1 ds vs):CT K (Itl K l) ds F1:=λi F2 H2 O2 s1 s2 ow=>by
 have Cd:=s1.trans s2
 refine⟨λd hd=>?_,λhi=>⟨vs,Cd.seq hl,by rw[<-r.length];exact hi⟩⟩
 obtain⟨v,hv,rv⟩:=r.get hd
 refine⟨⟨vs,v,Cd.seq hl,hv⟩,λx H3 hy=>?_⟩
 obtain⟨rfl,hy⟩:=hy
 have:=hy vs (Cd.seq hl)
 rw[hv]at this;cases this
 exact⟨F2,.refl,s2,ow,rv.mono s1⟩
theorem Mo {K:ag} {l:Addr} {vs:List V} {F1:Hp} (hl:o8 K F1 l vs) (r:cg K F1 ds vs):CT K (Itt K l) ds F1:=λi F2 H2 O2 s1 s2 ow=>by
 have Cd:=s1.trans s2
 refine⟨λd hd=>?_,λhi=>⟨vs,o8.same Cd hl,by rw[<-r.length];exact hi⟩⟩
 obtain⟨v,hv,rv⟩:=r.get hd
 refine⟨⟨vs,v,o8.same Cd hl,hv⟩,λx H3 hy=>?_⟩
 obtain⟨rfl,hy⟩:=hy
 have:=hy vs (o8.same Cd hl)
 rw[hv]at this;cases this
 exact⟨F2,.refl,s2,ow,rv.mono s1⟩
theorem fe (h:bq X ρ O e (.lst ds)):pF X ρ O tg e ds:= .mk λσ F H R s q=>
 PI.to (Q1 bV) (h σ F H _ s λv d O1 F1 H1 g su ow r ⟨q1,q2⟩=>by
  subst q1;subst q2
  obtain⟨l,vs,rfl,hl,rr⟩:=r
  exact⟨l,rfl,⟨vs,iL.of (su _ _ hl)⟩,q _ F1 H1 g su ow (Kl (iL.of hl) rr)⟩)
theorem oJ (h:bq X ρ O e (.tup ds)):pF X ρ O tg e ds:= .mk λσ F H R s q=>
 PI.to (UQ bV) (h σ F H _ s λv d O1 F1 H1 g su ow r ⟨q1,q2⟩=>by
  subst q1;subst q2
  obtain⟨l,vs,rfl,hl,rr⟩:=r
  exact⟨l,rfl,⟨vs,o8.same su hl⟩,q _ F1 H1 g su ow (Mo hl rr)⟩)
def ia (lo c:Int) (m:Nat):List Int:=(ar m).map λ(i:Nat)=>lo+(i:Int)*c
theorem gf {lo c:Int} {m i:Nat} {d:D} (h:((ia lo c m).map D.int)[i]? =some d):i<m/\d= .int (lo+(i:Int)*c):=by
 unfold ia at h
 rw[aF,aE]at h
 by_cases hi:i<m
 ·rw[dE hi]at h
  exact⟨hi,(bo h).symm⟩
 ·rw[bu (by simpa using hi)]at h;cases h
theorem L5 {lo c:Int} {m:Nat} {a:Int} (h:a∈ia lo c m):∃i:Nat,i<m/\a=lo+(i:Int)*c:=by
 obtain⟨i,hi,rfl⟩:=ay.mp h
 exact⟨i,by simpa using hi,rfl⟩
theorem ez (lo c:Int) (m:Nat):(ia lo c m).length=m:=by simp[ia]
theorem HS {K:ag} {lo:Int} {m:Nat} {F1:Hp}:CT K (VY lo m) ((ia lo 1 m).map D.int) F1:=λi F2 H2 O2 s1 s2 ow=>by
 refine⟨λd hd=>?_,λhi=>show m<=i by simpa[ia] using hi⟩
 obtain⟨h1,rfl⟩:=gf hd
 exact⟨h1,λx H3 ⟨e1,e2⟩=>by subst e1;subst e2;exact⟨F2,.refl,s2,ow,by show V.int _=V.int _;rw[t6]⟩⟩
theorem Tz {K:ag} {lo c:Int} {m:Nat} {F1:Hp}:CT K (YB lo c m) ((ia lo c m).map D.int) F1:=λi F2 H2 O2 s1 s2 ow=>by
 refine⟨λd hd=>?_,λhi=>show m<=i by simpa[ia] using hi⟩
 obtain⟨h1,rfl⟩:=gf hd
 exact⟨h1,λx H3 ⟨e1,e2⟩=>by subst e1;subst e2;exact⟨F2,.refl,s2,ow,rfl⟩⟩
theorem eZ.gl {x:Str} (c:eZ W X N sc n tp) (h:mr sc x):Gl X x:=by show X.env.scope.names.lookup x=_;rw[c.scp];exact mr.gl h
theorem iO {j:Int} (c:eZ W X N sc n tp) (hg:mr sc "range") (hm:W.mg "range"=none) (ha:bq X ρ O a (.int j)) (h1: -(2^62)<=j) (h2:j<2^62) (hs:ak [a] X.env=[(false,eval a X.env)]:=by rfl):
  pF X ρ O tg (.Call (.Name "range" p) [a] [] pos) ((ia 0 1 j.toNat).map D.int):= .mk λσ F H R s q=>
 PI.to (Cf (c.gl hg) (by rw[c.glob];exact hm) kZ hs) (aa ha az hs σ F H _ s λvs ds O1 F1 H1 g su ow r ⟨q1,q2⟩=>by
  subst q1;subst q2
  obtain⟨v,r',rfl,rv,rr⟩:=r
  cases (show r'=[]from rr)
  exact⟨j,by rw[show v=V.int j from rv],h1,h2,q _ F1 H1 g su ow HS⟩)
theorem uj {i j:Int} (c:eZ W X N sc n tp) (hg:mr sc "range") (hm:W.mg "range"=none) (ha:bq X ρ O a (.int i)) (hb:bq X ρ O b (.int j)) (h1: -(2^62)<=i/\i<2^62/\-(2^62)<=j/\j<2^62)
  (hs:ak [a,b] X.env=[(false,eval a X.env),(false,eval b X.env)]:=by rfl) (yg:ak [b] X.env=[(false,eval b X.env)]:=by rfl):
  pF X ρ O tg (.Call (.Name "range" p) [a,b] [] pos) ((ia i 1 (j-i).toNat).map D.int):= .mk λσ F H R s q=>
 PI.to (K7 (c.gl hg) (by rw[c.glob];exact hm) kZ hs yg) (aa ha (aa hb az yg) (by rw[hs,yg]) σ F H _ s λvs ds O1 F1 H1 g su ow r ⟨q1,q2⟩=>by
  subst q1;subst q2
  obtain⟨v,r',rfl,rv,v2,r2,rfl,Jm,rr⟩:=r
  cases (show r2=[]from rr)
  exact⟨i,j,by rw[show v=V.int i from rv,show v2=V.int j from Jm],h1,q _ F1 H1 g su ow HS⟩)
theorem kC {i j m:Int} {l:Nat} (c:eZ W X N sc n tp) (hg:mr sc "range") (hm:W.mg "range"=none) (ha:bq X ρ O a (.int i)) (hb:bq X ρ O b (.int j)) (hc:bq X ρ O c' (.int m)) (h1:NA i j m l)
  (hs:ak [a,b,c'] X.env=(false,eval a X.env)::ak [b,c'] X.env:=by rfl) (yg:ak [b,c'] X.env=(false,eval b X.env)::ak [c'] X.env:=by rfl) (PM:ak [c'] X.env=(false,eval c' X.env)::ak [] X.env:=by rfl) (hpl:(cw pos (ak [b,c'] X.env)).any (·.1)=false:=by rfl):
  pF X ρ O tg (.Call (.Name "range" p) [a,b,c'] [] pos) ((ia i m l).map D.int):= .mk λσ F H R s q=>
 PI.to (Ke (c.gl hg) (by rw[c.glob];exact hm) kZ hs hpl) (aa ha (aa hb (aa hc az PM) yg) hs σ F H _ s λvs ds O1 F1 H1 g su ow r ⟨q1,q2⟩=>by
  subst q1;subst q2
  obtain⟨v,r',rfl,rv,v2,r2,rfl,Jm,v3,r3,rfl,YT,rr⟩:=r
  cases (show r3=[]from rr)
  exact⟨i,j,m,l,by rw[show v=V.int i from rv,show v2=V.int j from Jm,show v3=V.int m from YT],h1,q _ F1 H1 g su ow Tz⟩)
theorem Qe {xs ys:List D} {i:Nat} {d:D} (h:(cS (λx y=>D.tup [x,y]) xs ys)[i]? =some d):∃x y,xs[i]? =some x/\ys[i]? =some y/\d= .tup [x,y]:=by
 rw[List.getElem?_zipWith]at h
 cases h1:xs[i]?with
 |none=>rw[h1]at h;cases h
 |some x=>
  cases h2:ys[i]?with
  |none=>rw[h1,h2]at h;cases h
  |some y=>rw[h1,h2]at h;exact⟨x,y,rfl,rfl,(bo h).symm⟩
theorem QH {xs ys:List D} {elts:List aS} {kk:Nat} {n8:Pos} (c:eZ W X N sc n tp) (hg:mr sc "zip") (hm:W.mg "zip"=none) (ha:bq X ρ O a (.lst xs)) (hb:bq X ρ O b (.lst ys))
  (hs:ak [a,b] X.env=(false,eval a X.env)::ak [b] X.env:=by rfl) (yg:ak [b] X.env=(false,eval b X.env)::ak [] X.env:=by rfl) (hpl:(cw pos (ak [b] X.env)).any (·.1)=false:=by rfl):
  pF X ρ O (.Tuple elts kk n8) (.Call (.Name "zip" p) [a,b] [] pos) (cS (λx y=>D.tup [x,y]) xs ys):= .mk λσ F H R s q=>
 PI.to (Th (c.gl hg) (by rw[c.glob];exact hm) kZ hs hpl) (aa ha (aa hb az yg) hs σ F H _ s λvs ds O1 F1 H1 g su ow r ⟨q1,q2⟩=>by
  subst q1;subst q2
  obtain⟨v,r',rfl,rv,v2,r2,rfl,Jm,rr⟩:=r
  cases (show r2=[]from rr)
  obtain⟨l1,Km,rfl,Lb,Px⟩:=rv
  obtain⟨l2,MV,rfl,Ae,Vx⟩:=Jm
  refine⟨l1,l2,Km,MV,rfl,iL.of (su _ _ Lb),iL.of (su _ _ Ae),q _ F1 H1 g su ow λi F2 H2 O2 s1 s2 gB=>?_⟩
  have Cd:=s1.trans s2
  have q1:=iL.of (K:=X.K) (Cd _ _ Lb)
  have q2:=iL.of (K:=X.K) (Cd _ _ Ae)
  refine⟨λd hd=>?_,λhi=>⟨Km,MV,q1,q2,?_⟩⟩
  ·obtain⟨x,y,hx,hy,rfl⟩:=Qe hd
   obtain⟨v1,XY,Zf⟩:=Px.get hx
   obtain⟨v2,hv2,Jm⟩:=Vx.get hy
   refine⟨⟨Km,MV,v1,v2,q1,q2,XY,hv2⟩,λz H3 hz=>?_⟩
   obtain⟨T,z1,z2,rfl,hT,rfl,e1,e2⟩:=hz
   have e1:=e1 Km q1
   have e2:=e2 MV q2
   rw[XY]at e1;cases e1
   rw[hv2]at e2;cases e2
   have:=zK (Q:=λz H3=>∃F3,dI (cU O2) F2 H2 (cU O2) F3 H3/\bX F3 H3/\cB X.K F3 O2 H3/\sP X.K F3 (.tup [x,y]) z) s2 gB (.cons (Zf.mono s1) (.cons (Jm.mono s1) .nil)) (λv d O' F' H' g' GD Ga r' ⟨e1,e2⟩=>by subst e1;subst e2;exact⟨F',g',GD,Ga,r'⟩) T hT
   exact this
  ·rw[<-Px.length,<-Vx.length]
   rw[gR]at hi
   lia)
end
section
variable {W:dg} {X:Cx} {N:List Str} {sc:Scope} {n:Nat} {ρ ρ':dk} {O:Os} {tg iter a:aS} {body rest:List Stmt} {ds:List D} {pos:Pos} {kn:KR} {kr:KD}
theorem Pm (c:eZ W X N sc n true) (hi:pF X ρ O tg iter ds) (I:Nat->dk->Os->Prop) (h0:I 0 ρ O)
  (step:∀i d ρ1 O1,ds[i]? =some d->I i ρ1 O1->∃ρ2,F9 X tg ρ1 d ρ2/\SV X ρ2 O1 body (I (i+1)) kr)
  (done:∀ρ1 O1,I ds.length ρ1 O1->kn ρ1 O1) (hs:∀x,bL iter X.env x=pure x:=by intro _;rfl):QY X ρ O (.For tg iter body [] pos) kn kr:= .mk λσ F H E s pn p=>by
 refine PS.to (Nc (c.all rfl).2 c.calm z8 IG jR hs) (hi σ F H _ s λJ F1 H1 g su ow ok=>?_)
 refine⟨λi m σ' H'=>m=ds.length-i/\i<=ds.length/\∃ρ1 O1 F2,dI (cU O) F1 H1 (cU O1) F2 H'/\jE X.K F2 ρ1 O1 σ' H'/\I i ρ1 O1,⟨ds.length,by simp,eS _,ρ,O,F1,.refl,s.grow g.ff su ow,h0⟩,?_⟩
 rintro i m σ2 H2 ⟨rfl,Ng,ρ1,O1,F2,g2,s2,hI⟩
 obtain⟨o1,o2⟩:=ok i F2 H2 O1 g2.ff s2.sub s2.own
 by_cases jb:i<ds.length
 ·have hd:ds[i]? =some ds[i]:=aI jb
  obtain⟨P2,hy⟩:=o1 _ hd
  refine .inr ⟨P2,λσ' H'=>∃ρ3 O3 F3,dI (cU O) F1 H1 (cU O3) F3 H'/\jE X.K F3 ρ3 O3 σ' H'/\I (i+1) ρ3 O3,λσ' H' h=>⟨ds.length-(i+1),by omega,rfl,jb,h⟩,λx H3 hx=>?_⟩
  obtain⟨F3,g3,kX,kN,r3⟩:=hy x H3 hx
  obtain⟨ρ2,ht,hb⟩:=step i _ ρ1 O1 hd hI
  refine ht σ2 F3 H3 O1 x _ (s2.grow g3.ff kX kN) r3 λσ3 s3 _ _=>?_
  have IS:=g2.trans g3
  exact hb σ3 F3 H3 _ s3 (λσ5 ρ5 O5 F5 H5 g5 s5 UY=>⟨ρ5,O5,F5,IS.trans g5,s5,UY⟩) ((p.after g).after IS)
 ·have e:i=ds.length:=by omega
  subst e
  exact .inl ⟨o2 (aO _),(pn.after g) σ2 ρ1 O1 F2 H2 g2 s2 (done ρ1 O1 hI)⟩
theorem gy (c:eZ W X N sc n true) (hi:pF X ρ O tg iter ds) (I:Nat->dk->Os->Prop) (h0:I 0 ρ O)
  (step:∀i d ρ1 O1,ds[i]? =some d->I i ρ1 O1->∃ρ2,F9 X tg ρ1 d ρ2/\SV X ρ2 O1 body (I (i+1)) kr)
  (done:∀ρ1 O1,I ds.length ρ1 O1->SV X ρ1 O1 rest kn kr) (hs:∀x,bL iter X.env x=pure x:=by intro _;rfl):SV X ρ O (.For tg iter body [] pos::rest) kn kr:=ey (Pm c hi I h0 step done hs)
theorem KH (c:eZ W X N sc n true) (I:Nat->dk->Os->Prop) (m0:Nat) (h0:I m0 ρ O)
  (turn:∀m ρ1 O1,I m ρ1 O1->TV X ρ1 O1 a λb O2=>if b=true then SV X ρ1 O2 body (λρ3 O3=>∃m',m'<m/\I m' ρ3 O3) kr else kn ρ1 O2):QY X ρ O (.While a body [] pos) kn kr:= .mk λσ F H E s pn p=>by
 refine PS.to (EL (c.all rfl).2 pI jR) ⟨λm σ' H'=>∃ρ1 O1 F2,dI (cU O) F H (cU O1) F2 H'/\jE X.K F2 ρ1 O1 σ' H'/\I m ρ1 O1,⟨m0,ρ,O,F,.refl,s,h0⟩,?_⟩
 rintro m σ2 H2 ⟨ρ1,O1,F2,g2,s2,hI⟩
 refine turn m ρ1 O1 hI σ2 F2 H2 _ s2 λb O3 F3 H3 g3 kX kN q=>?_
 cases b with
 |true=>
  rw[if_pos rfl]at q
  refine AD ⟨λσ' H'=>∃m',m'<m/\∃ρ1 O1 F2,dI (cU O) F H (cU O1) F2 H'/\jE X.K F2 ρ1 O1 σ' H'/\I m' ρ1 O1,λσ' H' h=>h,?_⟩
  have IS:=g2.trans g3
  exact q σ2 F3 H3 _ (s2.grow g3.ff kX kN) (λσ5 ρ5 O5 F5 H5 g5 s5 ⟨m',hm,UY⟩=>⟨m',hm,ρ5,O5,F5,IS.trans g5,s5,UY⟩) (p.after IS)
 |false=>
  rw[if_neg aw]at q
  exact z0 (pn σ2 ρ1 O3 F3 H3 (g2.trans g3) (s2.grow g3.ff kX kN) q)
end
def mT (ρ:dk):List Nat->dk
 |[]=>ρ
 |v::vs=>(mT ρ vs).set v none
theorem BZ (ρ:dk):∀vs:List Nat,(mT ρ vs).length=ρ.length
 |[]=>rfl
 |v::vs=>by unfold mT;rw[eL,BZ ρ vs]
theorem BM {ρ:dk} {i:Nat} {d:D}:∀{vs:List Nat},(mT ρ vs)[i]? =some (some d)->ρ[i]? =some (some d)/\i∉vs
 |[],h=>⟨h,by simp⟩
 |v::vs,h=>by
  unfold mT at h
  by_cases hi:v=i
  ·subst hi
   by_cases hv:v<(mT ρ vs).length
   ·rw[cy hv]at h;cases h
   ·rw[bu (by simpa using hv)]at h;cases h
  ·rw[cf hi]at h
   obtain⟨h1,h2⟩:=BM h
   exact⟨h1,by simp only[aB,not_or];exact⟨λe=>hi e.symm,h2⟩⟩
theorem hJ {σ:St} {i:Nat}:∀{vs:List Nat},i∉vs->(wipe σ vs)[i]? =σ[i]?
 |[],_=>rfl
 |v::vs,h=>by
  unfold wipe
  rw[cf (λe=>h (by simp[e])),hJ λz=>h (by simp[z])]
theorem rN {σ:St} {i:Nat}:∀{vs:List Nat},i∈vs->i<σ.length->(wipe σ vs)[i]? =some none
 |[],h,_=>by simp at h
 |v::vs,h,hl=>by
  unfold wipe
  by_cases e:v=i
  ·subst e;rw[cy (by rw[fg];exact hl)]
  ·rw[cf e,rN (by simpa[iy e] using h) hl]
theorem so {σ σ':St} {vs:List Nat} (hl:σ'.length=σ.length) (h:∀j,j∉vs->σ'[j]? =σ[j]?):wipe σ' vs=wipe σ vs:=by
 refine xp λj=>?_
 by_cases hj:j∈vs
 ·by_cases jb:j<σ.length
  ·rw[rN hj jb,rN hj (by rw[hl];exact jb)]
  ·rw[bu (by rw[fg,hl];lia),bu (by rw[fg];lia)]
 ·rw[hJ hj,hJ hj,h j hj]
theorem jE.wipe {K:ag} {F H:Hp} {ρ:dk} {O:Os} {σ:St} (s:jE K F ρ O σ H) (vs:List Nat):jE K F (mT ρ vs) O (L2.wipe σ vs) H:=by
 refine⟨s.sub,λi d h=>?_,s.own,by rw[fg,BZ,s.len]⟩
 obtain⟨h1,h2⟩:=BM h
 obtain⟨v,h3,h4⟩:=s.env i d h1
 exact⟨v,by rw[hJ h2];exact h3,h4⟩
section
variable {W:dg} {X:Cx} {N:List Str} {sc:Scope} {n:Nat} {tp:Bool} {ρ:dk} {O:Os} {tg iter elt:aS} {scope:Scope} {pos:Pos}
inductive Dr:dk->Nat->dk->Prop where
 |here {o:Option D} {ρ:dk}:Dr (o::ρ) 0 (none::ρ)
 |there {o:Option D} {ρ ρ':dk} {i:Nat}:Dr ρ i ρ'->Dr (o::ρ) (i+1) (o::ρ')
inductive Wp:dk->List Nat->dk->Prop where
 |nil {ρ:dk}:Wp ρ [] ρ
 |cons {ρ ρ1 ρ2:dk} {v:Nat} {vs:List Nat}:Wp ρ vs ρ1->Dr ρ1 v ρ2->Wp ρ (v::vs) ρ2
theorem Dr.eq:∀{ρ ρ':dk} {i:Nat},Dr ρ i ρ'->ρ'=ρ.set i none
 |_,_,_,.here=>rfl
 |_,_,_,.there h=>by rw[h.eq];rfl
theorem Wp.eq:∀{ρ ρ':dk} {vs:List Nat},Wp ρ vs ρ'->ρ'=mT ρ vs
 |_,_,_,.nil=>rfl
 |_,_,_,.cons h1 h2=>by rw[h2.eq,h1.eq];rfl
theorem eZ.blk (c:eZ W X N sc n tp) (s:ao) (H:Hp) (C:Addr) (cl:List (Str×Addr)) (fp:List Addr):eZ W (X.blk s H scope (dJ scope cl C X.env) fp) N (yo scope sc) n false:=
 ⟨c.prog,c.wrld,c.frag,c.glob,c.bas,c.nms,c.nd,by rw[<-c.scp];rfl,c.calm,c.room,λh=>absurd h (by decide)⟩
theorem Pq {α:Type} {l:List α} {enc g:α->D} {own:List (Str×Nat)} (c:eZ W X N sc n tp) (hi:pF X ρ O tg iter (l.map enc)) (ok:km N sc scope own) (rm:∀y∈lu tg,y∈own.map (·.1)) (hz:l.length<=sizeLine)
  (gU:∀a∈l,∃ρ2,∀Y,eZ W Y N (yo scope sc) n false->F9 Y tg (mT ρ (own.map (·.2))) (enc a) ρ2/\bq Y ρ2 O elt (g a)) (hs:∀x,bL iter X.env x=pure x:=by intro _;rfl):
  cD X ρ O (.ListComp elt [⟨tg,iter,[],0⟩] scope pos) (l.map g):= .mk λσ F H Q s p=>by
 have Ii:km X.N X.env.scope scope own:=by rw[c.nms,c.scp];exact ok
 refine PE.to (Sb (own:=own) c.calm (by rw[c.nms];exact c.nd) z8 Ii (g:=λv σ H Q=>∀s0 H0 C cl fp,Uy (X.blk s0 H0 scope (dJ scope cl C X.env) fp) tg v σ H Q) (tt:=HU)
  (te:=λσ H Q=>∀s0 H0 C cl fp,tW (X.blk s0 H0 scope (dJ scope cl C X.env) fp) elt σ H Q)
  (λs0 H0 C cl fp pins s1 σ H v u Q I r h=>h s0 H0 C cl fp pins s1 u I r) (λ_ _ _ _ _=>yF) (λs0 H0 C cl fp pins s1 σ H Q I h=>h s0 H0 C cl fp pins s1 I) hs) ?_
 refine hi σ F H _ s λJ F1 H1 g1 L8 Lw V6 A hA=>?_
 obtain⟨gA,VI,VV⟩:=Ip (ob:= .lst []) L8 Lw hA ⟨[],cp,.nil⟩
 refine⟨λi m H'=>m=l.length-i/\i<=l.length/\∃F2,dI (cU O) F1 H1 (A::cU O) F2 H'/\bX F2 H'/\cB X.K F2 ((A,.lst ((l.map g).take i))::O) H',⟨l.length,by simp,eS _,F1,gA,VI,VV⟩,?_⟩
 rintro i m H2 ⟨rfl,Ng,F2,g2,gX,gB⟩
 obtain⟨o1,o2⟩:=V6 i F2 H2 _ g2.ff gX gB
 by_cases jb:i<l.length
 ·have hd:(l.map enc)[i]? =some (enc l[i]):=by rw[aE,aI jb];rfl
  obtain⟨P2,hy⟩:=o1 _ hd
  refine .inr ⟨P2,λH'=>∃F2,dI (cU O) F1 H1 (A::cU O) F2 H'/\bX F2 H'/\cB X.K F2 ((A,.lst ((l.map g).take (i+1)))::O) H',λH' h=>⟨l.length-(i+1),by omega,rfl,jb,h⟩,λx H3 hx s0 H0 C cl fp=>?_⟩
  obtain⟨F3,g3,kX,kN,r3⟩:=hy x H3 hx
  obtain⟨ρ2,hY⟩:=gU l[i] (fS jb)
  have sw:jE X.K F3 (mT ρ (own.map (·.2))) ((A,.lst ((l.map g).take i))::O) (L2.wipe σ (own.map (·.2))) H3:=(s.grow (F':=F3) ((g1.ff.trans g2.ff).trans g3.ff) kX kN).wipe _
  refine(hY _ (c.blk (scope:=scope) s0 H0 C cl fp)).1 _ F3 H3 _ x _ sw r3 λσ3 s3 l3 k3=>⟨?_,?_⟩
  ·rw[so l3 λj hj=>k3 j λy hN hy=>hj ?_]
   ·exact so (by rw[fg]) λj hj=>hJ hj
   ·obtain⟨q,hq,e⟩:=ay.mp (rm y hy)
    have e2:X.N[q.2]? =some q.1:=Ii.ix q hq
    have e3:q.2=j:=gh (by rw[c.nms];exact c.nd) (e▸e2) hN
    exact ay.mpr ⟨q,hq,e3⟩
  ·unfold HU
   dsimp only
   rw[if_pos rfl]
   intro s0' X7 C' Z0 ZF
   refine(hY _ (c.blk (scope:=scope) s0' X7 C' Z0 ZF)).2 σ3 F3 H3 _ ⟨s3.sub,s3.env,(show cB X.K F3 ([(A,.lst ((l.map g).take i))]++O) H3 from s3.own).right,s3.len⟩ λv d O4 F4 H4 g4 D8 BO r4 ⟨q1,q2⟩=>?_
   subst q1;subst q2
   obtain⟨Bx,g5⟩:=zS (a:=(A,Ob.lst ((l.map g).take i))) s3.own g4 BO
   obtain⟨_,acc,Oq,Eg⟩:=Bx.at_ _ ae
   have rl:=Eg.length
   rw[aA,ah,rY Ng]at rl
   refine⟨acc,Oq,by omega,?_⟩
   have ra:cg X.K F4 ((l.map g).take (i+1)) (acc++[v]):=by
    rw[gD (by rw[ah];exact jb),k8]
    exact Eg.append (.cons r4 .nil)
   obtain⟨g6,Wb,WR⟩:=zM (ob':= .lst ((l.map g).take (i+1))) (o:= .lst (acc++[v])) D8 Bx ⟨_,cp,ra⟩
   exact⟨F4,((g2.trans g3).trans g5).trans g6,Wb,WR⟩
 ·have e:i=l.length:=by omega
  subst e
  refine .inl ⟨o2 (by rw[ah];exact aO _),?_⟩
  rw[cz (by rw[ah];exact aO _)]at gB
  exact p _ (.ptr A) ((A,.lst (l.map g))::O) F2 H2 (g1.trans g2) gX gB rfl ⟨A,rfl,rfl⟩
theorem fP {α:Type} {l:List α} {enc g:α->D} (ys:List Str) (vs:List Nat) {ρw:dk} (c:eZ W X N sc n tp) (hi:pF X ρ O tg iter (l.map enc)) (ok:Eo N sc scope (ys.zip vs)=true) (rm:∀y∈lu tg,y∈(ys.zip vs).map (·.1)) (hz:l.length<=sizeLine) (hw:Wp ρ vs ρw)
  (gU:∀a∈l,∃ρ2,∀Y,eZ W Y N (yo scope sc) n false->F9 Y tg ρw (enc a) ρ2/\bq Y ρ2 O elt (g a)) (hs:∀x,bL iter X.env x=pure x:=by intro _;rfl) (hl:(ys.zip vs).map (·.2)=vs:=by rfl):
  cD X ρ O (.ListComp elt [⟨tg,iter,[],0⟩] scope pos) (l.map g):=Pq c hi (ka ok) rm hz (by rw[hl,<-hw.eq];exact gU) hs
theorem iN {α β:Type} {l1:List α} {l2:List β} {e1:α->D} {e2:β->D} {a b:aS} {p:Pos} {elts:List aS} {kk:Nat} {n8:Pos} (c:eZ W X N sc n tp) (hg:mr sc "zip") (hm:W.mg "zip"=none) (ha:bq X ρ O a (.lst (l1.map e1))) (hb:bq X ρ O b (.lst (l2.map e2)))
  (hs:ak [a,b] X.env=(false,eval a X.env)::ak [b] X.env:=by rfl) (yg:ak [b] X.env=(false,eval b X.env)::ak [] X.env:=by rfl) (hpl:(cw pos (ak [b] X.env)).any (·.1)=false:=by rfl):
  pF X ρ O (.Tuple elts kk n8) (.Call (.Name "zip" p) [a,b] [] pos) ((l1.zip l2).map λq=>D.tup [e1 q.1,e2 q.2]):=(QH c hg hm ha hb hs yg hpl).cast (by
 rw[pj,List.zip,jf])
end
abbrev tw:=List D->Os->KD->Prop
def x8 (K:ag) (C:tw):Sp:=λvs H Q _=>∃F ds O k,bX F H/\cg K F ds vs/\cB K F O H/\C ds O k/\jo K F H O k Q
def dS (R:List D->D->Prop):tw:=λds O k=>O=[]/\∃d,R ds d/\k d []
def cv (R:List D->List D->Prop):tw:=λds O k=>O=[]/\∃xs,R ds xs/\∀q,k (.ptr q) [(q,.lst xs)]
structure ax (W:dg) (x:Str) (m:Nat) (C:tw):Prop where
 ex:∃f fd ps,mv W.P W.w W.K W.mg W.base K5 m f fd ps (x8 W.K C)/\W.mg x=some (.ref f)/\cT W.K (.ref f)=true/\iC W.K fd ps []
section
variable {W:dg} {X:Cx} {N:List Str} {sc:Scope} {n m:Nat} {tp:Bool} {ρ:dk} {O:Os} {x:Str} {e:aS} {es:List aS} {p pos:Pos} {k:KD} {C:tw} {ds:List D}
theorem ax.at_ (c:eZ W X N sc n tp) (hc:ax W x m C):∃f fd ps,mv X.prog X.w X.K X.mg X.base K5 m f fd ps (x8 X.K C)/\X.mg x=some (.ref f)/\cT X.K (.ref f)=true/\iC X.K fd ps []:=by
 rw[c.prog,c.wrld,c.frag,c.glob,c.bas];exact hc.ex
theorem jo.frame {K:ag} {F H:Hp} {Oa Ob:Os} {Q:VK} (own:cB K F (Oa++Ob) H) (p:jo K F H (Oa++Ob) k Q):jo K F H Oa (λd O'=>k d (O'++Ob)) Q:=λv d O' F' H' g su ow r q=>by
 obtain⟨h1,h2⟩:=G.frame own g ow
 exact p v d (O'++Ob) F' H' h2 su h1 r q
theorem jU (c:eZ W X N sc n tp) (hc:ax W x m C) (hm:m<=n) (hg:mr sc x) (h:Dc X ρ O (e::es) λds O1=>∃Oa Ob,O1=Oa++Ob/\C ds Oa λd O'=>k d (O'++Ob))
  (og:(x==("__debug__":Str))=false:=by decide) (he:ak (e::es) X.env=(false,eval e X.env)::ak es X.env:=by rfl) (hpl:(cw pos (ak es X.env)).any (·.1)=false:=by rfl):EV X ρ O (.Call (.Name x p) (e::es) [] pos) k:= .mk λσ F H Q s pp=>by
 obtain⟨f,fd,ps,F1,h1,h2,h3⟩:=hc.at_ c
 refine PE.to (yI F1 (c.room.mono hm) (c.gl hg) h1 h2 h3 .nil z6 (E:=E0) kZ og he hpl) (h σ F H _ s λvs ds O1 F1 H1 g su ow r q=>?_)
 obtain⟨Oa,Ob,rfl,q⟩:=q
 show x8 X.K C (vs++[]) H1 Q E0
 rw[br]
 exact⟨F1,ds,Oa,_,su,r,ow.left,q,jo.frame ow (pp.after g)⟩
theorem Mb (c:eZ W X N sc n tp) (hc:ax W x m C) (hm:m<=n) (hg:mr sc x) (h:C [] [] λd O'=>k d (O'++O)) (og:(x==("__debug__":Str))=false:=by decide):EV X ρ O (.Call (.Name x p) [] [] pos) k:= .mk λσ F H Q s pp=>by
 obtain⟨f,fd,ps,F1,h1,h2,h3⟩:=hc.at_ c
 exact PE.to (NI F1 (c.room.mono hm) (c.gl hg) h1 h2 h3 .nil z6 (E:=E0) og) (show x8 X.K C [] H Q E0 from ⟨F,[],[],_,s.sub,.nil,(show cB X.K F ([]++O) H from s.own).left,h,jo.frame (Oa:=[]) s.own pp⟩)
theorem cI {R:List D->D->Prop} {d:D} (c:eZ W X N sc n tp) (hc:ax W x m (dS R)) (hm:m<=n) (hg:mr sc x) (ha:ir X ρ O (e::es) ds) (hR:R ds d)
  (og:(x==("__debug__":Str))=false:=by decide) (he:ak (e::es) X.env=(false,eval e X.env)::ak es X.env:=by rfl) (hpl:(cw pos (ak es X.env)).any (·.1)=false:=by rfl):bq X ρ O (.Call (.Name x p) (e::es) [] pos) d:=
 jU c hc hm hg (ha.go ⟨[],O,rfl,rfl,d,hR,rfl,rfl⟩) og he hpl
theorem aV {R:List D->List D->Prop} {xs:List D} (c:eZ W X N sc n tp) (hc:ax W x m (cv R)) (hm:m<=n) (hg:mr sc x) (ha:ir X ρ O (e::es) ds) (hR:R ds xs)
  (og:(x==("__debug__":Str))=false:=by decide) (he:ak (e::es) X.env=(false,eval e X.env)::ak es X.env:=by rfl) (hpl:(cw pos (ak es X.env)).any (·.1)=false:=by rfl):cD X ρ O (.Call (.Name x p) (e::es) [] pos) xs:=
 jU c hc hm hg (ha.go ⟨[],O,rfl,rfl,xs,hR,λq=>⟨q,rfl,rfl⟩⟩) og he hpl
end
structure dC (W:dg) (x qual:Str) (st:Stmt) (ps:List Str):Prop where
 ex:∃f fd,OO W.K x qual st f fd/\W.mg x=some (.ref f)/\iC W.K fd ps []
theorem sj {N:List Str} {vs:List V} {ds:List D} {K:ag} {F:Hp} (r:cg K F ds vs) {i:Nat} {d:D} (h:(ds.map some++aq (N.length-ds.length) none)[i]? =some (some d)):∃v,(L2.jm N vs)[i]? =some (some v)/\sP K F d v:=by
 have hi:i<ds.length:=by
  by_cases hi:i<ds.length
  ·exact hi
  ·rw[cM (by simpa using hi),jN]at h
   split at h<;>cases h
 rw[dD (by simpa using hi),aE]at h
 cases e:ds[i]?with
 |none=>rw[e]at h;cases h
 |some d'=>
  rw[e]at h
  obtain rfl:d'=d:=bo (bo h)
  obtain⟨v,h1,h2⟩:=r.get e
  refine⟨v,?_,h2⟩
  unfold L2.jm
  rw[dD (by rw[ah,<-r.length];exact hi),aE,h1]
  rfl
def pO (N:List Str) (ds:List D):dk:=ds.map some++aq (N.length-ds.length) none
theorem aQ {W:dg} {x qual:Str} {st:Stmt} {ps N:List Str} {m:Nat} {C:tw} (T:dC W x qual st ps) (S:jS N ps (bQ st)) (len:∀ds O k,C ds O k->ds.length=ps.length)
  (body:∀X,eZ W X N (bQ st) m true->∀ds O k,C ds O k->SV X (pO N ds) O (fo st) (λ_ O'=>k .non O') k):ax W x (m+1) C:=by
 obtain⟨f,fd,F,hm,hb⟩:=T.ex
 refine⟨f,fd,ps,F.ok S (λvs H Q E h=>?_) (λmw A outer s H vs Q E hr h=>?_),hm,F.kp,hb⟩
 ·obtain⟨F,ds,O,k,_,r,_,hC,_⟩:=h
  rw[<-r.length];exact len ds O k hC
 ·obtain⟨F0,ds,O,k,su,r,ow,hC,p⟩:=h
  refine⟨_,jR,?_⟩
  have hl:=len ds O k hC
  have hpl:ps.length<=N.length:=by have:=congrArg h9 S.pre;rw[aA]at this;lia
  have c:eZ W (oF K5 W.P W.w W.K W.mg W.base N qual (bQ st) f mw A outer s H E).nox N (bQ st) m true:=
   ⟨rfl,rfl,rfl,rfl,rfl,rfl,S.nd,rfl,rfl,hr,λ_=>⟨λ_=>rfl,wB⟩⟩
  refine body _ c ds O k hC (L2.jm N vs) F0 H _ ⟨su,λi d h=>sj r h,ow,?_⟩ (λσ' ρ' O' F' H' g s' q=>p .non .non O' F' H' g s'.sub s'.own rfl q) p
  unfold L2.jm pO
  rw[aj,aj,ah,ah,aP,aP,r.length]
inductive Fl:List Str->List D->Str->D->Prop where
 |here {f:Str} {d:D} {ns:List Str} {xs:List D}:Fl (f::ns) (d::xs) f d
 |there {f g:Str} {d y:D} {ns:List Str} {xs:List D}:Fl ns xs f d->Fl (g::ns) (y::xs) f d
theorem Fl.look {K:ag} {F:Hp}:∀{ns:List Str} {xs:List D} {f:Str} {d:D} {vs:List V},Fl ns xs f d->ns.Nodup->cg K F xs vs->f∈ns/\∃v,(ns.zip vs).lookup f=some v/\sP K F d v
 |_,_,f,_,_,.here,_,r=>by
  obtain⟨v,vr,rfl,rv,_⟩:=r
  exact⟨ae,v,by simp[ee],rv⟩
 |g::ns,_,f,_,_,.there h,nd,r=>by
  obtain⟨v,vr,rfl,rv,rr⟩:=r
  obtain⟨hm,u,h1,h2⟩:=Fl.look h (bc.mp nd).2 rr
  refine⟨ai _ hm,u,?_,h2⟩
  have ne:(f==g)=false:=beq_eq_false_iff_ne.mpr λe=>(bc.mp nd).1 (e▸hm)
  rw[ig,ee,ne]
  exact h1
section
variable {W:dg} {X:Cx} {N:List Str} {sc:Scope} {n m:Nat} {tp:Bool} {ρ:dk} {O:Os} {f:Str} {e:aS} {pos:Pos} {k:KD} {C:Addr} {ns:List Str} {xs:List D} {d:D}
theorem oQ (c:eZ W X N sc n tp) (hC:iS W.K C) (hN:aM W.K C f) (nd:ns.Nodup) (he:bq X ρ O e (.ins C ns xs)) (hl:Fl ns xs f d) (hb:fu e f X.env (eval e X.env)=eval e X.env:=by rfl):bq X ρ O (.Attribute e f pos) d:= .mk λσ F H Q s p=>
 PE.to (Nr bV hb) (he σ F H _ s λv d1 O1 F1 H1 g su ow r ⟨q1,q2⟩=>by
  subst q1;subst q2
  obtain⟨a,dx,vs,rfl,ha,hlen,rr⟩:=r
  obtain⟨_,u,h1,h2⟩:=hl.look nd rr
  exact⟨a,C,dx,_,u,rfl,su _ _ ha,by rw[c.frag];exact hC,by rw[c.frag];exact hN,h1,p _ _ _ F1 H1 g su ow h2 ⟨rfl,rfl⟩⟩)
theorem md {q:Addr} (c:eZ W X N sc n tp) (hC:iS W.K C) (hN:aM W.K C f) (nd:ns.Nodup) (he:bq X ρ O e (.ptr q)) (hq:(q,.ins C ns xs)∈O) (hl:Fl ns xs f d) (hb:fu e f X.env (eval e X.env)=eval e X.env:=by rfl):bq X ρ O (.Attribute e f pos) d:= .mk λσ F H Q s p=>
 PE.to (Nr bV hb) (he σ F H _ s λv d1 O1 F1 H1 g su ow r ⟨q1,q2⟩=>by
  subst q1;subst q2
  obtain rfl:v=V.ref q:=r
  obtain⟨_,dx,vs,ha,hlen,rr⟩:=ow.at_ _ hq
  obtain⟨_,u,h1,h2⟩:=hl.look nd rr
  exact⟨q,C,dx,_,u,rfl,ha,by rw[c.frag];exact hC,by rw[c.frag];exact hN,h1,p _ _ _ F1 H1 g su ow h2 ⟨rfl,rfl⟩⟩)
end
def cF (i:Nat):Stmt:=PySem.Challenge.pw_greyreel_s01_answers.main.body.getD i (.Pass ⟨0,0,0,0⟩)
abbrev pR:Stmt:=cF 3
abbrev tY:Stmt:=cF 4
abbrev Aq:Stmt:=cF 5
abbrev pG:Stmt:=cF 6
abbrev tF:Stmt:=cF 7
abbrev EE:Stmt:=cF 8
abbrev zW:Stmt:=cF 9
abbrev nG:Stmt:=fU (cF 10) 0
abbrev kU:Stmt:=fU (cF 10) 1
abbrev jy:Stmt:=fU (cF 10) 2
abbrev jA:Stmt:=fU (cF 10) 3
abbrev lY:Stmt:=fU (cF 10) 4
abbrev rD:Stmt:=fU (cF 13) 0
abbrev B9:Stmt:=cF 14
abbrev EK:Stmt:=cF 15
abbrev FT:Stmt:=cF 16
abbrev R4:Stmt:=cF 17
abbrev Sm:Stmt:=cF 18
abbrev nD:Stmt:=cF 19
abbrev vQ:Stmt:=cF 20
abbrev vj:Stmt:=cF 21
abbrev FL:Stmt:=cF 25
abbrev Jb:Stmt:=cF 26
abbrev Cy:Stmt:=cF 27
abbrev rT:Stmt:=cF 28
abbrev tm:Stmt:=cF 29
abbrev qH:Stmt:=cF 30
abbrev pQ:Stmt:=cF 31
abbrev nN:Stmt:=cF 32
abbrev tU:Stmt:=cF 33
abbrev uX:Stmt:=fU (cF 40) 0
abbrev ER:Stmt:=cF 41
abbrev mV:Stmt:=cF 42
abbrev rq:Stmt:=cF 43
abbrev tT:Stmt:=cF 44
abbrev pA:Stmt:=cF 45
abbrev vy:Stmt:=cF 46
abbrev z7:Stmt:=cF 50
abbrev xF:Stmt:=cF 51
abbrev xH:Stmt:=cF 52
abbrev CD:Stmt:=cF 55
abbrev Ay:Stmt:=cF 56
abbrev mJ:Stmt:=cF 57
abbrev l8:Stmt:=cF 58
abbrev mH:Stmt:=cF 61
abbrev rk:Stmt:=cF 62
abbrev pB:Stmt:=cF 63
abbrev vI:Stmt:=cF 64
abbrev pT:Stmt:=cF 65
abbrev vY:Stmt:=cF 66
abbrev qY:Stmt:=cF 68
abbrev m6:Stmt:=cF 69
abbrev tZ:Stmt:=cF 70
abbrev CF:Stmt:=cF 72
abbrev BL:Stmt:=cF 73
abbrev kT:Stmt:=cF 74
abbrev zz:Stmt:=cF 76
abbrev pJ:Stmt:=cF 77
abbrev tI:Stmt:=cF 78
abbrev vb:Stmt:=cF 79
abbrev B2:Stmt:=cF 80
abbrev AI:Stmt:=fU (cF 82) 0
abbrev Nl:Stmt:=cF 83
abbrev rV:Stmt:=cF 84
abbrev EB:Stmt:=cF 85
abbrev zT:Stmt:=cF 86
abbrev vA:Stmt:=fU (cF 89) 0
abbrev tQ:Stmt:=fU (cF 89) 1
abbrev vZ:Stmt:=fU (cF 89) 2
abbrev ve:Stmt:=fU (cF 89) 3
abbrev pU:Stmt:=fU (cF 89) 4
abbrev u0:Stmt:=fU (cF 89) 5
abbrev rG:Stmt:=fU (cF 89) 6
abbrev tX:Stmt:=fU (cF 89) 7
abbrev tK:Stmt:=fU (cF 89) 8
abbrev nO:Stmt:=fU (cF 89) 9
abbrev nY:Stmt:=cF 91
abbrev mU:Stmt:=cF 92
abbrev pD:Stmt:=cF 93
abbrev pN:Stmt:=cF 94
abbrev pP:Stmt:=cF 95
abbrev Cr:Stmt:=cF 99
abbrev mM:Stmt:=cF 100
abbrev jW:Stmt:=cF 101
structure Bn (W:dg):Prop where
 len:W.mg "len"=none
 range:W.mg "range"=none
 zip:W.mg "zip"=none
 min:W.mg "min"=none
 max:W.mg "max"=none
 abs:W.mg "abs"=none
 sum:W.mg "sum"=none
 any:W.mg "any"=none
 list:W.mg "list"=none
 rev:W.mg "reversed"=none
theorem Mm:dv "min"=some (.builtin "min"):=by decide+kernel
theorem Mh:dv "max"=some (.builtin "max"):=by decide+kernel
theorem NH:dv "abs"=some (.builtin "abs"):=by decide+kernel
theorem NS:dv "sum"=some (.builtin "sum"):=by decide+kernel
theorem E4:dv "any"=some (.builtin "any"):=by decide+kernel
theorem wY:dv "len"=some (.builtin "len"):=by decide+kernel
theorem Ad:dv "list"=some (.type "list"):=by decide+kernel
def RE (K:ag) (r:List V->Hp->VK->Prop) (O:Os) (ds:List D) (k:KD):Prop:=
 ∀F H vs (Q:VK),bX F H->cB K F O H->cg K F ds vs->jo K F H O k Q->r vs H Q
section
variable {W:dg} {X:Cx} {N:List Str} {sc:Scope} {n m:Nat} {tp:Bool} {ρ:dk} {O:Os} {x:Str} {a b e:aS} {es:List aS} {p pos:Pos} {k:KD} {ds:List D} {i j:Int}
theorem jY {id:String} {r:List V->Hp->VK->Prop} (hc:pS X (.builtin id) r) (c:eZ W X N sc n tp) (hg:mr sc x) (hm:W.mg x=none) (hv:dv x=some (.builtin id)) (ha:ir X ρ O (e::es) ds) (h:RE X.K r O ds k)
  (hn:x≠"__name__":=by decide) (og:(x==("__debug__":Str))=false:=by decide) (he:ak (e::es) X.env=(false,eval e X.env)::ak es X.env:=by rfl) (hpl:(cw pos (ak es X.env)).any (·.1)=false:=by rfl):
  EV X ρ O (.Call (.Name x p) (e::es) [] pos) k:= .mk λσ F H Q s pp=>
 PE.to (MF hc (c.gl hg) (by rw[c.glob];exact hm) hv kZ hn og he hpl) (ha σ F H _ s λvs ds' O1 F1 H1 g su ow r1 ⟨q1,q2⟩=>by
  subst q1;subst q2
  exact h F1 H1 vs Q su ow r1 (pp.after g))
theorem EZ {T:String} {r:List V->Hp->VK->Prop} (hc:pS X (.type T) r) (c:eZ W X N sc n tp) (hg:mr sc x) (hm:W.mg x=none) (hv:dv x=some (.type T)) (ha:ir X ρ O (e::es) ds) (h:RE X.K r O ds k)
  (hn:x≠"__name__":=by decide) (og:(x==("__debug__":Str))=false:=by decide) (he:ak (e::es) X.env=(false,eval e X.env)::ak es X.env:=by rfl) (hpl:(cw pos (ak es X.env)).any (·.1)=false:=by rfl):
  EV X ρ O (.Call (.Name x p) (e::es) [] pos) k:= .mk λσ F H Q s pp=>
 PE.to (Kp hc (c.gl hg) (by rw[c.glob];exact hm) hv kZ hn og he hpl) (ha σ F H _ s λvs ds' O1 F1 H1 g su ow r1 ⟨q1,q2⟩=>by
  subst q1;subst q2
  exact h F1 H1 vs Q su ow r1 (pp.after g))
theorem rO {K:ag} {F:Hp} {d:D} {vs:List V} (r:cg K F [d] vs):∃v,vs=[v]/\sP K F d v:=by
 obtain⟨v,r',rfl,rv,rr⟩:=r
 cases (show r'=[]from rr)
 exact⟨v,rfl,rv⟩
theorem Jg {K:ag} {F:Hp} {d d2:D} {vs:List V} (r:cg K F [d,d2] vs):∃v u,vs=[v,u]/\sP K F d v/\sP K F d2 u:=by
 obtain⟨v,r',rfl,rv,rr⟩:=r
 obtain⟨u,rfl,ru⟩:=rO rr
 exact⟨v,u,rfl,rv,ru⟩
theorem Rp (c:eZ W X N sc n tp) (B:Bn W) (hg:mr sc "abs") (ha:bq X ρ O a (.int i)) (he:ak [a] X.env=(false,eval a X.env)::ak [] X.env:=by rfl):bq X ρ O (.Call (.Name "abs" p) [a] [] pos) (.int (if i<0 then -i else i)):=
 jY Na c hg B.abs NH (aa ha az he) (λF H vs Q su ow r pp=>by
  obtain⟨v,rfl,rv⟩:=rO r
  exact⟨i,by rw[show v=V.int i from rv],pp _ (.int (if i<0 then -i else i)) O F H .refl su ow rfl ⟨rfl,rfl⟩⟩) (he:=he)
theorem P6 (c:eZ W X N sc n tp) (B:Bn W) (hg:mr sc "max") (ha:bq X ρ O a (.int i)) (hb:bq X ρ O b (.int j)) (he:ak [a,b] X.env=(false,eval a X.env)::ak [b] X.env:=by rfl) (QE:ak [b] X.env=(false,eval b X.env)::ak [] X.env:=by rfl) (hpl:(cw pos (ak [b] X.env)).any (·.1)=false:=by rfl):
  bq X ρ O (.Call (.Name "max" p) [a,b] [] pos) (.int (if j>i then j else i)):=
 jY (KI c.calm) c hg B.max Mh (aa ha (aa hb az QE) he) (λF H vs Q su ow r pp=>by
  obtain⟨v,u,rfl,rv,ru⟩:=Jg r
  exact⟨i,j,by rw[show v=V.int i from rv,show u=V.int j from ru],pp _ (.int (if j>i then j else i)) O F H .refl su ow rfl ⟨rfl,rfl⟩⟩) (he:=he) (hpl:=hpl)
theorem Ji (c:eZ W X N sc n tp) (B:Bn W) (hg:mr sc "min") (ha:bq X ρ O a (.int i)) (hb:bq X ρ O b (.int j)) (he:ak [a,b] X.env=(false,eval a X.env)::ak [b] X.env:=by rfl) (QE:ak [b] X.env=(false,eval b X.env)::ak [] X.env:=by rfl) (hpl:(cw pos (ak [b] X.env)).any (·.1)=false:=by rfl):
  bq X ρ O (.Call (.Name "min" p) [a,b] [] pos) (.int (if j<i then j else i)):=
 jY (Ld c.calm) c hg B.min Mm (aa ha (aa hb az QE) he) (λF H vs Q su ow r pp=>by
  obtain⟨v,u,rfl,rv,ru⟩:=Jg r
  exact⟨i,j,by rw[show v=V.int i from rv,show u=V.int j from ru],pp _ (.int (if j<i then j else i)) O F H .refl su ow rfl ⟨rfl,rfl⟩⟩) (he:=he) (hpl:=hpl)
theorem kH (c:eZ W X N sc n tp) (B:Bn W) (hg:mr sc "len") (ha:bq X ρ O a (.lst ds)) (he:ak [a] X.env=(false,eval a X.env)::ak [] X.env:=by rfl):bq X ρ O (.Call (.Name "len" p) [a] [] pos) (.int (ds.length:Nat)):=
 jY oX c hg B.len wY (aa ha az he) (λF H vs Q su ow r pp=>by
  obtain⟨v,rfl,l,us,rfl,hl,rr⟩:=rO r
  exact⟨l,us,rfl,.inl (iL.of (su _ _ hl)),by rw[<-rr.length];exact pp _ (.int (ds.length:Nat)) O F H .refl su ow rfl ⟨rfl,rfl⟩⟩) (he:=he)
theorem Ll (c:eZ W X N sc n tp) (B:Bn W) (hg:mr sc "len") (ha:bq X ρ O a (.ro ds)) (he:ak [a] X.env=(false,eval a X.env)::ak [] X.env:=by rfl):bq X ρ O (.Call (.Name "len" p) [a] [] pos) (.int (ds.length:Nat)):=
 jY oX c hg B.len wY (aa ha az he) (λF H vs Q su ow r pp=>by
  obtain⟨v,rfl,l,us,rfl,hl,rr⟩:=rO r
  exact⟨l,us,rfl,.inl (su.seq hl),by rw[<-rr.length];exact pp _ (.int (ds.length:Nat)) O F H .refl su ow rfl ⟨rfl,rfl⟩⟩) (he:=he)
theorem FJ {q:Addr} (c:eZ W X N sc n tp) (B:Bn W) (hg:mr sc "len") (ha:bq X ρ O a (.ptr q)) (hq:(q,.lst ds)∈O) (he:ak [a] X.env=(false,eval a X.env)::ak [] X.env:=by rfl):bq X ρ O (.Call (.Name "len" p) [a] [] pos) (.int (ds.length:Nat)):=
 jY oX c hg B.len wY (aa ha az he) (λF H vs Q su ow r pp=>by
  obtain⟨v,rfl,rv⟩:=rO r
  obtain rfl:v=V.ref q:=rv
  obtain⟨_,us,hl,rr⟩:=ow.at_ _ hq
  exact⟨q,us,rfl,.inl (iL.of hl),by rw[<-rr.length];exact pp _ (.int (ds.length:Nat)) O F H .refl su ow rfl ⟨rfl,rfl⟩⟩) (he:=he)
theorem Dl {l:List Int} (c:eZ W X N sc n tp) (B:Bn W) (hg:mr sc "sum") (ha:bq X ρ O a (.lst (l.map .int))) (he:ak [a] X.env=(false,eval a X.env)::ak [] X.env:=by rfl):bq X ρ O (.Call (.Name "sum" p) [a] [] pos) (.int l.sum):=
 jY (Uw c.calm) c hg B.sum NS (aa ha az he) (λF H vs Q su ow r pp=>by
  obtain⟨v,rfl,q,us,rfl,hl,rr⟩:=rO r
  rw[rr.ints]at hl
  exact⟨q,l,rfl,iL.of (su _ _ hl),pp _ (.int l.sum) O F H .refl su ow rfl ⟨rfl,rfl⟩⟩) (he:=he)
theorem GA {prog:bR} {w:du} {A:cG} {ns:List Int} {bW:List Value} (hi:AQ bW ns):TruthOf prog w A (λi v=>bW.toArray[i]? =some v) (λi=>ns.getD i 0 !=0):=λi v s Q E hv hq=>by
 have Uz:bW[i]? =some v:=by simpa using hv
 have r:=uZ hi
 have jb:i<bW.length:=(bh.mp Uz).1
 have hlen:=r.length
 rw[ah]at hlen
 have e:(ns.map V.int)[i]? =some (V.int (ns.getD i 0)):=by
  rw[aE,aR,aI (by omega)];rfl
 obtain⟨u,hu,t,rfl⟩:=r.get e
 rw[Uz]at hu;cases hu
 exact PySem.P.truthy_int hq
theorem zV:∀ns:List Int,(ar ns.length).any (λi=>ns.getD i 0 !=0)=ns.any (λz=>z !=0)
 |[]=>rfl
 |b::bs=>by
  rw[aJ,fH,lp,FX,lp,<-zV bs]
  all_goals rfl
def Wg (K:ag):List V->Hp->VK->Prop:=λvs H Q=>∃(a:Addr) (ns:List Int),vs=[V.ref a]/\iL K H a (ns.map V.int)/\Q (.bl (ns.any λz=>z !=0)) H
theorem Ra (hc:X.calm=true):pS X (.builtin "any") (Wg X.K):=by
 intro pins s σ H vs us Q I r h
 obtain⟨a,bs,rfl,hs,q⟩:=h
 obtain⟨bW,rv,hl,_⟩:=I.list hs
 rw[b8.ref1 r]
 have hb:=rv.ints
 have hlen:=rv.length
 rw[ah]at hlen
 refine call_any_walk (E3 hl.isList λs₂ e2 st hne=>?_)
 subst e2
 refine⟨_,_,_,_,_,_,_,rfl,Walks.list (A:=X.A.in1) (I.ok.hd hc) _ a hne bW.toArray,st,GA hb,λh' tk hk=>?_⟩
 refine⟨.bl _,H,I.kept λb o eo=>hk b o (λhmem=>?_) (au _ eo),?_,q⟩
 ·rcases aB.mp hmem with e1|hmem
  ·exact absurd (e1▸aN eo) (c9 _)
  ·cases hmem
 ·show kQ _=kQ _
  rw[<-zV,aG,hlen]
theorem mf {l:List Int} (c:eZ W X N sc n tp) (B:Bn W) (hg:mr sc "any") (ha:bq X ρ O a (.lst (l.map .int))) (he:ak [a] X.env=(false,eval a X.env)::ak [] X.env:=by rfl):bq X ρ O (.Call (.Name "any" p) [a] [] pos) (.bl (l.any λz=>z !=0)):=
 jY (Ra c.calm) c hg B.any E4 (aa ha az he) (λF H vs Q su ow r pp=>by
  obtain⟨v,rfl,q,us,rfl,hl,rr⟩:=rO r
  rw[rr.ints]at hl
  exact⟨q,l,rfl,iL.of (su _ _ hl),pp _ (.bl (l.any λz=>z !=0)) O F H .refl su ow rfl ⟨rfl,rfl⟩⟩) (he:=he)
theorem cg.bls {K:ag} {F:Hp} {l:List Bool}:∀{vs:List V},cg K F (l.map .bl) vs->vs=l.map V.bl:=by
 induction l with
 |nil=>intro vs h;exact h
 |cons z l ih=>intro vs h;obtain⟨v,r,rfl,h2,h3⟩:=h;rw[ih h3,show v=V.bl z from h2];rfl
theorem E6 {l:List Bool} (c:eZ W X N sc n tp) (B:Bn W) (hg:mr sc "any") (ha:bq X ρ O a (.lst (l.map .bl))) (he:ak [a] X.env=(false,eval a X.env)::ak [] X.env:=by rfl):bq X ρ O (.Call (.Name "any" p) [a] [] pos) (.bl (l.any id)):=
 jY (UL c.calm) c hg B.any E4 (aa ha az he) (λF H vs Q su ow r pp=>by
  obtain⟨v,rfl,q,us,rfl,hl,rr⟩:=rO r
  rw[rr.bls]at hl
  exact⟨q,l,rfl,iL.of (su _ _ hl),pp _ (.bl (l.any id)) O F H .refl su ow rfl ⟨rfl,rfl⟩⟩) (he:=he)
theorem ME (c:eZ W X N sc n tp) (B:Bn W) (hg:mr sc "list") (ha:bq X ρ O a (.lst ds)) (he:ak [a] X.env=(false,eval a X.env)::ak [] X.env:=by rfl):cD X ρ O (.Call (.Name "list" p) [a] [] pos) ds:=
 EZ uW c hg B.list Ad (aa ha az he) (λF H vs Q su ow r pp=>by
  obtain⟨v,rfl,l,us,rfl,hl,rr⟩:=rO r
  exact⟨l,us,rfl,.inl (iL.of (su _ _ hl)),jn su ow rr pp⟩) (he:=he)
theorem JN (c:eZ W X N sc n tp) (B:Bn W) (hg:mr sc "list") (ha:bq X ρ O a (.tup ds)) (he:ak [a] X.env=(false,eval a X.env)::ak [] X.env:=by rfl):cD X ρ O (.Call (.Name "list" p) [a] [] pos) ds:=
 EZ uW c hg B.list Ad (aa ha az he) (λF H vs Q su ow r pp=>by
  obtain⟨v,rfl,l,us,rfl,hl,rr⟩:=rO r
  exact⟨l,us,rfl,.inr (o8.same su hl),jn su ow rr pp⟩) (he:=he)
end
section
variable {W:dg} {X:Cx} {N:List Str} {sc:Scope} {n m:Nat} {tp:Bool} {ρ:dk} {O:Os} {o e:aS} {apos iJ:Pos} {k:KD} {ds:List D} {i j:Int}
theorem KY:Xn X "int.bit_length" (λx xs H Q=>∃i,x= .int i/\xs=[]/\Q (.int (iG i:Nat)) H):=by
 intro pins s σ H x xs v us Q I rx rxs h
 obtain⟨i,rfl,rfl,q⟩:=h
 obtain⟨t,rfl⟩:=rx
 cases rxs
 exact call_gives yD (typeIs_int s i t) PySem.F.entry_int_bit_length (PySem.F.args_int_bit_length_1 _) (AutoIntG2.int_bit_length_int_0 i t) ⟨.int _,H,I.tok _,⟨_,rfl⟩,q⟩
theorem Ha (ho:bq X ρ O o (.int i)) (qJ:fu o "bit_length" X.env (eval o X.env)=eval o X.env:=by rfl) (qG:(apos.endLine==iJ.line)=true:=by rfl):bq X ρ O (.Call (.Attribute o "bit_length" apos) [] [] iJ) (.int (iG i:Nat)):= .mk λσ F H Q s pp=>
 PE.to (SN PySem.F.plainAttrs_int yD PySem.F.type_int_bit_length KY bV qJ qG) (ho σ F H _ s λv d O1 F1 H1 g su ow r ⟨q1,q2⟩=>by
  subst q1;subst q2
  obtain rfl:v=V.int i:=r
  exact⟨rfl,i,rfl,rfl,pp _ (.int (iG i:Nat)) _ F1 H1 g su ow rfl ⟨rfl,rfl⟩⟩)
theorem sx {q:Addr} (ho:bq X ρ O o (.ptr q)) (hq:∃ds,(q,.lst ds)∈O) (h:EV X ρ O e λd O1=>∃ds O',Up O1 q (.lst ds) (.lst (ds++[d])) O'/\ds.length<sizeLine/\k .non O')
  (qJ:fu o "append" X.env (eval o X.env)=eval o X.env:=by rfl)
  (Hn:((cw iJ (ak [e] X.env)).all (λx=>!x.1)&&(iV iJ (e8 [] X.env)).all (λx=>x.1.isSome)&&decide (([e]:List aS).length+([]:List xm).length+(if ([]:List xm).isEmpty then 0 else 1)<30))=true:=by rfl)
  (qG:(apos.endLine==iJ.line)=true:=by rfl) (hs:ak [e] X.env=(false,eval e X.env)::ak [] X.env:=by rfl) (uo:(cw iJ (ak [] X.env)).any (·.1)=false:=by rfl):
  EV X ρ O (.Call (.Attribute o "append" apos) [e] [] iJ) k:= .mk λσ F H Q s pp=>
 PE.to (Nk nu PySem.F.slot_list_append PySem.F.type_list_append Kg bV (uQ bV DW hs) qJ Hn qG hs uo) (ho σ F H _ s λv d O1 F1 H1 g su ow r ⟨q1,q2⟩=>by
  subst q1;subst q2
  obtain rfl:v=V.ref q:=r
  obtain⟨Vu,hq⟩:=hq
  obtain⟨_,vs0,Yi,_⟩:=ow.at_ _ hq
  refine⟨.inl ⟨rfl,_,iL.of Yi⟩,h σ F1 H1 _ (s.grow g.ff su ow) λu d O2 F2 H2 g2 gX gB r2 ⟨ds,O',up,hz,qk⟩=>?_⟩
  obtain⟨_,vs,hv,rr⟩:=gB.at_ _ up.mem
  have rl:=rr.length
  refine⟨q,vs,u,rfl,rfl,hv,by lia,?_⟩
  obtain⟨g3,kX,kN⟩:=nA (o:= .lst (vs++[u])) gX gB up ⟨_,cp,rr.append (.cons r2 .nil)⟩
  exact pp _ .non O' F2 _ ((g.trans g2).trans g3) kX kN rfl qk)
theorem gQ {q:Addr} (ho:bq X ρ O o (.ptr q)) (hq:∃ds,(q,.lst ds)∈O) (h:EV X ρ O e λd O1=>∃ds zs O',d= .lst zs/\Up O1 q (.lst ds) (.lst (ds++zs)) O'/\ds.length+zs.length<=sizeLine/\k .non O')
  (qJ:fu o "extend" X.env (eval o X.env)=eval o X.env:=by rfl)
  (Hn:((cw iJ (ak [e] X.env)).all (λx=>!x.1)&&(iV iJ (e8 [] X.env)).all (λx=>x.1.isSome)&&decide (([e]:List aS).length+([]:List xm).length+(if ([]:List xm).isEmpty then 0 else 1)<30))=true:=by rfl)
  (qG:(apos.endLine==iJ.line)=true:=by rfl) (hs:ak [e] X.env=(false,eval e X.env)::ak [] X.env:=by rfl) (uo:(cw iJ (ak [] X.env)).any (·.1)=false:=by rfl):
  EV X ρ O (.Call (.Attribute o "extend" apos) [e] [] iJ) k:= .mk λσ F H Q s pp=>
 PE.to (Nk nu PySem.F.slot_list_extend PySem.F.type_list_extend JU bV (uQ bV DW hs) qJ Hn qG hs uo) (ho σ F H _ s λv d O1 F1 H1 g su ow r ⟨q1,q2⟩=>by
  subst q1;subst q2
  obtain rfl:v=V.ref q:=r
  obtain⟨Vu,hq⟩:=hq
  obtain⟨_,vs0,Yi,_⟩:=ow.at_ _ hq
  refine⟨.inl ⟨rfl,_,iL.of Yi⟩,h σ F1 H1 _ (s.grow g.ff su ow) λu d O2 F2 H2 g2 gX gB r2 ⟨ds,zs,O',ed,up,hz,qk⟩=>?_⟩
  subst ed
  obtain⟨b,us,rfl,hb,rb⟩:=r2
  obtain⟨_,vs,hv,rr⟩:=gB.at_ _ up.mem
  have rl:=rr.length
  have rl2:=rb.length
  refine⟨q,b,vs,us,rfl,rfl,hv,gX _ _ hb,by lia,?_⟩
  obtain⟨g3,kX,kN⟩:=nA (o:= .lst (vs++us)) gX gB up ⟨_,cp,rr.append rb⟩
  exact pp _ .non O' F2 _ ((g.trans g2).trans g3) kX kN rfl qk)
theorem Mf {i:Int}:∀{bW:List Value} {ns:List Int},AQ bW ns->bW.countP (Vf (.int i))=ns.countP (λz=>z==i)
 |_,_,.nil=>rfl
 |_,_,.cons z t h=>by simp only[List.countP_cons,Mf h,Vf,Uc];rfl
theorem La:Xn X "list.count" (λx xs H Q=>∃(a:Addr) (ns:List Int) (i:Int),x= .ref a/\xs=[.int i]/\iL X.K H a (ns.map V.int)/\Q (.int (ns.countP λz=>z==i:Nat)) H):=by
 intro pins s σ H x xs v us Q I rx rxs h
 obtain⟨a,ns,i,rfl,rfl,hs,q⟩:=h
 cases rx
 obtain⟨u,rfl,t,rfl⟩:=Ic rxs
 obtain⟨bW,rv,⟨⟨cls,dd,data,sl⟩,n,ho,hc,hdn,hd⟩,hlen⟩:=I.list hs
 simp only at hc hd
 subst hc hd
 have hi:=rv.ints
 have S4:bW.countP (Vf (.int i))=ns.countP (λz=>z==i):=Mf hi
 have fl:(ns.map V.int).all zL=true:=by simp[zL]
 refine yZ BE ⟨_,ho,rfl⟩ PySem.F.entry_list_count (PySem.F.args_list_count_2 _ _)
  (SeqAt.list_countAt a bW.toArray n dd sl (.int i t) (Vf (.int i))) ⟨ho,λy hy=>EO (x:= .int i) ⟨t,rfl⟩ rfl rv fl y (by simpa using hy),?_⟩
 rw[S4]
 exact⟨.int _,H,I.tok _,⟨_,rfl⟩,q⟩
theorem JY {l:List Int} (ho:bq X ρ O o (.lst (l.map .int))) (he:bq X ρ O e (.int i)) (qJ:fu o "count" X.env (eval o X.env)=eval o X.env:=by rfl)
  (Hn:((cw iJ (ak [e] X.env)).all (λx=>!x.1)&&(iV iJ (e8 [] X.env)).all (λx=>x.1.isSome)&&decide (([e]:List aS).length+([]:List xm).length+(if ([]:List xm).isEmpty then 0 else 1)<30))=true:=by rfl)
  (qG:(apos.endLine==iJ.line)=true:=by rfl) (hs:ak [e] X.env=(false,eval e X.env)::ak [] X.env:=by rfl) (uo:(cw iJ (ak [] X.env)).any (·.1)=false:=by rfl):
  bq X ρ O (.Call (.Attribute o "count" apos) [e] [] iJ) (.int (l.countP λz=>z==i:Nat)):= .mk λσ F H Q s pp=>
 PE.to (Nk nu BE PySem.F.type_list_count La bV (uQ bV DW hs) qJ Hn qG hs uo) (ho σ F H _ s λv d O1 F1 H1 g su ow r ⟨q1,q2⟩=>by
  subst q1;subst q2
  obtain⟨a,vs,rfl,hl,rr⟩:=r
  refine⟨.inl ⟨rfl,_,iL.of (su _ _ hl)⟩,he σ F1 H1 _ (s.grow g.ff su ow) λu d O2 F2 H2 g2 gX gB r2 ⟨q1,q2⟩=>?_⟩
  subst q1;subst q2
  obtain rfl:u=V.int i:=r2
  rw[rr.ints]at hl
  exact⟨a,l,i,rfl,rfl,iL.of (gX _ _ (g2.ff _ _ hl)),pp _ (.int (l.countP λz=>z==i:Nat)) _ F2 H2 (g.trans g2) gX gB rfl ⟨rfl,rfl⟩⟩)
end
inductive PF:List Str->List D->Str->D->List Str->List D->Prop where
 |nil {f:Str} {d:D}:PF [] [] f d [f] [d]
 |here {f:Str} {d x:D} {ns:List Str} {ds:List D}:PF (f::ns) (x::ds) f d (f::ns) (d::ds)
 |there {f g:Str} {d x:D} {ns Gr:List Str} {ds ds':List D} (h:g≠f):PF ns ds f d Gr ds'->PF (g::ns) (x::ds) f d (g::Gr) (x::ds')
theorem PF.put {K:ag} {F:Hp} {y:V}:∀{ns Gr:List Str} {ds ds':List D} {f:Str} {d:D} {vs:List V},PF ns ds f d Gr ds'->cg K F ds vs->ns.length=vs.length->sP K F d y->
  ∃Lx,nS f y (ns.zip vs)=Gr.zip Lx/\Gr.length=Lx.length/\cg K F ds' Lx
 |_,_,_,_,_,_,vs,.nil,r,hl,ry=>by cases (show vs=[]from r);exact⟨[y],rfl,rfl,.cons ry .nil⟩
 |_,_,_,_,_,_,vs,.here,r,hl,ry=>by
  obtain⟨v,vr,rfl,rv,rr⟩:=r
  exact⟨y::vr,by rw[ig,nS,if_pos rfl,ig],by simpa using hl,.cons ry rr⟩
 |_,_,_,_,_,_,vs,.there h p,r,hl,ry=>by
  obtain⟨v,vr,rfl,rv,rr⟩:=r
  obtain⟨Lx,h1,h2,h3⟩:=p.put rr (by simpa using hl) ry
  exact⟨v::Lx,by rw[ig,nS,if_neg h,h1,ig],by simp[h2],.cons rv h3⟩
section
variable {W:dg} {X:Cx} {N:List Str} {sc:Scope} {n m:Nat} {ρ:dk} {O:Os} {f:Str} {o e:aS} {pos pos':Pos} {kn:KR} {kr:KD} {C:Addr} {rest:List Stmt}
theorem Il (c:eZ W X N sc n true) (hC:iS W.K C) (hN:aM W.K C f)
  (h:EV X ρ O e λd O1=>∃q ns ds Gr ds' O',bq X ρ O1 o (.ptr q)/\Up O1 q (.ins C ns ds) (.ins C Gr ds') O'/\PF ns ds f d Gr ds'/\ns.length<1000/\kn ρ O')
  (hs:eA e (some (.Attribute o f pos')) pos.line X.env=pure false:=by rfl):QY X ρ O (.Assign [.Attribute o f pos'] e pos) kn kr:= .mk λσ F H E s pn p=>
 PS.to (SA bV bV hs) (h σ F H _ s λy d O1 F1 H1 g su ow ry ⟨q,ns,ds,Gr,ds',O',ho,up,pf,hl,hk⟩=>ho σ F1 H1 _ (s.grow g.ff su ow) λx d2 O2 F2 H2 g2 gX gB rx ⟨q1,q2⟩=>by
  subst q1;subst q2
  obtain rfl:x=V.ref q:=rx
  obtain⟨_,dx,vs,ha,hlen,rr⟩:=gB.at_ _ up.mem
  obtain⟨Lx,e1,e2,e3⟩:=pf.put rr hlen (ry.mono g2.ff)
  obtain⟨g3,kX,kN⟩:=nA (o:= .ins C dx (Gr.zip Lx)) gX gB up ⟨dx,Lx,cp,e2,e3⟩
  refine⟨q,C,dx,_,rfl,ha,by rw[c.frag];exact hC,by rw[c.frag];exact hN,?_,?_⟩
  ·rw[bZ];omega
  ·rw[e1]
   exact pn σ ρ O' F2 _ ((g.trans g2).trans g3) (s.grow (g.ff.trans g2.ff) kX kN) hk)
theorem gx {q:Addr} {d:D} {ns Gr:List Str} {ds ds':List D} {O':Os} (c:eZ W X N sc n true) (hC:iS W.K C) (hN:aM W.K C f) (he:bq X ρ O e d) (ho:bq X ρ O o (.ptr q)) (up:Up O q (.ins C ns ds) (.ins C Gr ds') O') (pf:PF ns ds f d Gr ds') (hl:ns.length<1000)
  (h:SV X ρ O' rest kn kr) (hs:eA e (some (.Attribute o f pos')) pos.line X.env=pure false:=by rfl):SV X ρ O (.Assign [.Attribute o f pos'] e pos::rest) kn kr:=
 ey (Il c hC hN (he.go ⟨q,ns,ds,Gr,ds',O',ho,up,pf,hl,h⟩) hs)
theorem Lh {q:Addr} {i j:Int} {ns:List Str} {ds ds':List D} {O':Os} {n8:Pos} (c:eZ W X N sc n true) (hC:iS W.K C) (hN:aM W.K C f) (nd:ns.Nodup) (ho:bq X ρ O o (.ptr q)) (he:bq X ρ O e (.int j)) (hl:Fl ns ds f (.int i)) (up:Up O q (.ins C ns ds) (.ins C ns ds') O') (pf:PF ns ds f (.int (i+j)) ns ds') (hz:ns.length<1000)
  (h:SV X ρ O' rest kn kr):SV X ρ O (.AugAssign (.Attribute o f n8) .Add e pos::rest) kn kr:=ey<| .mk λσ F H E s pn p=>
 PS.to (KQ bV bV T6) (ho σ F H _ s λx d2 O2 F2 H2 g2 gX gB rx ⟨q1,q2⟩=>by
  subst q1;subst q2
  obtain rfl:x=V.ref q:=rx
  obtain⟨_,dx,vs,ha,hlen,rr⟩:=gB.at_ _ up.mem
  obtain⟨_,v,h1,rv⟩:=hl.look nd rr
  refine⟨q,C,dx,_,v,rfl,ha,by rw[c.frag];exact hC,by rw[c.frag];exact hN,h1,he σ F2 H2 _ (s.grow g2.ff gX gB) λy d3 O3 F3 H3 g3 kX kN ry ⟨q1,q2⟩=>?_⟩
  subst q1;subst q2
  obtain⟨_,Yj,vs3,ha3,V4,ZJ⟩:=kN.at_ _ up.mem
  obtain⟨Lx,e1,e2,e3⟩:=pf.put (y:= .int (i+j)) ZJ V4 rfl
  obtain⟨g4,D8,BO⟩:=nA (o:= .ins C Yj (ns.zip Lx)) kX kN up ⟨Yj,Lx,cp,e2,e3⟩
  refine⟨i,j,rv,ry,Yj,_,ha3,by rw[bZ];lia,?_⟩
  rw[e1]
  exact pn σ ρ O' F3 _ ((g2.trans g3).trans g4) (s.grow (g2.ff.trans g3.ff) D8 BO) h)
end
structure jC (W:dg) (x:Str) (C:Addr) (m:Nat) (Ci:tw):Prop where
 ex:∃f fd ps,mv W.P W.w W.K W.mg W.base K5 m f fd ps (x8 W.K Ci)/\Mk W.K C f/\W.mg x=some (.ref C)/\iC W.K fd ps []
section
variable {W:dg} {X:Cx} {N:List Str} {sc:Scope} {n m:Nat} {tp:Bool} {ρ:dk} {O:Os} {x:Str} {e:aS} {es:List aS} {p pos:Pos} {k:KD} {C:Addr} {Ci:tw}
theorem jC.at_ (c:eZ W X N sc n tp) (hc:jC W x C m Ci):∃f fd ps,mv X.prog X.w X.K X.mg X.base K5 m f fd ps (x8 X.K Ci)/\Mk X.K C f/\X.mg x=some (.ref C)/\iC X.K fd ps []:=by
 rw[c.prog,c.wrld,c.frag,c.glob,c.bas];exact hc.ex
theorem BU {K:ag} {F H:Hp} {Oa Ob:Os} {Q:VK} {ds:List D} {vs:List V} {E:XK} (su:bX F H) (ow:cB K F (Oa++Ob) H) (r:cg K F ds vs)
  (h:∀q,Ci (.ptr q::ds) ((q,.ins C [] [])::Oa) λd O'=>d= .non/\k (.ptr q) (O'++Ob)) (pp:jo K F H (Oa++Ob) k Q):
  ∀a dx,H a=none->H dx=none->dx≠a->x8 K Ci (.ref a::vs) (fC (fC H dx (.own a)) a (.ins C dx [])) (λv H2=>v= .non/\Q (.ref a) H2) E:=by
 intro a dx ha Vt hne
 have fa:=bX.none_of su ha
 have fd:=bX.none_of su Vt
 have k1:∀b o,H b=some o->(fC (fC H dx (.own a)) a (.ins C dx [])) b=some o:=λb o h=>by rw[cb (cJ h ha),cb (cJ h Vt)];exact h
 have L8:bX F (fC (fC H dx (.own a)) a (.ins C dx [])):=λb o h=>k1 b o (su b o h)
 have Lw:cB K F (((a,.ins C [] [])::Oa)++Ob) (fC (fC H dx (.own a)) a (.ins C dx [])):=by
  refine⟨bc.mpr ⟨ow.ne ha,ow.nd⟩,λq hq=>?_⟩
  rcases aB.mp hq with rfl|hq
  ·exact⟨fa,dx,[],by rw[cp];rfl,rfl,.nil⟩
  ·exact⟨(ow.at_ q hq).1,(ow.at_ q hq).2.mono (bX.refl _) λo h=>k1 _ _ h⟩
 have g1:dI (cU (Oa++Ob)) F H (cU (((a,.ins C [] [])::Oa)++Ob)) F (fC (fC H dx (.own a)) a (.ins C dx [])):=
  ⟨bX.refl _,λb o h _=>k1 b o h,λb o h=> .inl h,λb o h=>⟨o,k1 b o h⟩,λq hq=>by
   rcases aB.mp hq with rfl|hq
   ·exact .inr ha
   ·exact .inl hq⟩
 refine⟨F,.ptr a::ds,(a,.ins C [] [])::Oa,_,L8,.cons rfl r,Lw.left,h a,λv d O' F' H' g GD Ga r' ⟨ed,q⟩=>?_⟩
 subst ed
 obtain⟨h1,h2⟩:=G.frame Lw g Ga
 exact⟨r',pp _ (.ptr a) (O'++Ob) F' H' (g1.trans h2) GD h1 rfl q⟩
theorem v9 (c:eZ W X N sc n tp) (hc:jC W x C m Ci) (hm:m+1<=n) (hg:mr sc x) (h:Dc X ρ O (e::es) λds O1=>∃Oa Ob,O1=Oa++Ob/\∀q,Ci (.ptr q::ds) ((q,.ins C [] [])::Oa) λd O'=>d= .non/\k (.ptr q) (O'++Ob))
  (og:(x==("__debug__":Str))=false:=by decide) (he:ak (e::es) X.env=(false,eval e X.env)::ak es X.env:=by rfl) (hpl:(cw pos (ak es X.env)).any (·.1)=false:=by rfl):EV X ρ O (.Call (.Name x p) (e::es) [] pos) k:= .mk λσ F H Q s pp=>by
 obtain⟨f,fd,ps,F1,M1,h1,h3⟩:=hc.at_ c
 refine PE.to (QZ M1 F1 (c.room.mono hm) (c.gl hg) h1 h3 .nil z6 (E:=E0) kZ og he hpl) (h σ F H _ s λvs ds O1 F1 H1 g su ow r q=>?_)
 obtain⟨Oa,Ob,rfl,q⟩:=q
 intro a dx ha Vt hne
 rw[br]
 exact BU su ow r q (pp.after g) a dx ha Vt hne
theorem N5 (c:eZ W X N sc n tp) (hc:jC W x C m Ci) (hm:m+1<=n) (hg:mr sc x) (h:∀q,Ci [.ptr q] [(q,.ins C [] [])] λd O'=>d= .non/\k (.ptr q) (O'++O)) (og:(x==("__debug__":Str))=false:=by decide):EV X ρ O (.Call (.Name x p) [] [] pos) k:= .mk λσ F H Q s pp=>by
 obtain⟨f,fd,ps,F1,M1,h1,h3⟩:=hc.at_ c
 refine PE.to (LW M1 F1 (c.room.mono hm) (c.gl hg) h1 h3 .nil z6 (E:=E0) og) ?_
 intro a dx ha Vt hne
 exact BU (Oa:=[]) (Ob:=O) s.sub s.own .nil h pp a dx ha Vt hne
theorem EV.frzI {O0:Os} (h:EV X ρ O e λd O'=>∃q C ns ds,d= .ptr q/\O'=(q,.ins C ns ds)::O0/\k (.ins C ns ds) O0):EV X ρ O e k:= .mk λσ F H Q s p=>h σ F H Q s λv d O' F' H' g su ow r q=>by
 obtain⟨a,C,ns,ds,rfl,rfl,q⟩:=q
 obtain⟨_,dx,vs,hv,hl,hr⟩:=ow.at_ _ ae
 obtain⟨g2,sf,gX,gB⟩:=rp su ow hv
 obtain rfl:v=V.ref a:=r
 exact p _ (.ins C ns ds) O0 _ H' (g.trans g2) gX gB ⟨a,dx,vs,rfl,cp,hl,hr.mono sf⟩ q
end
structure jH (W:dg) (C:Addr) (m qual:Str) (st:Stmt) (ps:List Str):Prop where
 ex:∃f fd,OO W.K m qual st f fd/\Dn W.K C m f/\iC W.K fd ps []
theorem Ju {W:dg} {x qual:Str} {st:Stmt} {ps N:List Str} {m:Nat} {C:tw} {f:Addr} {fd:ox} (F:OO W.K x qual st f fd) (S:jS N ps (bQ st)) (len:∀ds O k,C ds O k->ds.length=ps.length)
  (body:∀X,eZ W X N (bQ st) m true->∀ds O k,C ds O k->SV X (pO N ds) O (fo st) (λ_ O'=>k .non O') k):mv W.P W.w W.K W.mg W.base K5 (m+1) f fd ps (x8 W.K C):=by
 refine F.ok S (λvs H Q E h=>?_) (λmw A outer s H vs Q E hr h=>?_)
 ·obtain⟨F,ds,O,k,_,r,_,hC,_⟩:=h
  rw[<-r.length];exact len ds O k hC
 ·obtain⟨F0,ds,O,k,su,r,ow,hC,p⟩:=h
  refine⟨_,jR,?_⟩
  have c:eZ W (oF K5 W.P W.w W.K W.mg W.base N qual (bQ st) f mw A outer s H E).nox N (bQ st) m true:=
   ⟨rfl,rfl,rfl,rfl,rfl,rfl,S.nd,rfl,rfl,hr,λ_=>⟨λ_=>rfl,wB⟩⟩
  refine body _ c ds O k hC (L2.jm N vs) F0 H _ ⟨su,λi d h=>sj r h,ow,?_⟩ (λσ' ρ' O' F' H' g s' q=>p .non .non O' F' H' g s'.sub s'.own rfl q) p
  unfold L2.jm pO
  rw[aj,aj,ah,ah,aP,aP,r.length]
structure dM (W:dg) (C:Addr) (m:Str) (j:Nat) (Ct:tw):Prop where
 ex:∃f fd ps,mv W.P W.w W.K W.mg W.base K5 j f fd ps (x8 W.K Ct)/\Dn W.K C m f/\iC W.K fd ps []
section
variable {W:dg} {X:Cx} {N:List Str} {sc:Scope} {n j:Nat} {tp:Bool} {ρ:dk} {O:Os} {m:Str} {o e:aS} {es:List aS} {apos pos:Pos} {k:KD} {C:Addr} {Ct:tw} {ns:List Str} {Vu:List D}
theorem dM.at_ (c:eZ W X N sc n tp) (hc:dM W C m j Ct):∃f fd ps,mv X.prog X.w X.K X.mg X.base K5 j f fd ps (x8 X.K Ct)/\Dn X.K C m f/\iC X.K fd ps []:=by
 rw[c.prog,c.wrld,c.frag,c.glob,c.bas];exact hc.ex
theorem wQ {ns:List Str} {vs:List V} {m:Str} (h:m∉ns):(ns.zip vs).lookup m=none:=by
 induction ns generalizing vs with
 |nil=>rfl
 |cons n ns ih=>
  cases vs with
  |nil=>rfl
  |cons v vs=>
   rw[ig,ee,beq_eq_false_iff_ne.mpr λe=>h (by simp[e])]
   exact ih λz=>h (by simp[z])
theorem lI {q:Addr} {pl:Sem Bool} (c:eZ W X N sc n tp) (hC:iS W.K C) (hc:dM W C m j Ct) (hj:j<=n) (ho:bq X ρ O o (.ptr q)) (hq:(q,.ins C ns Vu)∈O) (hm:m∉ns)
  (h:Dc X ρ O (e::es) λds O1=>∃Oa Ob,O1=Oa++Ob/\Ct (.ptr q::ds) Oa λd O'=>k d (O'++Ob))
  (D7:ak (e::es) X.env=(false,eval e X.env)::ak es X.env:=by rfl) (hpl:(cw pos (ak es X.env)).any (·.1)=false:=by rfl)
  (ht:eval (.Call (.Attribute o m apos) (e::es) [] pos) X.env=(do
   let ov<-eval o X.env
   standAt apos.atName
   let (f,first)<-holding [ov] (jF ov m pl)
   callWith pos f first (cw pos (ak (e::es) X.env)) (iV pos (e8 [] X.env))):=by rfl):EV X ρ O (.Call (.Attribute o m apos) (e::es) [] pos) k:= .mk λσ F H Q s pp=>by
 obtain⟨f,fd,ps,F1,M1,h3⟩:=hc.at_ c
 refine PE.to (QD (pl:=pl) bV (by rw[c.frag];exact hC) M1 F1 (c.room.mono hj) h3 .nil z6 (E:=E0) kZ D7 hpl ht) (ho σ F H _ s λv d O1 F1 H1 g su ow r ⟨q1,q2⟩=>?_)
 subst q1;subst q2
 obtain rfl:v=V.ref q:=r
 obtain⟨_,dx,vs,ha,hlen,rr⟩:=ow.at_ _ hq
 refine⟨q,dx,_,rfl,ha,wQ hm,h σ F1 H1 _ (s.grow g.ff su ow) λYR ds2 O2 F2 H2 g2 gX gB r2 qq=>?_⟩
 obtain⟨Oa,Ob,rfl,qq⟩:=qq
 rw[br]
 exact⟨F2,.ptr q::ds2,Oa,_,gX,.cons rfl r2,gB.left,qq,jo.frame gB (pp.after (g.trans g2))⟩
theorem LU {q:Addr} {pl:Sem Bool} {Oa Ob:Os} (c:eZ W X N sc n tp) (hC:iS W.K C) (hc:dM W C m j Ct) (hj:j<=n) (ho:bq X ρ O o (.ptr q)) (hq:(q,.ins C ns Vu)∈O) (hm:m∉ns)
  (eO:O=Oa++Ob) (h:Ct [.ptr q] Oa λd O'=>k d (O'++Ob))
  (ht:eval (.Call (.Attribute o m apos) [] [] pos) X.env=(do
   let ov<-eval o X.env
   standAt apos.atName
   let (f,first)<-holding [ov] (jF ov m pl)
   callWith pos f first (cw pos (ak [] X.env)) (iV pos (e8 [] X.env))):=by rfl):EV X ρ O (.Call (.Attribute o m apos) [] [] pos) k:= .mk λσ F H Q s pp=>by
 obtain⟨f,fd,ps,F1,M1,h3⟩:=hc.at_ c
 refine PE.to (EF (pl:=pl) bV (by rw[c.frag];exact hC) M1 F1 (c.room.mono hj) h3 .nil z6 (E:=E0) ht) (ho σ F H _ s λv d O1 F1 H1 g su ow r ⟨q1,q2⟩=>?_)
 subst q1;subst q2
 obtain rfl:v=V.ref q:=r
 obtain⟨_,dx,vs,ha,hlen,rr⟩:=ow.at_ _ hq
 subst eO
 refine⟨q,dx,_,rfl,ha,wQ hm,?_⟩
 exact⟨F1,[.ptr q],Oa,_,su,.cons rfl .nil,ow.left,h,jo.frame ow (pp.after g)⟩
end
section
variable {W:dg} {X:Cx} {N:List Str} {sc:Scope} {n j:Nat} {ρ:dk} {O:Os} {o i' e lo hi:aS} {pos p2 p3:Pos} {kn:KR} {kr:KD} {rest:List Stmt}
theorem kA {q:Addr} {ds:List D} {i:Int} {jj:Nat} {d:D} {O':Os} (he:bq X ρ O e d) (ho:bq X ρ O o (.ptr q)) (hi:bq X ρ O i' (.int i)) (hj:M0 ds.length i=some jj) (up:Up O q (.lst ds) (.lst (ds.set jj d)) O') (h:SV X ρ O' rest kn kr)
  (hs:yA [.Subscript o i' p2] e pos.line X.env=pure false:=by rfl) (hw:yB [.Subscript o i' p2] e X.env=pure none:=by rfl) (h1:(gr [.Subscript o i' p2] X.env).map (·.2)=[lh (.Subscript o i' p2) X.env]:=by rfl)
  (ha:∀v,lh (.Subscript o i' p2) X.env v=(do
   let ov<-holding [v] (eval o X.env)
   let iv<-holding [v,ov] (eval i' X.env)
   standAt p2
   holding [v,ov,iv] (AV ov iv v)
   release [v,ov,iv] []):=by intro _;rfl):SV X ρ O (.Assign [.Subscript o i' p2] e pos::rest) kn kr:=ey<| .mk λσ F H E s pn p=>
 PS.to (Gy bV (Ua bV bV MH ha) hs hw h1) (he σ F H _ s λy d1 O1 F1 H1 g su ow ry ⟨q1,q2⟩=>by
  subst q1;subst q2
  refine ho σ F1 H1 _ (s.grow g.ff su ow) λx d2 O2 F2 H2 g2 gX gB rx ⟨q1,q2⟩=>?_
  subst q1;subst q2
  obtain rfl:x=V.ref q:=rx
  refine hi σ F2 H2 _ (s.grow (g.ff.trans g2.ff) gX gB) λz d3 O3 F3 H3 g3 kX kN rz ⟨q1,q2⟩=>?_
  subst q1;subst q2
  obtain⟨_,vs,ha,rr⟩:=kN.at_ _ up.mem
  obtain⟨g4,D8,BO⟩:=nA (o:= .lst (vs.set jj y)) kX kN up ⟨_,cp,rr.set (ry.mono (g2.ff.trans g3.ff)) jj⟩
  exact⟨q,vs,i,jj,rfl,rz,ha,by rw[<-rr.length];exact hj,pn σ ρ O' F3 _ (((g.trans g2).trans g3).trans g4) (s.grow ((g.ff.trans g2.ff).trans g3.ff) D8 BO) h⟩)
theorem E2 {q:Addr} {ds zs:List D} {a b:Int} {O':Os} (he:bq X ρ O e (.lst zs)) (ho:bq X ρ O o (.ptr q)) (hl:bq X ρ O lo (.int a)) (hh:bq X ρ O hi (.int b)) (h0:0<=a) (Zq:a<=b) (hb:b<=ds.length) (hz:ds.length+zs.length<=sizeLine)
  (up:Up O q (.lst ds) (.lst (ds.take a.toNat++zs++ds.drop b.toNat)) O') (h:SV X ρ O' rest kn kr)
  (hs:yA [.Subscript o (.Slice (some lo) (some hi) none p3) p2] e pos.line X.env=pure false:=by rfl) (hw:yB [.Subscript o (.Slice (some lo) (some hi) none p3) p2] e X.env=pure none:=by rfl) (h1:(gr [.Subscript o (.Slice (some lo) (some hi) none p3) p2] X.env).map (·.2)=[lh (.Subscript o (.Slice (some lo) (some hi) none p3) p2) X.env]:=by rfl)
  (ha:∀v,lh (.Subscript o (.Slice (some lo) (some hi) none p3) p2) X.env v=(do
   let ov<-holding [v] (eval o X.env)
   let iv<-holding [v,ov] (eval (.Slice (some lo) (some hi) none p3) X.env)
   standAt p2
   holding [v,ov,iv] (AV ov iv v)
   release [iv,v,ov] []):=by intro _;rfl):SV X ρ O (.Assign [.Subscript o (.Slice (some lo) (some hi) none p3) p2] e pos::rest) kn kr:=ey<| .mk λσ F H E s pn p=>
 PS.to (Gy bV IG hs hw h1) (he σ F H _ s λy d1 O1 F1 H1 g su ow ry ⟨q1,q2⟩=>by
  subst q1;subst q2
  intro pins s1 u I1 ru
  rw[ha]
  refine wpAny_bind (i4 (fb (ho σ F1 H1 (λx H2=>x=V.ref q/\∃F2,dI (cU O1) F1 H1 (cU O1) F2 H2/\bX F2 H2/\cB X.K F2 O1 H2) (s.grow g.ff su ow) (λx d2 O2 F2 H2 g2 gX gB rx ⟨q1,q2⟩=>by subst q1;subst q2;exact⟨rx,F2,g2,gX,gB⟩) pins s1 I1) λov s2 ⟨x,H2,I2,r2,ex,F2,g2,gX,gB⟩=>?_))
  subst ex
  cases r2
  have uN:∀{e:aS} {i:Int} {F2 H2:Hp} {s2:ao},bq X ρ O1 e (.int i)->jE X.K F2 ρ O1 σ H2->bG X pins σ H2 s2->wpAny (aU X.prog X.w) X.A (evalPart (some e) X.env) (λu s'=>∃t H3 F3,u=kP i t/\bG X pins σ H3 s'/\dI (cU O1) F2 H2 (cU O1) F3 H3/\bX F3 H3/\cB X.K F3 O1 H3) X.xe s2:=by
   intro e i F2 H2 s2 hp st I
   rw[evalPart_some]
   refine fb (hp σ F2 H2 (λx H3=>x=V.int i/\∃F3,dI (cU O1) F2 H2 (cU O1) F3 H3/\bX F3 H3/\cB X.K F3 O1 H3) st (λx d2 O2 F3 H3 g3 kX kN rx ⟨q1,q2⟩=>by subst q1;subst q2;exact⟨rx,F3,g3,kX,kN⟩) pins s2 I) λu s3 ⟨x,H3,I3,r3,ex,F3,g3,kX,kN⟩=>?_
   subst ex
   obtain⟨t,rfl⟩:=r3
   exact⟨t,H3,F3,rfl,I3,g3,kX,kN⟩
  refine wpAny_bind (i4 (D0 (fb (uN hl (s.grow (g.ff.trans g2.ff) gX gB) I2) λvl s3 ⟨tl,H3,F3,evl,I3,g3,kX,kN⟩=>fb (uN hh (s.grow ((g.ff.trans g2.ff).trans g3.ff) kX kN) I3) λvu s4 ⟨tu,H4,F4,evu,I4,g4,D8,BO⟩=>?_)))
  subst evl;subst evu
  rw[JC]
  refine wpAny_pure ?_
  have I5:L2.bG X pins σ H4 {s4 with heap:=s4.heap.push {cls:= .type "slice",data:= .fields #[kP a tl,kP b tu,.none]}}:=I4.kept (t':=s4.toks) λb ob q=>au _ q
  refine wpAny_bind (qo (wpAny_bind (i4 ?_)))
  obtain⟨_,vs,hv,rr⟩:=BO.at_ _ up.mem
  obtain⟨r,us,rfl,hr,rz⟩:=ry
  cases ru
  have XQ:=(g2.ff.trans g3.ff).trans g4.ff
  have hr4:=D8 _ _ (XQ _ _ hr)
  have hne:q≠r:=λe=>by
   have:=(BO.at_ _ up.mem).1
   rw[e,XQ _ _ hr]at this;cases this
  have rz4:=rz.mono XQ
  have l1:=rr.length
  have l2:=rz.length
  refine JZ I5 hv hr4 hne (kF ..) ⟨tl,rfl⟩ ⟨tu,rfl⟩ h0 Zq (by lia) (by lia) λs6 I6=>wpAny_release ?_
  obtain⟨g5,su5,ow5⟩:=nA (o:= .lst (vs.take a.toNat++us++vs.drop b.toNat)) D8 BO up ⟨_,cp,((rr.take _).append rz4).append (rr.drop _)⟩
  exact⟨σ,_,I6,pn σ ρ O' F4 _ ((((g.trans g2).trans g3).trans g4).trans g5) (s.grow (g.ff.trans XQ) su5 ow5) h⟩)
end
def gj {α:Type} (ds:List α) (l h w:Option Int):List α:=(Sw (e9 l h w ds.length).1 (e9 l h w ds.length).2.1 (e9 l h w ds.length).2.2).filterMap (ds[·]?)
theorem cg.pick {K:ag} {F:Hp} {ds:List D} {vs:List V} (r:cg K F ds vs):∀ix:List Nat,cg K F (ix.filterMap (ds[·]?)) (ix.filterMap (vs[·]?))
 |[]=> .nil
 |i::ix=>by
  have ih:=cg.pick r ix
  rw[eH,eH]
  cases e:ds[i]?with
  |none=>
   have:vs[i]? =none:=bu (by rw[<-r.length];exact ni.mp e)
   rw[this];exact ih
  |some d=>
   obtain⟨v,h1,h2⟩:=r.get e
   rw[h1];exact .cons h2 ih
theorem b8.pick {vs:List V} {bW:List Value} (r:b8 vs bW):∀ix:List Nat,b8 (ix.filterMap (vs[·]?)) (ix.filterMap (bW[·]?))
 |[]=> .nil
 |i::ix=>by
  have ih:=b8.pick r ix
  rw[eH,eH]
  cases e:vs[i]?with
  |none=>rw[r.none_of e];exact ih
  |some d=>
   obtain⟨v,h1,h2⟩:=r.get e
   rw[h1];exact .cons h2 ih
section
variable {X:Cx} {ρ:dk} {O:Os} {a:aS} {pos p2:Pos} {ds:List D}
theorem Pc {lo hi:Option aS} {st:aS} {l h w:Option Int} (ha:bq X ρ O a (.lst ds)) (hl:OV X ρ O lo l) (hh:OV X ρ O hi h) (hw:OV X ρ O (some st) w) (h0:w≠some 0):cD X ρ O (.Subscript a (.Slice lo hi (some st) p2) pos) (gj ds l h w):= .mk λσ F H Q s p=>by
 have uN:∀{e:Option aS} {o:Option Int},OV X ρ O e o->∃t:TO,PO X e t/\∀σ F H (Q:Option Int->Hp->Prop),jE X.K F ρ O σ H->(∀F' H',dI (cU O) F H (cU O) F' H'->bX F' H'->cB X.K F' O H'->Q o H')->t σ H Q:=by
  intro e o h
  cases e with
  |none=>cases (show o=none from h);exact⟨_,vd,λσ F H Q s q=>q F H .refl s.sub s.own⟩
  |some e=>
   obtain⟨i,rfl,h⟩:=h
   exact⟨_,vh bV,λσ F H Q s q=>h σ F H _ s λv d O1 F1 H1 g su ow r ⟨q1,q2⟩=>by subst q1;subst q2;exact⟨i,r,q F1 H1 g su ow⟩⟩
 obtain⟨t1,pl,h1⟩:=uN hl
 obtain⟨t2,ph,h2⟩:=uN hh
 obtain⟨t3,pw,h3⟩:=uN hw
 intro pins s0 I0
 refine xZ (fb (ha σ F H (λx H1=>∃F1,dI (cU O) F H (cU O) F1 H1/\bX F1 H1/\cB X.K F1 O H1/\sP X.K F1 (.lst ds) x) s (λx d O1 F1 H1 g su ow r ⟨q1,q2⟩=>by subst q1;subst q2;exact⟨F1,g,su,ow,r⟩) pins s0 I0) λv s1 ⟨x,H1,I1,r1,F1,g1,L8,Lw,rx⟩=>?_)
 refine D0 (fb (pl pins s1 σ H1 _ I1 (h1 σ F1 H1 (λo H2=>o=l/\∃F2,dI (cU O) F1 H1 (cU O) F2 H2/\bX F2 H2/\cB X.K F2 O H2) (s.grow g1.ff L8 Lw) λF2 H2 g su ow=>⟨rfl,F2,g,su,ow⟩)) λvl s2 ⟨o2,H2,I2,il,Y9,F2,g2,gX,gB⟩=>?_)
 subst Y9
 refine fb (ph pins s2 σ H2 _ I2 (h2 σ F2 H2 (λo H3=>o=h/\∃F3,dI (cU O) F2 H2 (cU O) F3 H3/\bX F3 H3/\cB X.K F3 O H3) (s.grow (g1.ff.trans g2.ff) gX gB) λF2 H2 g su ow=>⟨rfl,F2,g,su,ow⟩)) λvu s3 ⟨o3,H3,I3,ih,eo3,F3,g3,kX,kN⟩=>?_
 subst eo3
 refine fb (pw pins s3 σ H3 _ I3 (h3 σ F3 H3 (λo H4=>o=w/\∃F4,dI (cU O) F3 H3 (cU O) F4 H4/\bX F4 H4/\cB X.K F4 O H4) (s.grow ((g1.ff.trans g2.ff).trans g3.ff) kX kN) λF2 H2 g su ow=>⟨rfl,F2,g,su,ow⟩)) λvw s4 ⟨o4,H4,I4,iw,Yd,F4,g4,D8,BO⟩=>?_
 subst Yd
 have I5:L2.bG X pins σ H4 {s4 with heap:=s4.heap.push {cls:= .type "slice",data:= .fields #[vl,vu,vw]}}:=I4.kept (t':=s4.toks) λb ob q=>au _ q
 obtain⟨q,vs,rfl,hv,rr⟩:=rx
 cases r1
 have f:=(g2.ff.trans g3.ff).trans g4.ff
 have hv4:=D8 _ _ (f _ _ hv)
 obtain⟨bW,rv,ht,hz⟩:=I5.list (iL.of hv4)
 have hlen:=rv.length
 show wpAny (aU X.prog X.w) X.A (wo a (.Slice lo hi (some st) p2) (.ref q) (.ref s4.heap.objs.size)) (EP X pins σ Q) X.xe _
 refine zj (ops:=[.ref q,.ref s4.heap.objs.size]) ht.isList.typeIs qc.lookup ?_ (by with_unfolding_all rfl)
 refine qt ht.isList (kF ..) il ih iw h0 ?_ (by rw[aG];omega)
 have e1:xk bW.toArray o2 o3 o4=(gj bW o2 o3 o4).toArray:=by
  unfold xk gj
  simp
 have hsz:=Ve bW.toArray o2 o3 o4
 rw[e1]at hsz⊢
 have rl:=rr.length
 have pk:b8 (gj vs o2 o3 o4) (gj bW o2 o3 o4):=by
  unfold gj
  rw[<-hlen]
  exact b8.pick rv _
 have Zu:cg X.K F4 (gj ds o2 o3 o4) (gj vs o2 o3 o4):=by
  unfold gj
  rw[<-rl]
  exact(rr.mono f).pick _
 have Av:(gj vs o2 o3 o4).length<=sizeLine:=by
  rw[pk.length]
  simp only[aG]at hsz
  omega
 refine⟨.ref (s4.heap.push _).objs.size,_,I5.laid (t':=s4.toks) (o:= .lst (gj vs o2 o3 o4)) (λb ob q=>au _ q) (aO _) ?_,rfl,jn D8 BO Zu (p.after (((g1.trans g2).trans g3).trans g4)) _ (I5.hok.fresh (aO _))⟩
 exact⟨Av,_,0,pk,aK _ rfl⟩
end
structure ZS where
 it:Addr
 l:Addr
 tp:Bool
def ZS.It (q:ZS) (h:Heap) (k:Nat):Prop:=if q.tp=true then h.IsTupleIter q.it q.l k else h.IsListIter q.it q.l k
def ZS.Sq (q:ZS) (h:Heap) (xs:Array Value):Prop:=if q.tp=true then h.IsTuple q.l xs else h.IsList q.l xs
def ZS.Has (q:ZS) (h:Heap) (m:Nat) (v:Value):Prop:=∃xs,q.Sq h xs/\xs[m]? =some v
theorem ZS.It.at {q:ZS} {h h':Heap} {k:Nat} (x:q.It h k) (e:∀o,h.get? q.it=some o->h'.get? q.it=some o):q.It h' k:=by
 unfold ZS.It at x⊢
 split at x
 ·rename_i c;rw[if_pos c];exact x.at e
 ·rename_i c;rw[if_neg c];exact x.at e
theorem ZS.Sq.at {q:ZS} {h h':Heap} {xs:Array Value} (x:q.Sq h xs) (e:∀o,h.get? q.l=some o->h'.get? q.l=some o):q.Sq h' xs:=by
 unfold ZS.Sq at x⊢
 split at x
 ·rename_i c;rw[if_pos c];obtain⟨o,ho,r⟩:=x;exact⟨o,e _ ho,r⟩
 ·rename_i c;rw[if_neg c];obtain⟨o,ho,r⟩:=x;exact⟨o,e _ ho,r⟩
theorem ZS.Has.at {q:ZS} {h h':Heap} {m:Nat} {v:Value} (x:q.Has h m v) (e:∀o,h.get? q.l=some o->h'.get? q.l=some o):q.Has h' m v:=let ⟨xs,a,b⟩:=x;⟨xs,a.at e,b⟩
theorem ZS.It.there {q:ZS} {h:Heap} {k:Nat} (x:q.It h k):∃o vs,h.get? q.it=some o/\o.data= .fields vs:=by
 unfold ZS.It at x
 split at x
 ·obtain⟨o,ho,_,hd⟩:=x;exact⟨o,_,ho,hd⟩
 ·obtain⟨o,ho,_,hd⟩:=x;exact⟨o,_,ho,hd⟩
section
variable {prog:bR} {w:du} {A:cG} {E:Value->ao->Prop} {s:ao}
theorem v8 {it t:Addr} {i:Nat} {items} {x:Value} {Q:Value->ao->Prop} (hit:s.heap.IsTupleIter it t i) (ht:s.heap.IsTuple t items) (hx:items[i]? =some x)
  (hQ:∀h',h'.IsTupleIter it t (i+1)->jd it s.heap h'->Q x {s with heap:=h'}):wpAny (aU prog w) A (cE (.ref it)) Q E s:=by
 obtain⟨o,ho,hc,hd⟩:=id hit
 obtain⟨ol,XT,_,nl,TJ⟩:=ht
 unfold cE
 refine wpAny_bind (eC (name:=kq "__next__") hit.typeIs jh
  (f7 jh hit.typeIs D2 ?_ (CM _)))
 show wpAny _ _ (Lr (.ref it) 0>>=_) _ _ s
 refine wpAny_bind (b9 ho hd (x:= .ref t) rfl ?_)
 show wpAny _ _ (if (bt t==cK)=true then _ else _) _ _ s
 rw[if_neg (show ¬((bt t==cK)=true)from aw)]
 show wpAny _ _ (Lr (.ref it) 1>>=_) _ _ s
 refine wpAny_bind (b9 ho hd (x:= .int i 0) rfl ?_)
 show wpAny _ _ (seqItems? (.ref t)>>=_) _ _ s
 refine wpAny_bind (ik XT TJ ?_)
 simp only[bC,hx]
 refine wpAny_bind (ju ho hd (by simp) (wpAny_pure ⟨x,rfl,wpAny_pure (hQ _ ?_ (f9 ..))⟩))
 exact⟨_,fX _ ho (k9 (fc hd _)),(OJ ..).trans hc,by
  rw[fc hd];simp[rawInt]⟩
theorem wD {it t:Addr} {i:Nat} {items} {Q:Value->ao->Prop} (hh:A.handled=none) (hit:s.heap.IsTupleIter it t i) (ht:s.heap.IsTuple t items) (hx:items[i]? =none)
  (hE:∀h' e,zl it s.heap h'->(∃o,h'.get? e=some o/\o.cls= .type "StopIteration")->E (.ref e) {s with heap:=h'}):wpAny (aU prog w) A (cE (.ref it)) Q E s:=by
 obtain⟨o,ho,hc,hd⟩:=id hit
 obtain⟨ol,XT,_,nl,TJ⟩:=ht
 unfold cE
 refine wpAny_bind (eC (name:=kq "__next__") hit.typeIs jh
  (f7 jh hit.typeIs D2 ?_ (CM _)))
 show wpAny _ _ (Lr (.ref it) 0>>=_) _ _ s
 refine wpAny_bind (b9 ho hd (x:= .ref t) rfl ?_)
 show wpAny _ _ (if (bt t==cK)=true then _ else _) _ _ s
 rw[if_neg (show ¬((bt t==cK)=true)from aw)]
 show wpAny _ _ (Lr (.ref it) 1>>=_) _ _ s
 refine wpAny_bind (b9 ho hd (x:= .int i 0) rfl ?_)
 show wpAny _ _ (seqItems? (.ref t)>>=_) _ _ s
 refine wpAny_bind (ik XT TJ ?_)
 simp only[bC,hx]
 refine wpAny_bind (zb (wpAny_bind (ju ho hd (by simp) ?_)))
 show wpAny _ _ (newExc (.type "StopIteration") []>>=_) _ _ _
 refine wpAny_bind ?_
 simp only[newExc,newTuple]
 refine wpAny_bind (fI ?_ (by size_fits))
 refine wpAny_bind (m:=wC _ _) (iE (a:=cK) (by first|rfl|(simp only[wC];rfl)) ?_)
 refine fI ?_ (by size_fits)
 simp only[raiseNew]
 refine wpAny_bind (wpAny_handled ?_)
 first|rw[show A.in1.handled=none from hh]|rw[hh]
 refine wpAny_bind (wpAny_pure (wpAny_throw ?_))
 exact hE _ _ (((f9 ..).extBut.push _).push _) ⟨_,aK _ rfl,rfl⟩
theorem GY {q:ZS} {k:Nat} {x:Value} {Q:Value->ao->Prop} (hi:q.It s.heap k) (hl:q.Has s.heap k x) (hQ:∀h',q.It h' (k+1)->jd q.it s.heap h'->Q x {s with heap:=h'}):
  wpAny (aU prog w) A (cE (.ref q.it)) Q E s:=by
 unfold ZS.It at hi hQ
 obtain⟨xs,hl,hx⟩:=hl
 unfold ZS.Sq at hl
 by_cases c:q.tp=true
 ·simp only[c,if_true]at hi hl hQ
  exact v8 hi hl hx hQ
 ·simp only[c,if_false]at hi hl hQ
  exact wpAny_nextOf_list_item hi hl hx hQ
theorem J2 {q:ZS} {k:Nat} {xs:Array Value} {Q:Value->ao->Prop} (hh:A.handled=none) (hi:q.It s.heap k) (hl:q.Sq s.heap xs) (hx:xs[k]? =none)
  (hE:∀h' e,zl q.it s.heap h'->(∃o,h'.get? e=some o/\o.cls= .type "StopIteration")->E (.ref e) {s with heap:=h'}):wpAny (aU prog w) A (cE (.ref q.it)) Q E s:=by
 unfold ZS.It at hi
 unfold ZS.Sq at hl
 by_cases c:q.tp=true
 ·simp only[c,if_true]at hi hl
  exact wD hh hi hl hx hE
 ·simp only[c,if_false]at hi hl
  exact wpAny_nextOf_list_end hh hi hl hx hE
abbrev nU (h:Heap) (T:Addr) (a:Array Value):Prop:=h.get? T=some {cls:= .type "tuple",data:= .seq a}
theorem S0 {T:Addr} {a:Array Value} {x:Value} {k:Nat} {Q:Unit->ao->Prop} (hT:nU s.heap T a) (hz:a.size<=sizeLine)
  (h:∀h',nU h' T (a.setIfInBounds k x)->jd T s.heap h'->Q () {s with heap:=h'}):wpAny (aU prog w) A (updateSeq T (·.setIfInBounds k x)) Q E s:=by
 refine wpAny_updateSeq (hz:=by lia) (_hz':=by rw[nv];lia) hT rfl (h _ ?_ (f9 ..))
 show(s.heap.update T _).get? T=_
 rw[fX _ hT rfl]
 simp[mY]
structure Vz (zs:List ZS) (z TI TO:Addr):Prop where
 nd:(zs.map (·.it)).Nodup
 ap:∀q∈zs,q.it≠z/\q.it≠TO/\q.it≠TI/\q.l≠z/\q.l≠TO/\∀r∈zs,q.l≠r.it
 TIz:TI≠z
 TOz:TO≠z
 TITO:TI≠TO
theorem Xi {β:Type} {f:Value×Nat->β->Sem (ForInStep β)} {b:β} {z TI TO:Addr} {m:Nat} {x:ZS->Value}
  (hf:∀(q:ZS) (k:Nat) (a:Array Value) (s:ao) (Q:ForInStep β->ao->Prop),q.it≠TO->q.It s.heap m->q.Has s.heap m (x q)->nU s.heap TO a->a.size<=sizeLine->
   (∀h',q.It h' (m+1)->nU h' TO (a.setIfInBounds k (x q))->(∀c,c≠q.it->c≠TO->h'.get? c=s.heap.get? c)->h'.objs.size=s.heap.objs.size->Q (.yield b) {s with heap:=h'})->
   wpAny (aU prog w) A (f (.ref q.it,k) b) Q E s):
  ∀(zs:List ZS) (k:Nat) (a:Array Value) (s:ao) (Q:β->ao->Prop),(zs.map (·.it)).Nodup->(∀q∈zs,q.it≠TO/\q.l≠TO/\∀r∈zs,q.l≠r.it)->(∀q∈zs,q.It s.heap m/\q.Has s.heap m (x q))->
   nU s.heap TO a->a.size=k+zs.length->a.size<=sizeLine->
   (∀h',(∀q∈zs,q.It h' (m+1))->nU h' TO (a.toList.take k++zs.map x).toArray->(∀c,c∉zs.map (·.it)->c≠TO->h'.get? c=s.heap.get? c)->h'.objs.size=s.heap.objs.size->Q b {s with heap:=h'})->
   wpAny (aU prog w) A (forIn ((zs.map λq=>bt q.it).zipIdx k) b f) Q E s:=by
 intro zs
 induction zs with
 |nil=>
  intro k a s Q _ _ _ hT hs _ hQ
  rw[fG,List.zipIdx_nil,sS]
  refine wpAny_pure ?_
  have:=hQ s.heap (λ_ h=>absurd h (by simp)) (by
   rw[fG,br,cz (by simp at hs⊢;lia)]
   exact hT) (λ_ _ _=>rfl) rfl
  exact this
 |cons q zs ih=>
  intro k a s Q nd ap hi hT hs hz hQ
  rw[bg,OK,qx]
  obtain⟨h1,h2⟩:=hi q ae
  obtain⟨a1,a2,a3⟩:=ap q ae
  refine wpAny_bind (hf q k a s _ a1 h1 h2 hT hz λh' g1 g2 g3 g4=>?_)
  have Vh:=bc.mp nd
  have hne:∀r∈zs,r.it≠q.it:=λr hr e=>Vh.1 (ay.mpr ⟨r,hr,e⟩)
  refine ih (k+1) (a.setIfInBounds k (x q)) {s with heap:=h'} Q Vh.2 (λr hr=>⟨(ap r (ai _ hr)).1,(ap r (ai _ hr)).2.1,λt ht=>(ap r (ai _ hr)).2.2 t (ai _ ht)⟩) (λr hr=>?_) g2
   (by rw[nv,hs,aJ];lia) (by rw[nv];exact hz) λJR k1 k2 k3 k4=>?_
  ·obtain⟨r1,r2⟩:=hi r (ai _ hr)
   obtain⟨b1,b2,b3⟩:=ap r (ai _ hr)
   exact⟨r1.at λo e=>(g3 _ (hne r hr) b1).trans e,r2.at λo e=>(g3 _ (b3 q ae) b2).trans e⟩
  ·have jb:k<a.size:=by rw[hs,aJ];lia
   have e1:(a.setIfInBounds k (x q)).toList.take (k+1)=a.toList.take k++[x q]:=by
    rw[Array.toList_setIfInBounds,gD (by simpa using jb),rW,List.take_set_of_le (aO _)]
   rw[e1,bM]at k2
   refine hQ JR (λr hr=>?_) k2 (λc hc hcT=>?_) (k4.trans g4)
   ·rcases aB.mp hr with rfl|hr
    ·refine g1.at λo e=>(k3 _ (λhm=>Vh.1 hm) a1).trans e
    ·exact k1 r hr
   ·rw[bg,aB,not_or]at hc
    exact(k3 c hc.2 hcT).trans (g3 c hc.1 hcT)
theorem Lk {zs:List ZS} {z TI TO:Addr} {m:Nat} {x:ZS->Value} {a:Array Value} {Q:Value->ao->Prop} (ok:Vz zs z TI TO) (hne:zs≠[])
  (hz:IsZip s.heap z TI TO .none) (vf:nU s.heap TI (zs.map λq=>bt q.it).toArray) (AS:nU s.heap TO a) (ha:a.size=zs.length) (hsz:a.size<=sizeLine)
  (hi:∀q∈zs,q.It s.heap m/\q.Has s.heap m (x q))
  (hQ:∀h',IsZip h' z TI TO (rawInt s.heap.objs.size)->nU h' TO (zs.map x).toArray->(∀q∈zs,q.It h' (m+1))->nU h' s.heap.objs.size (zs.map x).toArray->h'.objs.size=s.heap.objs.size+1->
   (∀c o,c≠z->c≠TO->c∉zs.map (·.it)->s.heap.get? c=some o->h'.get? c=some o)->Q (.ref s.heap.objs.size) {s with heap:=h'}):
  wpAny (aU prog w) A (lj.«zip.__next__» ⟨[.ref z],[]⟩) (λfin s'=>∃v,fin= .done (.ret v)/\Q v s') E s:=by
 show wpAny _ _ (Lr (.ref z) 2>>=_) _ _ _
 refine wpAny_bind (b9 hz rfl (x:= .bool false) rfl ?_)
 show wpAny _ _ (Lr (.ref z) 3>>=_) _ _ _
 refine wpAny_bind (b9 hz rfl (x:= .ref TI) rfl ?_)
 refine wpAny_bind (ik vf rfl ?_)
 have Ys:(zs.map λq=>bt q.it).toArray.isEmpty=false:=by
  cases zs with
  |nil=>exact absurd rfl hne
  |cons q zs=>simp
 simp only[Ys,cq,if_false]
 show wpAny _ _ (eY (.ref z)>>=_) _ _ _
 refine wpAny_bind ?_
 unfold eY
 refine wpAny_bind (b9 hz rfl (x:= .none) rfl (wpAny_pure ?_))
 simp only[if_true]
 refine wpAny_bind (zb ?_)
 refine wpAny_bind (b9 hz rfl (x:= .ref TO) rfl ?_)
 refine wpAny_bind (kv hz (by simp) λh₁ TZ QB=>?_)
 replace TZ:IsZip h₁ z TI TO .ellipsis:=TZ
 refine wpAny_bind ?_
 refine Xi (z:=z) (TI:=TI) (TO:=TO) (m:=m) (x:=x) (λq k a s Q hqT g1 g2 g4 g5 g6=>?_) zs 0 a {s with heap:=h₁} _ ok.nd (λq hq=>⟨(ok.ap q hq).2.1,(ok.ap q hq).2.2.2.2.1,(ok.ap q hq).2.2.2.2.2⟩)
  (λq hq=>⟨(hi q hq).1.at λo e=>(QB.2 _ (ok.ap q hq).1).trans e,(hi q hq).2.at λo e=>(QB.2 _ (ok.ap q hq).2.2.2.1).trans e⟩) ((QB.2 _ ok.TOz).trans AS) (by rw[ha];lia) hsz λh₂ k1 k2 k3 k4=>?_
 ·refine wpAny_bind (wpAny_onRaise ?_)
  show wpAny _ _ (cE (.ref q.it)>>=_) _ _ _
  refine wpAny_bind (GY g1 g2 λh' j1 j2=>wpAny_pure ?_)
  have hT':nU h' TO a:=(j2.2 _ (iy hqT)).trans g4
  refine wpAny_bind (ik hT' rfl ?_)
  refine wpAny_bind (S0 (s:={s with heap:=h'}) hT' g5 λJR j3 j4=>?_)
  refine wpAny_bind (wpAny_letGo (wpAny_pure ?_))
  exact g6 JR (j1.at λo e=>(j4.2 _ hqT).trans e) j3 (λc c1 c2=>(j4.2 _ c2).trans (j2.2 _ c1)) (j4.1.trans j2.1)
 ·dsimp only
  rw[List.take_zero,lP]at k2
  refine wpAny_bind (ik k2 rfl ?_)
  refine wpAny_bind (wpAny_newTuple ?_)
  have W5:h₂.objs.size=s.heap.objs.size:=k4.trans QB.1
  have WN:IsZip h₂ z TI TO .ellipsis:=(k3 z (λhm=>by
   obtain⟨q,hq,e⟩:=ay.mp hm
   exact(ok.ap q hq).1 e) (iy ok.TOz)).trans TZ
  have WX:z<h₂.objs.size:=aN WN
  show wpAny _ _ (mx (.ref z) (.ref h₂.objs.size)>>=_) _ _ _
  refine wpAny_bind ?_
  unfold mx
  have hz₃:IsZip (h₂.push {cls:= .type "tuple",data:= .seq (zs.map x).toArray}) z TI TO .ellipsis:=au _ WN
  refine wpAny_bind (kv hz₃ (by simp) λh₄ Y6 Yn=>?_)
  replace Y6:IsZip h₄ z TI TO (rawInt h₂.objs.size):=Y6
  refine kv Y6 (by simp) λh₅ Xu ZD=>?_
  replace Xu:IsZip h₅ z TI TO (rawInt h₂.objs.size):=Xu
  have up:∀c o,c≠z->h₂.get? c=some o->h₅.get? c=some o:=λc o c1 e=>(ZD.2 _ c1).trans ((Yn.2 _ c1).trans (au _ e))
  have hT₅:nU h₅ h₂.objs.size (zs.map x).toArray:=(ZD.2 _ (qp WX)).trans ((Yn.2 _ (qp WX)).trans (aK _ rfl))
  have hz5:h₅.objs.size=h₂.objs.size+1:=by rw[ZD.1,Yn.1,bz]
  rw[W5]at Xu hT₅ hz5
  refine wpAny_pure ⟨_,rfl,?_⟩
  show Q (.ref h₂.objs.size) _
  rw[W5]
  exact hQ h₅ Xu (up _ _ ok.TOz k2) (λq hq=>(k1 q hq).at λo e=>up _ o (ok.ap q hq).1 e) hT₅ hz5 λc o c1 c2 c3 e=>up c o c1 ((k3 c c3 c2).trans ((QB.2 _ c1).trans e))
theorem Mc {q:ZS} {zs:List ZS} {z TI TO:Addr} {m:Nat} {xs:Array Value} {Q:Fin->ao->Prop} (hh:A.handled=none) (ok:Vz (q::zs) z TI TO)
  (hz:IsZip s.heap z TI TO .none) (vf:nU s.heap TI ((q::zs).map λq=>bt q.it).toArray) (hi:q.It s.heap m) (hl:q.Sq s.heap xs) (hx:xs[m]? =none)
  (hE:∀h' e,(∀c o,c≠z->c≠q.it->s.heap.get? c=some o->h'.get? c=some o)->(∃o,h'.get? e=some o/\o.cls= .type "StopIteration")->E (.ref e) {s with heap:=h'}):
  wpAny (aU prog w) A (lj.«zip.__next__» ⟨[.ref z],[]⟩) Q E s:=by
 obtain⟨p1,p2,p3,p4,p5,_⟩:=ok.ap q ae
 show wpAny _ _ (Lr (.ref z) 2>>=_) _ _ _
 refine wpAny_bind (b9 hz rfl (x:= .bool false) rfl ?_)
 show wpAny _ _ (Lr (.ref z) 3>>=_) _ _ _
 refine wpAny_bind (b9 hz rfl (x:= .ref TI) rfl ?_)
 refine wpAny_bind (ik vf rfl ?_)
 have Ys:((q::zs).map λq=>bt q.it).toArray.isEmpty=false:=by simp
 simp only[Ys,cq,if_false]
 show wpAny _ _ (eY (.ref z)>>=_) _ _ _
 refine wpAny_bind ?_
 unfold eY
 refine wpAny_bind (b9 hz rfl (x:= .none) rfl (wpAny_pure ?_))
 simp only[if_true]
 refine wpAny_bind (zb ?_)
 refine wpAny_bind (b9 hz rfl (x:= .ref TO) rfl ?_)
 refine wpAny_bind (kv hz (by simp) λh₁ TZ QB=>?_)
 replace TZ:IsZip h₁ z TI TO .ellipsis:=TZ
 refine wpAny_bind ?_
 simp only[bg,OK,qx]
 refine wpAny_bind (wpAny_bind (wpAny_onRaise ?_))
 show wpAny _ _ (cE (.ref q.it)>>=_) _ _ _
 refine wpAny_bind (J2 hh (hi.at λo e=>(QB.2 _ p1).trans e) (hl.at λo e=>(QB.2 _ p4).trans e) hx λh₂ e hs₂ he=>?_)
 obtain⟨oe,VX,RK⟩:=he
 have WN:IsZip h₂ z TI TO .ellipsis:=hs₂ _ _ (iy p1) TZ
 have hez:e≠z:=λx=>by subst x;rw[WN]at VX;cases VX;simp at RK
 exact kv WN (by simp) λh₃ _ hs₃=>hE h₃ e (λc o c1 c3 x=>hs₃.extBut _ _ c1 (hs₂ _ _ c3 (QB.extBut _ _ c1 x))) ⟨oe,hs₃.extBut _ _ hez VX,RK⟩
theorem Fv {zs:List ZS} {z TI TO:Addr} {m:Nat} {x:ZS->Value} {a:Array Value} {Q:Option Value->ao->Prop} (ok:Vz zs z TI TO) (hne:zs≠[])
  (hz:IsZip s.heap z TI TO .none) (vf:nU s.heap TI (zs.map λq=>bt q.it).toArray) (AS:nU s.heap TO a) (ha:a.size=zs.length) (hsz:a.size<=sizeLine)
  (hi:∀q∈zs,q.It s.heap m/\q.Has s.heap m (x q))
  (hQ:∀h',IsZip h' z TI TO (rawInt s.heap.objs.size)->nU h' TO (zs.map x).toArray->(∀q∈zs,q.It h' (m+1))->nU h' s.heap.objs.size (zs.map x).toArray->h'.objs.size=s.heap.objs.size+1->
   (∀c o,c≠z->c≠TO->c∉zs.map (·.it)->s.heap.get? c=some o->h'.get? c=some o)->Q (some (.ref s.heap.objs.size)) {s with heap:=h'}):wpAny (aU prog w) A (t5 (.ref z)) Q E s:=by
 have hT:s.TypeIs (.ref z) "zip":=⟨_,hz,rfl⟩
 unfold t5
 exact wpAny_bind (qC (eC (name:=kq "__next__") hT sV
  (f7 sV hT Sx
   (Lk ok hne hz vf AS ha hsz hi λh' a1 a2 a3 a4 a5 a6=>wpAny_pure (hQ h' a1 a2 a3 a4 a5 a6)) (Ry _))))
theorem yd {q:ZS} {zs:List ZS} {z TI TO:Addr} {m:Nat} {xs:Array Value} {Q:Option Value->ao->Prop} (hh:A.handled=none) (ok:Vz (q::zs) z TI TO)
  (hz:IsZip s.heap z TI TO .none) (vf:nU s.heap TI ((q::zs).map λq=>bt q.it).toArray) (hi:q.It s.heap m) (hl:q.Sq s.heap xs) (hx:xs[m]? =none)
  (hQ:∀h',(∀c o,c≠z->c≠q.it->s.heap.get? c=some o->h'.get? c=some o)->Q none {s with heap:=h'}):wpAny (aU prog w) A (t5 (.ref z)) Q E s:=by
 have hT:s.TypeIs (.ref z) "zip":=⟨_,hz,rfl⟩
 unfold t5
 refine wpAny_bind (qC (eC (name:=kq "__next__") hT sV
  (f7 sV hT Sx (Mc hh ok hz vf hi hl hx λh' e hk he=>?_) (Ry _))))
 obtain⟨o,ho,hc⟩:=he
 refine wpAny_bind (CN (T:="StopIteration") (b:=true) ⟨o,ho,hc⟩ isSubtype_stop ?_)
 exact wpAny_pure (hQ _ hk)
end
def zO (K:ag) (H:Hp) (q:ZS) (vs:List V):Prop:=if q.tp=true then o8 K H q.l vs else iL K H q.l vs
def NF (K:ag) (zs:List ZS):It:=
 ⟨λi H=>∀q∈zs,∃vs v,zO K H q vs/\vs[i]? =some v,
  λi H v H'=>∃T ws,v= .ref T/\H T=none/\H'=fC H T (.tup ws)/\Paired (λq w=>∀vs,zO K H q vs->vs[i]? =some w) zs ws,
  λi H=>∃q r vs,zs=q::r/\zO K H q vs/\vs.length<=i⟩
section
variable {X:Cx} {pins:List (Addr×Obj)} {σ:St} {H:Hp} {s:ao}
theorem zO.sq {q:ZS} {vs:List V} (I:L2.bG X pins σ H s) (h:zO X.K H q vs):∃bW:List Value,b8 vs bW/\q.Sq s.heap bW.toArray/\vs.length<=sizeLine:=by
 unfold zO at h
 unfold ZS.Sq
 by_cases c:q.tp=true
 ·simp only[c,if_true]at h⊢
  obtain⟨bW,r,p,z⟩:=I.tuple h
  exact⟨bW,r,p,z⟩
 ·simp only[c,if_false]at h⊢
  obtain⟨bW,r,p,z⟩:=I.list h
  exact⟨bW,r,p.isList,z⟩
theorem zO.inj {q:ZS} {vs us:List V} (I:L2.bG X pins σ H s) (h:zO X.K H q vs) (h':zO X.K H q us):vs=us:=by
 unfold zO at h h'
 by_cases c:q.tp=true
 ·simp only[c,if_true]at h h'
  exact I.tuple_inj h h'
 ·simp only[c,if_false]at h h'
  exact I.list_inj h h'
theorem EC (I:L2.bG X pins σ H s) (i:Nat):∀zs:List ZS,(∀q∈zs,∃vs v,zO X.K H q vs/\vs[i]? =some v)->(zs.map (·.it)).Nodup->
  ∃(x:ZS->Value) (ws:List V),(∀q∈zs,q.Has s.heap i (x q))/\b8 ws (zs.map x)/\Paired (λq w=>∀vs,zO X.K H q vs->vs[i]? =some w) zs ws
 |[],_,_=>⟨λ_=> .none,[],λ_ h=>absurd h (by simp),.nil,.nil⟩
 |q::zs,h,nd=>by
  obtain⟨vs,v,h1,h2⟩:=h q ae
  obtain⟨bW,r,sq,_⟩:=zO.sq I h1
  obtain⟨u,hu,ru⟩:=r.get h2
  have Vh:=bc.mp nd
  obtain⟨x,ws,k1,k2,k3⟩:=EC I i zs (λr hr=>h r (ai _ hr)) Vh.2
  have hne:∀r∈zs,r.it≠q.it:=λr hr e=>Vh.1 (ay.mpr ⟨r,hr,e⟩)
  refine⟨λr=>if r.it=q.it then u else x r,v::ws,λr hr=>?_,?_,.cons (λLx h'=>by rw[zO.inj I h' h1];exact h2) k3⟩
  ·rcases aB.mp hr with rfl|hr
   ·simp only[if_true];exact⟨bW.toArray,sq,by simpa using hu⟩
   ·simp only[hne r hr,if_false];exact k1 r hr
  ·rw[bg]
   simp only[if_true]
   have e:zs.map (λr=>if r.it=q.it then u else x r)=zs.map x:=aW λr hr=>by simp only[hne r hr,if_false]
   rw[e]
   exact .cons ru k2
end
theorem Ku {P:bR} {w:du} {K:ag} {elts:List aS} {kk:Nat} {n8:Pos} {zs:List ZS} {z TI TO:Addr} (ok:Vz zs z TI TO) (hne:zs≠[]) (hsz:zs.length<=sizeLine):
  DG P w K (.Tuple elts kk n8) (NF K zs) (z::TI::TO::zs.map (·.it)) z (λi h=>IsZip h z TI TO .none/\nU h TI (zs.map λq=>bt q.it).toArray/\(∃a,nU h TO a/\a.size=zs.length)/\∀q∈zs,q.It h i) where
 mem:=by simp
 obj:=λi h st c hc=>by
  obtain⟨hz,vf,⟨a,AS,_⟩,hi⟩:=st
  rcases aB.mp hc with rfl|hc
  ·exact⟨_,hz,λv q=>nomatch q⟩
  rcases aB.mp hc with rfl|hc
  ·exact⟨_,vf,λv q=>nomatch q⟩
  rcases aB.mp hc with rfl|hc
  ·exact⟨_,AS,λv q=>nomatch q⟩
  obtain⟨q,hq,rfl⟩:=ay.mp hc
  obtain⟨o,vs,ho,hd⟩:=(hi q hq).there
  exact⟨o,ho,λv e=>by rw[hd]at e;cases e⟩
 keep:=λi h h' st k=>by
  obtain⟨hz,vf,⟨a,AS,ha⟩,hi⟩:=st
  exact⟨k z (by simp) _ hz,k TI (by simp) _ vf,⟨a,k TO (by simp) _ AS,ha⟩,λq hq=>(hi q hq).at λo e=>k q.it (ai _ (ai _ (ai _ (ay.mpr ⟨q,hq,rfl⟩)))) o e⟩
 item:=by
  intro X hP hw hK hc i pins s σ H E I hf st hg
  subst hP hw hK
  obtain⟨hz,vf,⟨a,AS,ha⟩,hi⟩:=st
  obtain⟨x,ws,k1,k2,k3⟩:=EC I i zs hg ok.nd
  have WS:z<s.heap.objs.size:=aN hz
  have VN:ws.length<=sizeLine:=by rw[k2.length,ah];exact hsz
  refine Fv ok hne hz vf AS ha (by lia) (λq hq=>⟨hi q hq,k1 q hq⟩) λh' z' ZV Ly hT XS hk=>?_
  refine⟨_,rfl,HZ (s:={s with heap:=h'}) z' λJR YJ sb=>?_⟩
  have Ym:JR.get? s.heap.objs.size=some {cls:= .type "tuple",data:= .seq (zs.map x).toArray}:=(sb.2 _ (qp WS)).trans hT
  have new:kW X.prog X.w (fC H s.heap.objs.size (.tup ws)) JR s.heap.objs.size (.tup ws):=⟨VN,zs.map x,k2,⟨_,Ym,rfl,_,rfl⟩⟩
  have I1:L2.bG X pins σ (fC H s.heap.objs.size (.tup ws)) {s with heap:=JR}:=
   I.turnedNew (t':=s.toks) (ch:=z::TI::TO::zs.map (·.it)) (λc o hb q=>(sb.2 c (λq'=>hb (by simp[q']))).trans (hk c o (λq'=>hb (by simp[q'])) (λq'=>hb (by simp[q'])) (λq'=>hb (by simp[q'])) q)) hf (aO _) new
  have lt:∀c∈z::TI::TO::zs.map (·.it),c<s.heap.objs.size:=λc hc=>by
   rcases aB.mp hc with rfl|hc
   ·exact WS
   rcases aB.mp hc with rfl|hc
   ·exact aN vf
   rcases aB.mp hc with rfl|hc
   ·exact aN AS
   obtain⟨q,hq,rfl⟩:=ay.mp hc
   obtain⟨o,vs,ho,hd⟩:=(hi q hq).there
   exact aN ho
  refine⟨.ref s.heap.objs.size,_,I1,rfl,⟨_,ws,rfl,I.hok.fresh (aO _),rfl,k3⟩,⟨YJ,(sb.2 _ ok.TIz).trans (hk _ _ ok.TIz ok.TITO (λhm=>?_) vf),⟨_,(sb.2 _ ok.TOz).trans ZV,by simp⟩,λq hq=>(Ly q hq).at λo e=>(sb.2 _ (ok.ap q hq).1).trans e⟩,λc Tq=>?_⟩
  ·obtain⟨q,hq,e⟩:=ay.mp hm
   exact(ok.ap q hq).2.2.1 e
  ·rw[cb (cA (lt c Tq))]
   exact(hf c Tq).1
 done:=by
  intro X hP hw hK hc i pins s σ H E I hf st hg
  subst hP hw hK
  obtain⟨hz,vf,⟨a,AS,ha⟩,hi⟩:=st
  obtain⟨q,r,vs,rfl,hq,WW⟩:=hg
  obtain⟨bW,rv,sq,_⟩:=zO.sq I hq
  have l1:=rv.length
  exact yd (I.ok.hd hc) ok hz vf (hi q ae) sq (by simp;lia) λh' hk=>⟨rfl,I.turnedL (t':=s.toks) (ch:=z::TI::TO::(q::r).map (·.it)) (λc o hb e=>
   hk c o (λq'=>hb (by simp[q'])) (λq'=>hb (by simp[q'])) e) hf⟩
 self:=λA i s Q E st h=>wpAny_pyIter_zip st.1 h
abbrev Sr:=Addr×Bool
def OZ (q:Sr):Obj:={cls:= .type (if q.2=true then "tuple_iterator" else "list_iterator"),data:= .fields #[.ref q.1,.int 0 0]}
def jD (h:Heap) (q:Sr):Prop:=if q.2=true then ∃xs,h.IsTuple q.1 xs else ∃xs,h.IsList q.1 xs
theorem jD.keeps {h h':Heap} {q:Sr} (x:jD h q) (k:∀b o,h.get? b=some o->h'.get? b=some o):jD h' q:=by
 unfold jD at x⊢
 split at x
 ·rename_i c;rw[if_pos c];obtain⟨xs,o,ho,r⟩:=x;exact⟨xs,o,k _ _ ho,r⟩
 ·rename_i c;rw[if_neg c];obtain⟨xs,o,ho,r⟩:=x;exact⟨xs,o,k _ _ ho,r⟩
def gP (h:Heap):List Sr->Heap
 |[]=>h
 |q::r=>gP (h.push (OZ q)) r
theorem jZ:∀(srcs:List Sr) (h:Heap),(gP h srcs).objs.size=h.objs.size+srcs.length
 |[],_=>rfl
 |q::r,h=>by rw[gP,jZ r,bz,aJ];lia
theorem ng:∀(srcs:List Sr) (h:Heap) (b:Addr) (o:Obj),h.get? b=some o->(gP h srcs).get? b=some o
 |[],_,_,_,e=>e
 |q::r,h,b,o,e=>ng r _ b o (au _ e)
theorem Af:∀(srcs:List Sr) (h:Heap) (j:Nat) (q:Sr),srcs[j]? =some q->(gP h srcs).get? (h.objs.size+j)=some (OZ q)
 |[],_,_,_,e=>by simp at e
 |q::r,h,0,q',e=>by
  obtain rfl:q=q':=by simpa using e
  exact ng r _ _ _ (aK _ rfl)
 |q::r,h,j+1,q',e=>by
  have:=Af r (h.push (OZ q)) j q' (by simpa using e)
  rw[bz]at this
  rw[gP,show h.objs.size+(j+1)=h.objs.size+1+j by lia]
  exact this
def lz (n k:Nat):List Value:=(ar k).map λj=>bt (n+j)
section
variable {prog:bR} {w:du} {A:cG} {E:Value->ao->Prop}
theorem HL {s:ao} {q:Sr} {Q:Value->ao->Prop} (h:jD s.heap q) (hQ:Q (.ref s.heap.objs.size) {s with heap:=s.heap.push (OZ q)}):wpAny (aU prog w) A (pyIter (.ref q.1)) Q E s:=by
 unfold jD at h
 unfold OZ at hQ
 by_cases c:q.2=true
 ·simp only[c,if_true]at h hQ
  obtain⟨xs,h⟩:=h
  exact Ss h hQ
 ·simp only[c,if_false]at h hQ
  obtain⟨xs,h⟩:=h
  exact AX h hQ
theorem xR {f:Value->Array Value->Sem (ForInStep (Array Value))} (hf:∀x bW,f x bW=(do let y<-holding bW.toList (pyIter x);pure (.yield (bW.push y)))):
  ∀(srcs:List Sr) (bW:Array Value) (s:ao) (Q:Array Value->ao->Prop),(∀q∈srcs,jD s.heap q)->
   Q (bW++(lz s.heap.objs.size srcs.length).toArray) {s with heap:=gP s.heap srcs}->wpAny (aU prog w) A (forIn (srcs.map λq=>bt q.1) bW f) Q E s
 |[],bW,s,Q,_,hQ=>by
  rw[fG,sS]
  exact wpAny_pure (by simpa[lz,gP] using hQ)
 |q::r,bW,s,Q,h,hQ=>by
  rw[bg,qx,hf]
  refine wpAny_bind (wpAny_bind (i4 (HL (h q ae) (wpAny_pure ?_))))
  refine xR hf r _ {s with heap:=s.heap.push (OZ q)} Q (λq' hq'=>(h q' (ai _ hq')).keeps λb o e=>au _ e) ?_
  have e:bW.push (bt s.heap.objs.size)++(lz (s.heap.push (OZ q)).objs.size r.length).toArray=bW++(lz s.heap.objs.size (q::r).length).toArray:=by
   apply LD.mp
   simp only[Array.toList_append,Array.toList_push,lz,aJ,fH,bg,aF,bz,bM,List.singleton_append,xW]
   congr 2
   refine aW λj _=>?_
   show bt (s.heap.objs.size+1+j)=bt (s.heap.objs.size+(j+1))
   rw[lA,qu 1 j]
  show Q (bW.push (bt s.heap.objs.size)++(lz (s.heap.push (OZ q)).objs.size r.length).toArray) _
  rw[e]
  exact hQ
end
abbrev wU (a:List Value):Obj:={cls:= .type "tuple",data:= .seq a.toArray}
abbrev G7 (TI TO:Addr):Obj:={cls:= .type "zip",data:= .fields #[.none,.bool false,.bool false,.ref TI,.ref TO]}
def Bc (h:Heap) (srcs:List Sr):Heap:=(((gP h srcs).push (wU (lz h.objs.size srcs.length))).push (wU ((lz h.objs.size srcs.length).map λ_=>cK))).push (G7 (h.objs.size+srcs.length) (h.objs.size+srcs.length+1))
theorem DO (l:List Value):qD "zip" ⟨.type "zip"::l,[]⟩=pure (.type "zip",l):=by
 unfold qD
 simp only[isType,sub_zip,pure_bind,D3,cq,if_false]
theorem z5 (srcs:List Sr) (hz:srcs.length<=sizeLine):
  Meets (lj.«zip.__new__» ⟨.type "zip"::srcs.map (λq=>bt q.1),[]⟩) (λ_ R s=>(∀q∈srcs,jD s.heap q)/\R (.ok (.ret (.ref (s.heap.objs.size+srcs.length+2)))) {s with heap:=Bc s.heap srcs}):=
 .of_wp λprog w A R s h=>by
  obtain⟨h1,h2⟩:=h
  unfold lj.«zip.__new__»
  refine wpAny_bind (iE (DO _) ?_)
  dsimp only
  simp only[List.length_nil,show ¬(0>1) by decide,if_false]
  show wpAny _ _ (rZ _>>=_) _ _ _
  unfold rZ
  refine wpAny_bind (wpAny_bind (xR (λx bW=>rfl) srcs #[] s _ h1 (wpAny_pure ?_)))
  simp only[Array.empty_append,List.toList_toArray]
  have hr:(lz s.heap.objs.size srcs.length).length=srcs.length:=by simp[lz]
  refine wpAny_bind (wpAny_newTuple ?_ (by rw[hr];exact hz))
  refine wpAny_bind (wpAny_newTuple ?_ (by rw[ah,hr];exact hz))
  unfold qf
  refine wpAny_bind (fI (wpAny_pure ⟨_,rfl,?_⟩) (show(5:Nat)<=sizeLine+2 by decide))
  have e1:(gP s.heap srcs).objs.size=s.heap.objs.size+srcs.length:=jZ _ _
  simp only[bz,e1]at*
  exact h2
theorem Ap (a b c d:Value):checkTypeCall "zip" ⟨[a,b,c,d],[]⟩=pure ():=by kernel_rfl
theorem Bv (a b c d:Value):checkBuiltinCall "zip.__new__" ⟨[.type "zip",a,b,c,d],[]⟩=pure ():=by kernel_rfl
theorem uy (a b c d e:Value):LJ "object.__init__" ⟨[a,b,c,d,e],[]⟩:=by
 unfold LJ;rw[JH (id:="object.__init__") (n:=['_','_','t','i','n','i','_','_']) (o:=['t','c','e','j','b','o']) (by kernel_rfl) F.owner_object];kernel_rfl
def rj:Nat->List Sr->List ZS
 |_,[]=>[]
 |n,q::r=>⟨n,q.1,q.2⟩::rj (n+1) r
theorem nZ:∀{srcs:List Sr} {n:Nat} {z:ZS},z∈rj n srcs->∃(j:Nat) (q:Sr),srcs[j]? =some q/\z=⟨n+j,q.1,q.2⟩
 |[],_,_,h=>by simp[rj]at h
 |q::r,n,z,h=>by
  rcases aB.mp h with rfl|h
  ·exact⟨0,q,rfl,rfl⟩
  ·obtain⟨j,q',h1,h2⟩:=nZ h
   exact⟨j+1,q',by simpa using h1,by rw[h2];exact congrArg (λk=>(⟨k,q'.1,q'.2⟩:ZS)) (show n+1+j=n+(j+1) by lia)⟩
theorem IK:∀(srcs:List Sr) (n:Nat),((rj n srcs).map (·.it)).Nodup
 |[],_=>by simp[rj]
 |q::r,n=>by
  rw[rj,bg,bc]
  refine⟨λh=>?_,IK r _⟩
  obtain⟨z,hz,e⟩:=ay.mp h
  obtain⟨j,q',_,rfl⟩:=nZ hz
  have e':n+1+j=n:=e
  lia
theorem BJ:∀(srcs:List Sr) (n:Nat),(rj n srcs).map (λz=>bt z.it)=lz n srcs.length
 |[],_=>rfl
 |q::r,n=>by
  rw[rj,bg,BJ r,lz,lz,aJ,fH,bg,aF]
  congr 1
  refine aW λj _=>?_
  show bt (n+1+j)=bt (n+(j+1))
  rw[lA,qu 1 j]
theorem vS:∀(srcs:List Sr) (n:Nat),(rj n srcs).length=srcs.length
 |[],_=>rfl
 |q::r,n=>by rw[rj,aJ,vS r,aJ]
theorem Jy {X:Cx} {pins:List (Addr×Obj)} {σ:St} {H:Hp} {s:ao} {R:It->Hp->Prop} {elts:List aS} {kk:Nat} {n8:Pos} {srcs:List Sr} (I:L2.bG X pins σ H s) (hne:srcs≠[]) (hz:srcs.length<=sizeLine) (hl:∀q∈srcs,q.1<s.heap.objs.size)
  (q:R (NF X.K (rj s.heap.objs.size srcs)) H):wpAny (aU X.prog X.w) X.A (pyIter (.ref (s.heap.objs.size+srcs.length+2))) (Wm X pins σ (.Tuple elts kk n8) R) X.xe {s with heap:=Bc s.heap srcs}:=by
 have e1:=jZ srcs s.heap
 have k0:∀b o,(gP s.heap srcs).get? b=some o->(Bc s.heap srcs).get? b=some o:=λb o e=>au _ (au _ (au _ e))
 have hk:∀b o,s.heap.get? b=some o->(Bc s.heap srcs).get? b=some o:=λb o e=>k0 b o (ng srcs _ b o e)
 have gTI:(Bc s.heap srcs).get? (s.heap.objs.size+srcs.length)=some (wU (lz s.heap.objs.size srcs.length)):=by
  have:=aK (gP s.heap srcs) (o:=wU (lz s.heap.objs.size srcs.length)) rfl
  rw[e1]at this
  exact au _ (au _ this)
 have gTO:(Bc s.heap srcs).get? (s.heap.objs.size+srcs.length+1)=some (wU ((lz s.heap.objs.size srcs.length).map λ_=>cK)):=by
  have:=aK ((gP s.heap srcs).push (wU (lz s.heap.objs.size srcs.length))) (o:=wU ((lz s.heap.objs.size srcs.length).map λ_=>cK)) rfl
  rw[bz,e1]at this
  exact au _ this
 have gz:(Bc s.heap srcs).get? (s.heap.objs.size+srcs.length+2)=some (G7 (s.heap.objs.size+srcs.length) (s.heap.objs.size+srcs.length+1)):=by
  have:=aK (((gP s.heap srcs).push (wU (lz s.heap.objs.size srcs.length))).push (wU ((lz s.heap.objs.size srcs.length).map λ_=>cK))) (o:=G7 (s.heap.objs.size+srcs.length) (s.heap.objs.size+srcs.length+1)) rfl
  rw[bz,bz,e1]at this
  exact this
 have ok:Vz (rj s.heap.objs.size srcs) (s.heap.objs.size+srcs.length+2) (s.heap.objs.size+srcs.length) (s.heap.objs.size+srcs.length+1):=by
  refine⟨IK _ _,λz VL=>?_,λh=>?_,λh=>?_,λh=>?_⟩
  rotate_left
  ·exact absurd (show s.heap.objs.size+srcs.length=s.heap.objs.size+srcs.length+2 from h) (by lia)
  ·exact absurd (show s.heap.objs.size+srcs.length+1=s.heap.objs.size+srcs.length+2 from h) (by lia)
  ·exact absurd (show s.heap.objs.size+srcs.length=s.heap.objs.size+srcs.length+1 from h) (by lia)
  obtain⟨j,q',h1,rfl⟩:=nZ VL
  have hj:j<srcs.length:=(bh.mp h1).1
  have YS:=hl q' (bJ h1)
  have nn:∀{x y:Nat},x<y->(show Addr from x)≠y:=λh e=>absurd e (cA h)
  refine⟨nn (show s.heap.objs.size+j<s.heap.objs.size+srcs.length+2 by lia),nn (show s.heap.objs.size+j<s.heap.objs.size+srcs.length+1 by lia),nn (show s.heap.objs.size+j<s.heap.objs.size+srcs.length by lia),nn (aX YS (by lia)),nn (aX YS (by lia)),λr hr=>?_⟩
  obtain⟨j',q'',_,rfl⟩:=nZ hr
  exact nn (aX YS (g9 _ _))
 have I2:L2.bG X pins σ H {s with heap:=Bc s.heap srcs}:=I.kept (t':=s.toks) hk
 refine wpAny_pyIter_zip gz ?_
 refine⟨_,_,_,_,H,rfl,I2,Ku ok (λh=>hne (by have:=congrArg h9 h;rw[vS]at this;exact jP.mp this)) (by rw[vS];exact hz),⟨gz,by rw[BJ];exact gTI,⟨_,gTO,by rw[vS];simp[lz]⟩,λz VL=>?_⟩,λb hb=>?_,q⟩
 ·obtain⟨j,q',h1,rfl⟩:=nZ VL
  have:=k0 _ _ (Af srcs s.heap j q' h1)
  unfold ZS.It
  unfold OZ at this
  by_cases c:q'.2=true
  ·simp only[c,if_true]at this⊢
   exact⟨_,this,rfl,rfl⟩
  ·simp only[c,if_false]at this⊢
   exact⟨_,this,rfl,rfl⟩
 ·have hle:s.heap.objs.size<=b:=by
   rcases aB.mp hb with rfl|hb
   ·show s.heap.objs.size<=s.heap.objs.size+srcs.length+2;lia
   rcases aB.mp hb with rfl|hb
   ·show s.heap.objs.size<=s.heap.objs.size+srcs.length;lia
   rcases aB.mp hb with rfl|hb
   ·show s.heap.objs.size<=s.heap.objs.size+srcs.length+1;lia
   obtain⟨z,VL,rfl⟩:=ay.mp hb
   obtain⟨j,q',_,rfl⟩:=nZ VL
   exact g9 _ _
  exact I.fpOk hle (I.hok.fresh hle)
section
variable {prog:bR} {w:du} {A:cG} {E:Value->ao->Prop} {s:ao}
theorem HD {q1 q2:Sr} {Q:Value->ao->Prop} (h1:jD s.heap q1) (h2:jD s.heap q2) (h:Q (.ref (s.heap.objs.size+4)) {s with heap:=Bc s.heap [q1,q2]}):wpAny (aU prog w) A (call (.type "zip") [.ref q1.1,.ref q2.1]) Q E s:=by
 refine callType_new F.called_zip (by decide) (F.typeCall_zip_2 _ _) (F.newCall_zip_2 _ _) (λobj=>F.args_object_init_3 obj _ _) F.entry_zip_new (z5 [q1,q2] (by show 2<=sizeLine;decide)) ⟨λq hq=>?_,?_⟩
 ·rcases aB.mp hq with rfl|hq
  ·exact h1
  ·obtain rfl:q=q2:=by simpa using hq
   exact h2
 ·refine⟨⟨G7 (s.heap.objs.size+2) (s.heap.objs.size+3),?_,rfl⟩,h⟩
  ·have:=aK (((gP s.heap [q1,q2]).push (wU (lz s.heap.objs.size 2))).push (wU ((lz s.heap.objs.size 2).map λ_=>cK))) (o:=G7 (s.heap.objs.size+2) (s.heap.objs.size+3)) rfl
   rw[bz,bz,jZ]at this
   exact this
theorem HA {q1 q2 q3 q4:Sr} {Q:Value->ao->Prop} (h1:jD s.heap q1) (h2:jD s.heap q2) (h3:jD s.heap q3) (h4:jD s.heap q4) (h:Q (.ref (s.heap.objs.size+6)) {s with heap:=Bc s.heap [q1,q2,q3,q4]}):
  wpAny (aU prog w) A (call (.type "zip") [.ref q1.1,.ref q2.1,.ref q3.1,.ref q4.1]) Q E s:=by
 refine callType_new F.called_zip (by decide) (Ap _ _ _ _) (Bv _ _ _ _) (λobj=>uy obj _ _ _ _) F.entry_zip_new (z5 [q1,q2,q3,q4] (by show 4<=sizeLine;decide)) ⟨λq hq=>?_,?_⟩
 ·simp only[aB,pq,or_false]at hq
  rcases hq with rfl|rfl|rfl|rfl
  ·exact h1
  ·exact h2
  ·exact h3
  ·exact h4
 ·refine⟨⟨G7 (s.heap.objs.size+4) (s.heap.objs.size+5),?_,rfl⟩,h⟩
  ·have:=aK (((gP s.heap [q1,q2,q3,q4]).push (wU (lz s.heap.objs.size 4))).push (wU ((lz s.heap.objs.size 4).map λ_=>cK))) (o:=G7 (s.heap.objs.size+4) (s.heap.objs.size+5)) rfl
   rw[bz,bz,jZ]at this
   exact this
end
inductive Pd {α β:Type} (r:α->β->Prop):List α->List β->Prop where
 |nil:Pd r [] []
 |cons {a:α} {b:β} {as:List α} {bs:List β}:r a b->Pd r as bs->Pd r (a::as) (b::bs)
theorem zO.same {K:ag} {F H:Hp} {q:ZS} {vs:List V} (s:bX F H) (h1:zO K F q vs):zO K H q vs:=by
 unfold zO at h1⊢
 split at h1
 ·rename_i c;rw[if_pos c];exact o8.same s h1
 ·rename_i c;rw[if_neg c];exact s.seq h1
theorem xQ {K:ag} {F F1 H:Hp} {i:Nat} (s1:bX F1 F) (Cd:bX F1 H):∀{zs:List ZS} {Je:List (List D)} {ws:List V},Pd (λq xs=>(∃vs,zO K F1 q vs/\cg K F1 xs vs)/\i<xs.length) zs Je->
  Paired (λq w=>∀vs,zO K H q vs->vs[i]? =some w) zs ws->cg K F (Je.map λxs=>xs.getD i .non) ws
 |_,_,_,.nil,.nil=> .nil
 |_,_,_,.cons ⟨⟨vs,h1,h2⟩,hi⟩ t,.cons e p=>by
  have ev:=e vs (h1.same Cd)
  refine .cons ?_ (xQ s1 Cd t p)
  obtain⟨v,hv,rv⟩:=h2.get (aI hi)
  rw[hv]at ev;cases ev
  have e3:(λxs:List D=>xs.getD i D.non) _=_:=(by show List.getD _ i D.non=_;rw[aR,aI hi,eT])
  rw[e3]
  exact rv.mono s1
theorem Pd.mem {α β:Type} {r:α->β->Prop}:∀{as:List α} {bs:List β},Pd r as bs->∀a∈as,∃b∈bs,r a b
 |_,_,.nil,_,h=>by simp at h
 |_,_,.cons h t,a,hm=>by
  rcases aB.mp hm with rfl|hm
  ·exact⟨_,ae,h⟩
  ·obtain⟨b,hb,e⟩:=Pd.mem t a hm
   exact⟨b,ai _ hb,e⟩
theorem Pd.imp {α β:Type} {r r':α->β->Prop}:∀{as:List α} {bs:List β},(∀a,∀b∈bs,r a b->r' a b)->Pd r as bs->Pd r' as bs
 |_,_,_,.nil=> .nil
 |_,_,h,.cons x t=> .cons (h _ _ ae x) (Pd.imp (λa b hb=>h a b (ai _ hb)) t)
def vT (Je:List (List D)) (m:Nat):List D:=(ar m).map λi=>D.tup (Je.map λxs=>xs.getD i .non)
theorem B6 {K:ag} {F1:Hp} {zs:List ZS} {Je:List (List D)} {m:Nat} (hp:Pd (λq xs=>∃vs,zO K F1 q vs/\cg K F1 xs vs) zs Je) (hl:∀xs∈Je,xs.length=m) (hne:zs≠[]):CT K (NF K zs) (vT Je m) F1:=λi F2 H2 O2 s1 s2 ow=>by
 have Cd:=s1.trans s2
 refine⟨λd hd=>?_,λhi=>?_⟩
 ·have hi:i<m:=by
   have:=(bh.mp hd).1
   simpa[vT] using this
  have ed:d=D.tup (Je.map λxs=>xs.getD i .non):=by
   unfold vT at hd
   rw[aE,dE hi]at hd
   exact(bo hd).symm
  subst ed
  refine⟨λq hq=>?_,λx H3 hy=>?_⟩
  ·obtain⟨xs,hx,vs,h1,h2⟩:=hp.mem q hq
   have:i<vs.length:=by rw[<-h2.length,hl xs hx];exact hi
   exact⟨vs,vs[i],h1.same Cd,aI this⟩
  ·obtain⟨T,ws,rfl,hT,rfl,Yc⟩:=hy
   have rr:cg K F2 (Je.map λxs=>xs.getD i .non) ws:=xQ s1 Cd (hp.imp λa b hb h=>⟨h,by rw[hl b hb];exact hi⟩) Yc
   exact zK (Q:=λz H3=>∃F3,dI (cU O2) F2 H2 (cU O2) F3 H3/\bX F3 H3/\cB K F3 O2 H3/\sP K F3 (.tup (Je.map λxs=>xs.getD i .non)) z) s2 ow rr (λv d O' F' H' g' GD Ga r' ⟨e1,e2⟩=>by subst e1;subst e2;exact⟨F',g',GD,Ga,r'⟩) T hT
 ·have yR:m<=i:=by simpa[vT] using hi
  cases hp with
  |nil=>exact absurd rfl hne
  |cons h t=>
   obtain⟨vs,h1,h2⟩:=h
   exact⟨_,_,vs,rfl,h1.same Cd,by rw[<-h2.length,hl _ ae];exact yR⟩
theorem Ds {K:ag} {F:Hp}:∀{srcs:List Sr} {Je:List (List D)} (n:Nat),Pd (λ(q:Sr) xs=>∃vs,(if q.2=true then o8 K F q.1 vs else iL K F q.1 vs)/\cg K F xs vs) srcs Je->Pd (λq xs=>∃vs,zO K F q vs/\cg K F xs vs) (rj n srcs) Je
 |_,_,_,.nil=> .nil
 |_,_,n,.cons h t=> .cons h (Ds (n+1) t)
section
variable {W:dg} {X:Cx} {N:List Str} {sc:Scope} {n:Nat} {tp:Bool} {ρ:dk} {O:Os} {a b c4 d4:aS} {pos p n8:Pos} {elts:List aS} {kk m:Nat}
theorem zw {xs ys:List D} (c:eZ W X N sc n tp) (hg:mr sc "zip") (hm:W.mg "zip"=none) (ha:bq X ρ O a (.tup xs)) (hb:bq X ρ O b (.lst ys)) (hx:xs.length=m) (hy:ys.length=m)
  (hs:ak [a,b] X.env=(false,eval a X.env)::ak [b] X.env:=by rfl) (yg:ak [b] X.env=(false,eval b X.env)::ak [] X.env:=by rfl) (hpl:(cw pos (ak [b] X.env)).any (·.1)=false:=by rfl):
  pF X ρ O (.Tuple elts kk n8) (.Call (.Name "zip" p) [a,b] [] pos) (vT [xs,ys] m):= .mk λσ F H R s q pins s0 I=>by
 refine qg (oG I (c.gl hg) (by rw[c.glob];exact hm) wK (cx (fb (aa ha (aa hb az yg) hs σ F H (λvs H1=>∃a1 b1,vs=[.ref a1,.ref b1]/\∃us YR,o8 X.K H1 a1 us/\iL X.K H1 b1 YR/\∀n0,R (NF X.K (rj n0 [(a1,true),(b1,false)])) H1) s (λvs ds O1 F1 H1 g su ow r ⟨q1,q2⟩=>?_) pos pins s0 I) λus s1 ⟨vs,H1,I1,r1,q1⟩=>?_) hs hpl))
 ·subst q1;subst q2
  obtain⟨v,u,rfl,rv,ru⟩:=Jg r
  obtain⟨l1,Km,rfl,Lb,Px⟩:=rv
  obtain⟨l2,MV,rfl,Ae,Vx⟩:=ru
  refine⟨l1,l2,rfl,Km,MV,o8.same su Lb,iL.of (su _ _ Ae),λn0=>q _ F1 H1 g su ow (B6 (m:=m) (Ds n0 (.cons ⟨Km,Lb,Px⟩ (.cons ⟨MV,iL.of Ae,Vx⟩ .nil))) (λxs' h=>?_) (by simp[rj]))⟩
  rcases aB.mp h with rfl|h
  ·exact hx
  ·obtain rfl:xs'=ys:=by simpa using h
   exact hy
 ·obtain⟨a1,b1,rfl,us,YR,ht,hl,hR⟩:=q1
  cases r1 with
  |cons r rr=>
   cases rr with
   |cons r' rr=>
    cases rr
    cases r
    cases r'
    obtain⟨abY,_,p1,_⟩:=I1.tuple ht
    obtain⟨qa,_,p2,_⟩:=I1.list hl
    refine HD (q1:=(a1,true)) (q2:=(b1,false)) (by unfold jD;rw[if_pos rfl];exact⟨_,p1⟩) (by unfold jD;rw[if_neg aw];exact⟨_,p2.isList⟩) ?_
    refine Jy (srcs:=[(a1,true),(b1,false)]) I1 (by simp) (by show 2<=sizeLine;decide) (λq' hq'=>?_) (hR _)
    rcases aB.mp hq' with rfl|hq'
    ·exact p1.lt
    ·obtain rfl:q'=(b1,false):=by simpa using hq'
     exact p2.lt
theorem K4 {xs ys zs ws:List D} (c:eZ W X N sc n tp) (hg:mr sc "zip") (hm:W.mg "zip"=none) (ha:bq X ρ O a (.lst xs)) (hb:bq X ρ O b (.lst ys)) (X8:bq X ρ O c4 (.lst zs)) (hd4:bq X ρ O d4 (.lst ws)) (hx:xs.length=m) (hy:ys.length=m) (hz:zs.length=m) (hw:ws.length=m)
  (hs:ak [a,b,c4,d4] X.env=(false,eval a X.env)::ak [b,c4,d4] X.env:=by rfl) (yg:ak [b,c4,d4] X.env=(false,eval b X.env)::ak [c4,d4] X.env:=by rfl) (PM:ak [c4,d4] X.env=(false,eval c4 X.env)::ak [d4] X.env:=by rfl) (Rn:ak [d4] X.env=(false,eval d4 X.env)::ak [] X.env:=by rfl) (hpl:(cw pos (ak [b,c4,d4] X.env)).any (·.1)=false:=by rfl):
  pF X ρ O (.Tuple elts kk n8) (.Call (.Name "zip" p) [a,b,c4,d4] [] pos) (vT [xs,ys,zs,ws] m):= .mk λσ F H R s q pins s0 I=>by
 refine qg (oG I (c.gl hg) (by rw[c.glob];exact hm) wK (cx (fb (aa ha (aa hb (aa X8 (aa hd4 az Rn) PM) yg) hs σ F H (λvs H1=>∃a1 b1 c1 d1,vs=[.ref a1,.ref b1,.ref c1,.ref d1]/\∃u1 u2 u3 u4,iL X.K H1 a1 u1/\iL X.K H1 b1 u2/\iL X.K H1 c1 u3/\iL X.K H1 d1 u4/\∀n0,R (NF X.K (rj n0 [(a1,false),(b1,false),(c1,false),(d1,false)])) H1) s (λvs ds O1 F1 H1 g su ow r ⟨q1,q2⟩=>?_) pos pins s0 I) λus s1 ⟨vs,H1,I1,r1,q1⟩=>?_) hs hpl))
 ·subst q1;subst q2
  obtain⟨v1,r',rfl,Zf,r⟩:=r
  obtain⟨v2,r',rfl,Jm,r⟩:=r
  obtain⟨v3,u,rfl,YT,rv4⟩:=Jg r
  obtain⟨l1,Km,rfl,Lb,Px⟩:=Zf
  obtain⟨l2,MV,rfl,Ae,Vx⟩:=Jm
  obtain⟨l3,XO,rfl,Xw,ZJ⟩:=YT
  obtain⟨l4,us4,rfl,XU,rr4⟩:=rv4
  refine⟨l1,l2,l3,l4,rfl,Km,MV,XO,us4,iL.of (su _ _ Lb),iL.of (su _ _ Ae),iL.of (su _ _ Xw),iL.of (su _ _ XU),λn0=>q _ F1 H1 g su ow (B6 (m:=m) (Ds n0 (.cons ⟨Km,iL.of Lb,Px⟩ (.cons ⟨MV,iL.of Ae,Vx⟩ (.cons ⟨XO,iL.of Xw,ZJ⟩ (.cons ⟨us4,iL.of XU,rr4⟩ .nil))))) (λxs' h=>?_) (by simp[rj]))⟩
  simp only[aB,pq,or_false]at h
  rcases h with rfl|rfl|rfl|rfl
  ·exact hx
  ·exact hy
  ·exact hz
  ·exact hw
 ·obtain⟨a1,b1,c1,d1,rfl,u1,u2,u3,u4,Lb,Ae,Xw,XU,hR⟩:=q1
  cases r1 with
  |cons r1 rr=>
  cases rr with
  |cons r2 rr=>
  cases rr with
  |cons r3 rr=>
  cases rr with
  |cons r4 rr=>
  cases rr
  cases r1
  cases r2
  cases r3
  cases r4
  obtain⟨_,_,p1,_⟩:=I1.list Lb
  obtain⟨_,_,p2,_⟩:=I1.list Ae
  obtain⟨_,_,p3,_⟩:=I1.list Xw
  obtain⟨_,_,p4,_⟩:=I1.list XU
  refine HA (q1:=(a1,false)) (q2:=(b1,false)) (q3:=(c1,false)) (q4:=(d1,false)) (by unfold jD;rw[if_neg aw];exact⟨_,p1.isList⟩) (by unfold jD;rw[if_neg aw];exact⟨_,p2.isList⟩) (by unfold jD;rw[if_neg aw];exact⟨_,p3.isList⟩) (by unfold jD;rw[if_neg aw];exact⟨_,p4.isList⟩) ?_
  refine Jy (srcs:=[(a1,false),(b1,false),(c1,false),(d1,false)]) I1 (by simp) (by show 4<=sizeLine;decide) (λq' hq'=>?_) (hR _)
  simp only[aB,pq,or_false]at hq'
  rcases hq' with rfl|rfl|rfl|rfl
  ·exact p1.lt
  ·exact p2.lt
  ·exact p3.lt
  ·exact p4.lt
end
def Xk (X:Cx) (ρ:dk) (O:Os):List aS->Bool->Prop
 |[],b=>b=true
 |[c],b=>nP X ρ O c b
 |_,_=>False
def Wv (X:Cx) (ifs:List aS):TT:=λσ H Q=>∀(pins:List (Addr×Obj)) (s:ao),L2.bG X pins σ H s->wpAny (aU X.prog X.w) X.A (forIn ifs true λc r=>if r=true then do let ok<-isTrue c X.env (eval c X.env);pure (je ok)else pure (je r)) (TP X pins σ Q) X.xe s
theorem Xk.go {X:Cx} {ρ:dk} {O:Os} {ifs:List aS} {b:Bool} (h:Xk X ρ O ifs b) {σ:St} {F H:Hp} {Q:Bool->Hp->Prop} (s:jE X.K F ρ O σ H) (p:Co X.K F H O (λb' O'=>b'=b/\O'=O) Q):Wv X ifs σ H Q:=λpins s0 I=>by
 match ifs,h with
 |[],h=>obtain rfl:b=true:=h;exact yF pins s0 σ H Q I (p true O F H .refl s.sub s.own ⟨rfl,rfl⟩)
 |[c],h=>exact PN pI pins s0 σ H Q I (nP.go (show nP X ρ O c b from h) (k:=λb' O'=>b'=b/\O'=O) ⟨rfl,rfl⟩ σ F H Q s p)
 |_::_::_,h=>exact absurd h (by simp[Xk])
section
variable {W:dg} {X:Cx} {N:List Str} {sc:Scope} {n:Nat} {tp:Bool} {ρ:dk} {O:Os} {tg iter elt:aS} {ifs:List aS} {scope:Scope} {pos:Pos}
def Tf (X:Cx) (scope:Scope) (elt:aS):TE:=λσ H Q=>∀s0 H0 C cl fp,tW (X.blk s0 H0 scope (dJ scope cl C X.env) fp) elt σ H Q
def T2 (X:Cx) (scope:Scope) (tg:aS):TG:=λv σ H Q=>∀s0 H0 C cl fp,Uy (X.blk s0 H0 scope (dJ scope cl C X.env) fp) tg v σ H Q
def SI (X:Cx) (scope:Scope) (ifs:List aS):TT:=λσ H Q=>∀s0 H0 C cl fp,Wv (X.blk s0 H0 scope (dJ scope cl C X.env) fp) ifs σ H Q
theorem Nv {α:Type} {l:List α} {enc g:α->D} {p:α->Bool} {own:List (Str×Nat)} {σ:St} {F H:Hp} {Q:VK} (c:eZ W X N sc n tp) (hi:pF X ρ O tg iter (l.map enc)) (ok:km N sc scope own) (rm:∀y∈lu tg,y∈own.map (·.1)) (hz:l.length<=sizeLine)
  (gU:∀a∈l,∃ρ2,∀Y,eZ W Y N (yo scope sc) n false->F9 Y tg (mT ρ (own.map (·.2))) (enc a) ρ2/\Xk Y ρ2 O ifs (p a)/\(p a=true->bq Y ρ2 O elt (g a)))
  (s:jE X.K F ρ O σ H) (pp:jo X.K F H O (λd O'=>∃q,d= .ptr q/\O'=(q,.lst ((l.filter p).map g))::O) Q):
  OP (Ta X tg iter) (T2 X scope tg) (SI X scope ifs) (Tf X scope elt) (own.map (·.2)) σ H Q:=by
 have Ii:km X.N X.env.scope scope own:=by rw[c.nms,c.scp];exact ok
 refine hi σ F H _ s λJ F1 H1 g1 L8 Lw V6 A hA=>?_
 obtain⟨gA,VI,VV⟩:=Ip (ob:= .lst []) L8 Lw hA ⟨[],cp,.nil⟩
 refine⟨λi m H'=>m=l.length-i/\i<=l.length/\∃F2,dI (cU O) F1 H1 (A::cU O) F2 H'/\bX F2 H'/\cB X.K F2 ((A,.lst (((l.take i).filter p).map g))::O) H',⟨l.length,by simp,eS _,F1,gA,VI,VV⟩,?_⟩
 rintro i m H2 ⟨rfl,Ng,F2,g2,gX,gB⟩
 obtain⟨o1,o2⟩:=V6 i F2 H2 _ g2.ff gX gB
 by_cases jb:i<l.length
 ·have hd:(l.map enc)[i]? =some (enc l[i]):=by rw[aE,aI jb];rfl
  obtain⟨P2,hy⟩:=o1 _ hd
  refine .inr ⟨P2,λH'=>∃F2,dI (cU O) F1 H1 (A::cU O) F2 H'/\bX F2 H'/\cB X.K F2 ((A,.lst (((l.take (i+1)).filter p).map g))::O) H',λH' h=>⟨l.length-(i+1),by lia,rfl,jb,h⟩,λx H3 hx s0 H0 C cl fp=>?_⟩
  obtain⟨F3,g3,kX,kN,r3⟩:=hy x H3 hx
  obtain⟨ρ2,hY⟩:=gU l[i] (fS jb)
  have sw:jE X.K F3 (mT ρ (own.map (·.2))) ((A,.lst (((l.take i).filter p).map g))::O) (L2.wipe σ (own.map (·.2))) H3:=(s.grow (F':=F3) ((g1.ff.trans g2.ff).trans g3.ff) kX kN).wipe _
  have tk:l.take (i+1)=l.take i++[l[i]]:=by rw[gD jb]
  refine(hY _ (c.blk (scope:=scope) s0 H0 C cl fp)).1 _ F3 H3 _ x _ sw r3 λσ3 s3 l3 k3=>⟨?_,?_⟩
  ·rw[so l3 λj hj=>k3 j λy hN hy=>hj ?_]
   ·exact so (by rw[fg]) λj hj=>hJ hj
   ·obtain⟨q,hq,e⟩:=ay.mp (rm y hy)
    have e2:X.N[q.2]? =some q.1:=Ii.ix q hq
    have e3:q.2=j:=gh (by rw[c.nms];exact c.nd) (e▸e2) hN
    exact ay.mpr ⟨q,hq,e3⟩
  ·intro s0' X7 C' Z0 ZF
   have s4:jE X.K F3 ρ2 O σ3 H3:=⟨s3.sub,s3.env,(show cB X.K F3 ([(A,.lst (((l.take i).filter p).map g))]++O) H3 from s3.own).right,s3.len⟩
   refine(hY _ (c.blk (scope:=scope) s0' X7 C' Z0 ZF)).2.1.go (F:=F3) s4 λb O4 F4 H4 g4 D8 BO q=>?_
   obtain⟨rfl,rfl⟩:=q
   obtain⟨Bx,g5⟩:=zS (a:=(A,Ob.lst (((l.take i).filter p).map g))) s3.own g4 BO
   by_cases hp:p l[i]=true
   ·simp only[hp,if_true]
    intro ZG ZX C'' Y8 ZN
    refine(hY _ (c.blk (scope:=scope) ZG ZX C'' Y8 ZN)).2.2 hp σ3 F4 H4 _ (s4.grow g4.ff D8 BO) λv d O5 F5 H5 g6 Wb WR r6 ⟨q1,q2⟩=>?_
    subst q1;subst q2
    obtain⟨V8,g7⟩:=zS (a:=(A,Ob.lst (((l.take i).filter p).map g))) Bx g6 WR
    obtain⟨_,acc,Oq,Eg⟩:=V8.at_ _ ae
    have rl:=Eg.length
    rw[ah]at rl
    have fl:((l.take i).filter p).length<=i:=dR (kR _ _) (by rw[aA];lia)
    refine⟨acc,Oq,by lia,?_⟩
    have ra:cg X.K F5 (((l.take (i+1)).filter p).map g) (acc++[v]):=by
     rw[tk,wq,aY]
     refine Eg.append ?_
     rw[Ec hp]
     exact .cons r6 .nil
    obtain⟨g8,su8,ow8⟩:=zM (ob':= .lst (((l.take (i+1)).filter p).map g)) (o:= .lst (acc++[v])) Wb V8 ⟨_,cp,ra⟩
    exact⟨F5,(((g2.trans g3).trans g5).trans g7).trans g8,su8,ow8⟩
   ·simp only[hp]
    refine⟨F4,(g2.trans g3).trans g5,D8,?_⟩
    rw[tk,wq,Ed hp,List.filter_nil,br]
    exact Bx
 ·have e:i=l.length:=by lia
  subst e
  refine .inl ⟨o2 (by rw[ah];exact aO _),?_⟩
  rw[dB]at gB
  exact pp _ (.ptr A) ((A,.lst ((l.filter p).map g))::O) F2 H2 (g1.trans g2) gX gB rfl ⟨A,rfl,rfl⟩
theorem Nf {α:Type} {l:List α} {enc g:α->D} {p:α->Bool} {cond:aS} (ys:List Str) (vs:List Nat) {ρw:dk} (c:eZ W X N sc n tp) (hi:pF X ρ O tg iter (l.map enc)) (ok:Eo N sc scope (ys.zip vs)=true) (rm:∀y∈lu tg,y∈(ys.zip vs).map (·.1)) (hz:l.length<=sizeLine) (hw:Wp ρ vs ρw)
  (gU:∀a∈l,∃ρ2,∀Y,eZ W Y N (yo scope sc) n false->F9 Y tg ρw (enc a) ρ2/\nP Y ρ2 O cond (p a)/\(p a=true->bq Y ρ2 O elt (g a))) (hs:∀x,bL iter X.env x=pure x:=by intro _;rfl) (hl:(ys.zip vs).map (·.2)=vs:=by rfl):
  cD X ρ O (.ListComp elt [⟨tg,iter,[cond],0⟩] scope pos) ((l.filter p).map g):= .mk λσ F H Q s pp=>by
 have Ii:km X.N X.env.scope scope (ys.zip vs):=by rw[c.nms,c.scp];exact ka ok
 refine PE.to (Sb (own:=ys.zip vs) c.calm (by rw[c.nms];exact c.nd) z8 Ii (g:=T2 X scope tg) (tt:=SI X scope [cond]) (te:=Tf X scope elt)
  (λs0 H0 C cl fp pins s1 σ H v u Q I r h=>h s0 H0 C cl fp pins s1 u I r) (λs0 H0 C cl fp pins s1 σ H Q I h=>h s0 H0 C cl fp pins s1 I) (λs0 H0 C cl fp pins s1 σ H Q I h=>h s0 H0 C cl fp pins s1 I) hs) ?_
 exact Nv c hi (ka ok) rm hz (by rw[hl,<-hw.eq];exact gU) s pp
variable {ρ':dk} {x:Str} {p' uu:Pos} {rest:List Stmt} {kn:KR} {kr:KD}
theorem Fp {α:Type} {l:List α} {enc g:α->D} (ys:List Str) (vs:List Nat) {ρw:dk} (c:eZ W X N sc n true) (oB:(sc.names.lookup x==some .local)=true) (hk:(sc.kind== .function)=true) (Dj:(p'.line==pos.line)=true) (ha:(scope.names.any λ(n,k)=>n==x&&(k== .local||k== .cell))=false)
  (hi:pF X ρ O tg iter (l.map enc)) (ok:Eo N sc scope (ys.zip vs)=true) (rm:∀y∈lu tg,y∈(ys.zip vs).map (·.1)) (hz:l.length<=sizeLine) (hw:Wp ρ vs ρw)
  (gU:∀a∈l,∃ρ2,∀Y,eZ W Y N (yo scope sc) n false->F9 Y tg ρw (enc a) ρ2/\bq Y ρ2 O elt (g a)) (hx:uv N ρ x .non ρ')
  (h:∀q ρ'',uv N ρ x (.ptr q) ρ''->SV X ρ'' ((q,.lst (l.map g))::O) rest kn kr)
  (hs:∀x,bL iter X.env x=pure x:=by intro _;rfl) (hl:(ys.zip vs).map (·.2)=vs:=by rfl):
  SV X ρ O (.Assign [.Name x p'] (.ListComp elt [⟨tg,iter,[],0⟩] scope pos) uu::rest) kn kr:=ey<| .mk λσ F H E s pn pp=>by
 have Ii:km X.N X.env.scope scope (ys.zip vs):=by rw[c.nms,c.scp];exact ka ok
 obtain⟨i,yR⟩:=hx.has
 have Ae:X.env.scope.names.lookup x=some .local:=by rw[c.scp];exact eq_of_beq oB
 have Ar:X.env.scope.kind= .function:=by rw[c.scp];revert hk;cases sc.kind<;>simp<;>decide
 refine PS.to (Oz (i:=i) (own:=ys.zip vs) c.calm (by rw[c.nms];exact c.nd) (by rw[c.nms];exact yR) Ae (Iv Ar Ae Dj ha) z8 Ii (g:=T2 X scope tg) (tt:=SI X scope []) (te:=Tf X scope elt)
  (λs0 H0 C cl fp pins s1 σ H v u Q I r h=>h s0 H0 C cl fp pins s1 u I r) (λs0 H0 C cl fp pins s1 σ H Q I h=>h s0 H0 C cl fp pins s1 I) (λs0 H0 C cl fp pins s1 σ H Q I h=>h s0 H0 C cl fp pins s1 I) hs) ?_
 refine Nv (g:=g) (p:=λ_=>true) c hi (ka ok) rm hz (λa ha=>?_) s λv d O1 F1 H1 g1 su ow r q=>?_
 ·obtain⟨ρ2,h2⟩:=gU a ha
  refine⟨ρ2,λY cY=>?_⟩
  rw[hl,<-hw.eq]
  exact⟨(h2 Y cY).1,rfl,λ_=>(h2 Y cY).2⟩
 ·obtain⟨A,rfl,rfl⟩:=q
  obtain⟨ρ'',hp⟩:=hx.any (.ptr A)
  obtain⟨j,hj,rfl,jb⟩:=hp.ix
  obtain rfl:j=i:=gh c.nd hj yR
  have ft:l.filter (λ_=>true)=l:=List.filter_eq_self.mpr λ_ _=>rfl
  rw[ft]at ow
  simp only[ft]at g1
  exact pn _ _ _ F1 H1 g1 ((s.grow g1.ff su ow).put r jb) (h A _ hp)
theorem Pn {tgs:List aS} {kk:Nat} {e:aS} {d:D} (he:bq X ρ O e d) (hg:F9 X tg ρ d ρ') (h:SV X ρ' O rest kn kr) (hs:yA [tg] e uu.line X.env=pure false:=by rfl) (hw:yB [tg] e X.env=pure none:=by rfl)
  (h1:(gr [tg] X.env).map (·.2)=[lh tg X.env]:=by rfl):SV X ρ O (.Assign [tg] e uu::rest) kn kr:=ey<| .mk λσ F H E s pn pp=>
 PS.to (Gy bV IG hs hw h1) (he σ F H _ s λv d' O1 F1 H1 g su ow r ⟨q1,q2⟩=>by
  subst q1;subst q2
  exact hg σ F1 H1 _ v _ (s.grow g.ff su ow) r λσ2 s2 _ _=>pn σ2 _ _ F1 H1 g s2 h)
end
theorem sN:typeLookup (.type "tuple") "__reversed__"=pure none:=by rw[uH,lQ];kernel_rfl
theorem Ab:isSubtype (.type "tuple") (.type "dict")=pure false:=by rw[oz];kernel_rfl
def rvO (t:Addr) (i:Int):Obj:={cls:= .type "reversed",data:= .fields #[.ref t,rawInt i]}
theorem JL (t:Addr):Meets (lj.«reversed.__new__» ⟨[.type "reversed",.ref t],[]⟩) (λ_ R s=>∃items:Array Value,s.heap.IsTuple t items/\(items.size:Int)<2^62/\R (.ok (.ret (.ref s.heap.objs.size))) {s with heap:=s.heap.push (rvO t ((items.size:Int)-1)),toks:=s.toks+1+1}):=
 .of_wp λprog w A R s h=>by
  obtain⟨items,ht,Ep,h⟩:=h
  unfold lj.«reversed.__new__»
  refine wpAny_bind (iE (newClass_reversed _) ?_)
  try dsimp only
  refine wpAny_bind (iE (a:=()) (by first|rfl|kernel_rfl) ?_)
  refine wpAny_bind (iE (a:=()) (by first|rfl|kernel_rfl) ?_)
  try dsimp only
  refine wpAny_bind (uG ht.typeIs sN ?_)
  try dsimp only
  refine wpAny_bind ?_
  refine wpAny_bind (CN ht.typeIs Ab ?_)
  simp only[cq,if_false]
  refine wpAny_bind (uG ht.typeIs LK.lookup ?_)
  refine wpAny_pure ?_
  simp only[D3,cq,if_false]
  refine wpAny_bind (PyProof.Rows.len_tuple ht (by lia) ?_)
  refine wpAny_bind (iE (a:=some (items.size:Int)) rfl ?_)
  dsimp only
  unfold qf
  exact wpAny_bind (fI (wpAny_pure ⟨_,rfl,h⟩) (show(2:Nat)<=sizeLine+2 by decide))
theorem ux:Slot "reversed" "__init__" "object.__init__":=
 .of (owner:="object") (n:="__init__") (by rw[uH,lQ];kernel_rfl) (by decide+kernel) (by decide+kernel) (by decide+kernel)
  (by first|exact .inl (by decide+kernel)|exact .inr (by decide+kernel)) (by rw[oz];kernel_rfl)
theorem x9:TypeCalled "reversed" "reversed.__new__" "object.__init__":=
 ⟨by decide+kernel,by decide+kernel,⟨_,_,F.mro_reversed⟩,madeBy_type F.mro_reversed F.lookup_reversed_new (by decide+kernel),by decide+kernel,by rw[oz];kernel_rfl,ux⟩
section
variable {prog:bR} {w:du} {A:cG} {E:Value->ao->Prop} {s:ao}
theorem sL {t:Addr} {items:Array Value} {Q:Value->ao->Prop} (ht:s.heap.IsTuple t items) (Ep:(items.size:Int)<2^62)
  (h:Q (.ref s.heap.objs.size) {s with heap:=s.heap.push (rvO t ((items.size:Int)-1)),toks:=s.toks+1+1}):wpAny (aU prog w) A (call (.type "reversed") [.ref t]) Q E s:=
 callType_new x9 (by decide) (F.typeCall_reversed_1 _) (F.newCall_reversed_1 _) (λobj=>F.args_object_init_2 obj _) F.entry_reversed_new (JL t) ⟨items,ht,Ep,⟨⟨_,aK _ rfl,rfl⟩,h⟩⟩
end
theorem rM:Manifest.owners.lookup (String.ofList ['d','e','s','r','e','v','e','r'].reverse)=some Manifest.sig_reversed:=by kernel_rfl
theorem jQ:Slot "reversed" "__next__" "reversed.__next__":=
 .of (owner:="reversed") (n:="__next__") (by rw[uH,lQ];kernel_rfl) (by decide+kernel) (by decide+kernel) (by decide+kernel)
  (by first|exact .inl (by decide+kernel)|exact .inr (by decide+kernel)) (by rw[oz];kernel_rfl)
theorem tx:entryFor table "reversed.__next__"=some lj.«reversed.__next__»:=entryFor_of_tree (by kernel_rfl)
theorem rF (a:Value):LJ "reversed.__next__" ⟨[a],[]⟩:=by
 unfold LJ;rw[JH (id:="reversed.__next__") (n:=['_','_','t','x','e','n','_','_']) (o:=['d','e','s','r','e','v','e','r']) (by kernel_rfl) rM];kernel_rfl
theorem vm:Slot "reversed" "__iter__" "reversed.__iter__":=
 .of (owner:="reversed") (n:="__iter__") (by rw[uH,lQ];kernel_rfl) (by decide+kernel) (by decide+kernel) (by decide+kernel)
  (by first|exact .inl (by decide+kernel)|exact .inr (by decide+kernel)) (by rw[oz];kernel_rfl)
theorem AF (a:Value):LJ "reversed.__iter__" ⟨[a],[]⟩:=by
 unfold LJ;rw[JH (id:="reversed.__iter__") (n:=['_','_','r','e','t','i','_','_']) (o:=['d','e','s','r','e','v','e','r']) (by kernel_rfl) rM];kernel_rfl
theorem Bt:entryFor table "reversed.__iter__"=some lj.«dict_keyiterator.__iter__»:=
 entryFor_alias (id':="dict_keyiterator.__iter__") (by kernel_rfl) (by first|rfl|decide+kernel|(unfold String.splitOn;simp+decide [String.splitOnAux])) (by decide+kernel) (by kernel_rfl)
def Br (h:Heap) (a t:Addr) (i:Int):Prop:=∃o,h.get? a=some o/\o.cls= .type "reversed"/\o.data= .fields #[.ref t,rawInt i]
theorem Br.at {h h':Heap} {a t:Addr} {i:Int} (x:Br h a t i) (e:∀o,h.get? a=some o->h'.get? a=some o):Br h' a t i:=let ⟨o,ho,r⟩:=x;⟨o,e _ ho,r⟩
section
variable {prog:bR} {w:du} {A:cG} {E:Value->ao->Prop} {s:ao}
theorem Br.typeIs {a t:Addr} {i:Int} (x:Br s.heap a t i):s.TypeIs (.ref a) "reversed":=let ⟨o,ho,hc,_⟩:=x;⟨o,ho,hc⟩
theorem Cp {it t:Addr} {i:Int} {Q:Value->ao->Prop} (hit:Br s.heap it t i) (h:Q (.ref it) s):wpAny (aU prog w) A (pyIter (.ref it)) Q E s:=by
 refine wpAny_pyIter_slot hit.typeIs vm (f7 vm hit.typeIs Bt ?_ (AF _))
 show wpAny _ _ (ret (.ref it)) _ _ s
 exact wpAny_pure ⟨_,rfl,"reversed",_,hit.typeIs,jQ.lookup,h⟩
end
section
variable {prog:bR} {w:du} {A:cG} {E:Value->ao->Prop} {s:ao}
theorem zZ {it t:Addr} {i:Nat} {items:Array Value} {x:Value} {Q:Option Value->ao->Prop} (hit:Br s.heap it t (i:Int)) (ht:s.heap.IsTuple t items) (Ep:(items.size:Int)<2^62) (hx:items[i]? =some x)
  (hQ:∀h' tk,Br h' it t ((i:Int)-1)->jd it s.heap h'->Q (some x) {s with heap:=h',toks:=tk}):wpAny (aU prog w) A (t5 (.ref it)) Q E s:=by
 obtain⟨o,ho,hc,hd⟩:=id hit
 have jb:i<items.size:=(iW.mp hx).1
 unfold t5
 refine wpAny_bind (qC (eC (name:=kq "__next__") hit.typeIs jQ
  (f7 jQ hit.typeIs tx ?_ (rF _))))
 unfold lj.«reversed.__next__»
 refine wpAny_bind (iE (a:=(bt it,[])) rfl ?_)
 try dsimp only
 refine wpAny_bind (b9 ho hd (x:= .ref t) rfl ?_)
 refine wpAny_bind (b9 ho hd (x:=rawInt (i:Int)) rfl ?_)
 show wpAny _ _ (if (i:Int)<0 then _ else _) _ _ s
 rw[if_neg (by omega)]
 refine wpAny_bind (uG ht.typeIs LK.lookup ?_)
 simp only[fT,cq,if_false]
 refine wpAny_bind (wpAny_mkInt ?_)
 refine wpAny_bind (qC (PyProof.Rows.getItem_tuple (j:=i) (x:=x) ht (by omega) (by omega) ?_ hx ?_))
 ·unfold seqIndex?
  have h0:¬((i:Int)<0):=by omega
  simp only[h0,if_false]
  rw[if_pos (by simp;omega)]
  simp
 dsimp only
 refine wpAny_bind (b9 ho hd (x:=rawInt (i:Int)) rfl ?_)
 show wpAny _ _ (setField (.ref it) 1 (rawInt ((i:Int)-1))>>=_) _ _ _
 refine wpAny_bind (ju ho hd (by simp) ?_)
 refine wpAny_pure ⟨x,rfl,wpAny_pure (hQ _ _ ?_ (f9 ..))⟩
 exact⟨_,fX _ ho (k9 (fc hd _)),(OJ ..).trans hc,by
  rw[fc hd];simp⟩
theorem Ba {it t:Addr} {Q:Option Value->ao->Prop} (hh:A.handled=none) (hit:Br s.heap it t (-1))
  (hQ:∀h',zl it s.heap h'->Q none {s with heap:=h'}):wpAny (aU prog w) A (t5 (.ref it)) Q E s:=by
 obtain⟨o,ho,hc,hd⟩:=id hit
 unfold t5
 refine wpAny_bind (qC (eC (name:=kq "__next__") hit.typeIs jQ
  (f7 jQ hit.typeIs tx ?_ (rF _))))
 unfold lj.«reversed.__next__»
 refine wpAny_bind (iE (a:=(bt it,[])) rfl ?_)
 try dsimp only
 refine wpAny_bind (b9 ho hd (x:= .ref t) rfl ?_)
 refine wpAny_bind (b9 ho hd (x:=rawInt (-1)) rfl ?_)
 show wpAny _ _ (if (-1:Int)<0 then _ else _) _ _ s
 rw[if_pos (by decide)]
 refine wpAny_bind (zb ?_)
 refine wpAny_bind (m:=(do setField (.ref it) 1 (rawInt (-1));setField (.ref it) 0 .none)) (wpAny_bind (ju ho hd (by simp) ?_))
 have g1:=fX (oA (·.setIfInBounds 1 (rawInt (-1)))) ho (k9 (fc hd _))
 refine ju g1 (fc hd _) (by simp) ?_
 refine wpAny_bind ?_
 show wpAny _ _ (newExc (.type "StopIteration") []>>=_) _ _ _
 refine wpAny_bind ?_
 simp only[newExc,newTuple]
 refine wpAny_bind (fI ?_ (by size_fits))
 refine wpAny_bind (m:=wC _ _) (iE (a:=cK) (by first|rfl|(simp only[wC];rfl)) ?_)
 refine fI ?_ (by size_fits)
 simp only[raiseNew]
 refine wpAny_bind (wpAny_handled ?_)
 first|rw[show A.in1.handled=none from hh]|rw[hh]
 refine wpAny_bind (wpAny_pure (wpAny_throw ?_))
 refine wpAny_bind (CN (T:="StopIteration") (b:=true) ⟨_,aK _ rfl,rfl⟩ isSubtype_stop ?_)
 have e1:zl it s.heap ((s.heap.update it (oA (·.setIfInBounds 1 (rawInt (-1))))).update it (oA (·.setIfInBounds 0 .none))):=λb ob hb e=>((f9 ..).2 b hb).trans (((f9 ..).2 b hb).trans e)
 exact wpAny_pure (hQ _ ((e1.push _).push _))
end
def SH (K:ag) (a:Addr) (n:Nat):It:=
 ⟨λi H=>i<n/\∃(xs:List V) (x:V),o8 K H a xs/\xs[n-1-i]? =some x,λi H x H'=>H'=H/\∀xs,o8 K H a xs->xs[n-1-i]? =some x,λi _=>n<=i⟩
theorem QG {P:bR} {w:du} {K:ag} {tg:aS} (a it:Addr) (n:Nat):DG P w K tg (SH K a n) [it] it (λi h=>i<=n/\Br h it a ((n:Int)-1-(i:Int))) where
 mem:=by simp
 obj:=λi h st b hb=>by
  have e:b=it:=by simpa using hb
  subst e
  obtain⟨_,o,e,c,d⟩:=st
  exact⟨o,e,λv z=>by rw[d]at z;cases z⟩
 keep:=λi h h' st k=>⟨st.1,st.2.at λo e=>k it (by simp) o e⟩
 item:=by
  intro X hP hw hK hc i pins s σ H E I hf st hg
  subst hP hw hK
  obtain⟨Rq,xs,x,hq,hx⟩:=hg
  obtain⟨bW,rv,p,hz⟩:=I.tuple hq
  obtain⟨u,hu,ru⟩:=rv.get hx
  obtain⟨f0,f1,f2,f3,f4,f5⟩:=hf it (by simp)
  obtain⟨_,hit⟩:=st
  have e1:(n:Int)-1-((i:Nat):Int)=((n-1-i:Nat):Int):=by lia
  rw[e1]at hit
  have hl:=rv.length
  have Xj:xs.length<=16777216:=by rw[<-af];exact hz
  refine zZ hit p (by simp only[aG];lia) (x:=u) (by simpa using hu) λh' tk HG sb=>?_
  have e2:((n-1-i:Nat):Int)-1=(n:Int)-1-((i+1:Nat):Int):=by lia
  rw[e2]at HG
  have I1:L2.bG X pins σ H {s with heap:=h',toks:=tk}:=I.turned (t':=tk) (λb o hb e=>(sb.2 b hb).trans e) f0 f1 f3 f4 f5
  obtain⟨o,e,c,d⟩:=id HG
  exact⟨u,rfl,E5 (s:={s with heap:=h',toks:=tk}) e c d (by decide) ⟨x,H,I1,ru,⟨rfl,λys hy=>by rw[I.tuple_inj hy hq];exact hx⟩,⟨Rq,HG⟩,λb hb=>(hf b hb).1⟩⟩
 done:=by
  intro X hP hw hK hc i pins s σ H E I hf st hg
  subst hP hw hK
  obtain⟨f0,f1,f2,f3,f4,f5⟩:=hf it (by simp)
  obtain⟨Rq,hit⟩:=st
  have hge:n<=i:=hg
  have e1:(n:Int)-1-((i:Nat):Int)= -1:=by lia
  rw[e1]at hit
  exact Ba (I.ok.hd hc) hit λh' eb=>⟨rfl,I.turned (t':=s.toks) (λb o hb e=>eb b o hb e) f0 f1 f3 f4 f5⟩
 self:=λA i s Q E st h=>Cp st.2 h
theorem Pg {K:ag} {l:Addr} {vs:List V} {ds:List D} {F1:Hp} (hl:o8 K F1 l vs) (r:cg K F1 ds vs):CT K (SH K l ds.length) ds.reverse F1:=λi F2 H2 O2 s1 s2 ow=>by
 have Cd:=s1.trans s2
 refine⟨λd hd=>?_,λhi=>by rw[JI]at hi;exact hi⟩
 have hi:i<ds.length:=by have:=(bh.mp hd).1;rwa [JI]at this
 rw[List.getElem?_reverse hi]at hd
 obtain⟨v,hv,rv⟩:=r.get hd
 refine⟨⟨hi,vs,v,o8.same Cd hl,hv⟩,λx H3 hy=>?_⟩
 obtain⟨rfl,hy⟩:=hy
 have:=hy vs (o8.same Cd hl)
 rw[hv]at this;cases this
 exact⟨F2,.refl,s2,ow,rv.mono s1⟩
section
variable {W:dg} {X:Cx} {N:List Str} {sc:Scope} {n:Nat} {tp:Bool} {ρ:dk} {O:Os} {tg e:aS} {ds:List D} {pos p:Pos}
theorem PV (c:eZ W X N sc n tp) (hg:mr sc "reversed") (hm:W.mg "reversed"=none) (h:bq X ρ O e (.tup ds)) (hs:ak [e] X.env=[(false,eval e X.env)]):pF X ρ O tg (.Call (.Name "reversed" p) [e] [] pos) ds.reverse:= .mk λσ F H R s q pins s0 I=>by
 refine qg (oG I (c.gl hg) (by rw[c.glob];exact hm) Al (cx (fb (aa h az hs σ F H (λvs H1=>∃a1 us,vs=[.ref a1]/\o8 X.K H1 a1 us/\us.length=ds.length/\R (SH X.K a1 ds.length) H1) s (λvs ds' O1 F1 H1 g su ow r ⟨q1,q2⟩=>?_) pos pins s0 I) λus s1 ⟨vs,H1,I1,r1,q1⟩=>?_) hs rfl))
 ·subst q1;subst q2
  obtain⟨v,rfl,rv⟩:=rO r
  obtain⟨l1,Km,rfl,Lb,Px⟩:=rv
  exact⟨l1,Km,rfl,o8.same su Lb,Px.length.symm,q _ F1 H1 g su ow (Pg Lb Px)⟩
 ·obtain⟨a,xs,e1,hq,hlen,q⟩:=q1
  subst e1
  cases r1 with
  |cons r rr=>
   cases rr
   cases r
   obtain⟨bW,rv,p',hz⟩:=I1.tuple hq
   have hl:=rv.length
   have Xj:xs.length<=16777216:=by rw[<-af];exact hz
   have e2:((bW.toArray.size:Nat):Int)-1=(ds.length:Int)-1-((0:Nat):Int):=by simp only[aG];lia
   refine sL p' (by simp only[aG];lia) (Cp (t:=a) (i:=((bW.toArray.size:Nat):Int)-1) ⟨_,aK _ rfl,rfl,rfl⟩ ?_)
   refine MI (tk:=s1.toks+1+1) I1 _ (QG a _ ds.length) ⟨eS _,?_⟩ q
   rw[<-e2]
   exact⟨_,aK _ rfl,rfl,rfl⟩
end
structure Gv (W:dg) (x:Str) (d:D):Prop where
 ex:∃v u,W.mg x=some u/\dQ v u/\∀F,sP W.K F d v
section
variable {W:dg} {X:Cx} {N:List Str} {sc:Scope} {n:Nat} {tp:Bool} {ρ:dk} {O:Os} {pos:Pos} {x:Str} {d:D}
theorem WJ (c:eZ W X N sc n tp) (h:Gv W x d) (hg:mr sc x) (hd:(x==("__debug__":Str))=false):bq X ρ O (.Name x pos) d:=by
 obtain⟨v,u,h1,h2,h3⟩:=h.ex
 exact NC c hg h1 h2 h3 hd
end
theorem dO {X:Cx} {ρ:dk} {O:Os} {e:aS} {i:Int} (h:bq X ρ O e (.int i)):OV X ρ O (some e) (some i):=⟨i,rfl,h⟩
theorem Qg {X:Cx} {ρ:dk} {O:Os}:OV X ρ O none none:=rfl
abbrev dl (l:List Int):D:= .lst (l.map .int)
theorem bF (l:List Int):(l.map D.int).length=l.length:=ah _
section
variable {W:dg} {X:Cx} {N:List Str} {sc:Scope} {n:Nat} {ρ:dk} {O:Os} {pos p':Pos} {x:Str} {e:aS} {ds:List D} {rest:List Stmt} {kn:KR} {kr:KD}
theorem gk (ρf:Addr->dk) (c:eZ W X N sc n true) (hl:Bh true sc x=true) (he:cD X ρ O e ds) (hx:∀q,uv N ρ x (.ptr q) (ρf q)) (h:∀q,SV X (ρf q) ((q,.lst ds)::O) rest kn kr) (hs:eA e (some (.Name x p')) pos.line X.env=pure false):SV X ρ O (.Assign [.Name x p'] e pos::rest) kn kr:=
 ey (lM c hl (hx 0).has (EV.mono he λd O' ⟨q,e1,e2⟩=>by subst e1;subst e2;exact⟨ρf q,hx q,h q⟩) hs)
theorem j7 {i:Int} {a b:aS} {α:Type} {l:List α} {f:α->D} (ha:bq X ρ O a (.lst (l.map f))) (hb:bq X ρ O b (.int i)) {k:Nat} {z:α} (hk:i=k) (h:l[k]? =some z) (hs:lG b):bq X ρ O (.Subscript a b pos) (f z):=
 UO ha hb (by subst hk;exact vG (by rw[aE,h];rfl)) hs
end
section
variable {X:Cx} {ρ:dk} {O:Os} {a b:aS} {pos p2:Pos} {ds:List D}
theorem Rr {q:Addr} {lo hi:Option aS} {l h:Option Int} {p2:Pos} (ha:bq X ρ O a (.ptr q)) (hq:(q,.lst ds)∈O) (hl:OV X ρ O lo l) (hh:OV X ρ O hi h):cD X ρ O (.Subscript a (.Slice lo hi none p2) pos) (yy ds l h):= .mk λσ F H Q s p=>by
 have uN:∀{e:Option aS} {o:Option Int},OV X ρ O e o->∃t:TO,PO X e t/\∀σ F H (Q:Option Int->Hp->Prop),jE X.K F ρ O σ H->(∀F' H',dI (cU O) F H (cU O) F' H'->bX F' H'->cB X.K F' O H'->Q o H')->t σ H Q:=by
  intro e o h
  cases e with
  |none=>cases (show o=none from h);exact⟨_,vd,λσ F H Q s q=>q F H .refl s.sub s.own⟩
  |some e=>
   obtain⟨i,rfl,h⟩:=h
   exact⟨_,vh bV,λσ F H Q s q=>h σ F H _ s λv d O1 F1 H1 g su ow r ⟨q1,q2⟩=>by subst q1;subst q2;exact⟨i,r,q F1 H1 g su ow⟩⟩
 obtain⟨t1,pl,h1⟩:=uN hl
 obtain⟨t2,ph,h2⟩:=uN hh
 refine PE.to (zx C3 bV pl ph) (ha σ F H _ s λv d1 O1 F1 H1 g su ow r ⟨q1,q2⟩=>?_)
 subst q1;subst q2
 refine h1 σ F1 H1 _ (s.grow g.ff su ow) λF2 H2 g2 gX gB=>h2 σ F2 H2 _ (s.grow (g.ff.trans g2.ff) gX gB) λF3 H3 g3 kX kN=>?_
 obtain rfl:v=V.ref q:=r
 obtain⟨_,vs,hv,r1⟩:=kN.at_ _ hq
 exact⟨q,vs,rfl,iL.of hv,jn kX kN (r1.cut l h) (p.after ((g.trans g2).trans g3))⟩
theorem Mt {q:Addr} {lo hi:Option aS} {st:aS} {l h w:Option Int} (ha:bq X ρ O a (.ptr q)) (hq:(q,.lst ds)∈O) (hl:OV X ρ O lo l) (hh:OV X ρ O hi h) (hw:OV X ρ O (some st) w) (h0:w≠some 0):cD X ρ O (.Subscript a (.Slice lo hi (some st) p2) pos) (gj ds l h w):= .mk λσ F H Q s p=>by
 have uN:∀{e:Option aS} {o:Option Int},OV X ρ O e o->∃t:TO,PO X e t/\∀σ F H (Q:Option Int->Hp->Prop),jE X.K F ρ O σ H->(∀F' H',dI (cU O) F H (cU O) F' H'->bX F' H'->cB X.K F' O H'->Q o H')->t σ H Q:=by
  intro e o h
  cases e with
  |none=>cases (show o=none from h);exact⟨_,vd,λσ F H Q s q=>q F H .refl s.sub s.own⟩
  |some e=>
   obtain⟨i,rfl,h⟩:=h
   exact⟨_,vh bV,λσ F H Q s q=>h σ F H _ s λv d O1 F1 H1 g su ow r ⟨q1,q2⟩=>by subst q1;subst q2;exact⟨i,r,q F1 H1 g su ow⟩⟩
 obtain⟨t1,pl,h1⟩:=uN hl
 obtain⟨t2,ph,h2⟩:=uN hh
 obtain⟨t3,pw,h3⟩:=uN hw
 intro pins s0 I0
 refine xZ (fb (ha σ F H (λx H1=>∃F1,dI (cU O) F H (cU O) F1 H1/\bX F1 H1/\cB X.K F1 O H1/\sP X.K F1 (.ptr q) x) s (λx d O1 F1 H1 g su ow r ⟨q1,q2⟩=>by subst q1;subst q2;exact⟨F1,g,su,ow,r⟩) pins s0 I0) λv s1 ⟨x,H1,I1,r1,F1,g1,L8,Lw,rx⟩=>?_)
 refine D0 (fb (pl pins s1 σ H1 _ I1 (h1 σ F1 H1 (λo H2=>o=l/\∃F2,dI (cU O) F1 H1 (cU O) F2 H2/\bX F2 H2/\cB X.K F2 O H2) (s.grow g1.ff L8 Lw) λF2 H2 g su ow=>⟨rfl,F2,g,su,ow⟩)) λvl s2 ⟨o2,H2,I2,il,Y9,F2,g2,gX,gB⟩=>?_)
 subst Y9
 refine fb (ph pins s2 σ H2 _ I2 (h2 σ F2 H2 (λo H3=>o=h/\∃F3,dI (cU O) F2 H2 (cU O) F3 H3/\bX F3 H3/\cB X.K F3 O H3) (s.grow (g1.ff.trans g2.ff) gX gB) λF2 H2 g su ow=>⟨rfl,F2,g,su,ow⟩)) λvu s3 ⟨o3,H3,I3,ih,eo3,F3,g3,kX,kN⟩=>?_
 subst eo3
 refine fb (pw pins s3 σ H3 _ I3 (h3 σ F3 H3 (λo H4=>o=w/\∃F4,dI (cU O) F3 H3 (cU O) F4 H4/\bX F4 H4/\cB X.K F4 O H4) (s.grow ((g1.ff.trans g2.ff).trans g3.ff) kX kN) λF2 H2 g su ow=>⟨rfl,F2,g,su,ow⟩)) λvw s4 ⟨o4,H4,I4,iw,Yd,F4,g4,D8,BO⟩=>?_
 subst Yd
 have I5:L2.bG X pins σ H4 {s4 with heap:=s4.heap.push {cls:= .type "slice",data:= .fields #[vl,vu,vw]}}:=I4.kept (t':=s4.toks) λb ob q=>au _ q
 obtain rfl:x=V.ref q:=rx
 cases r1
 have f:=(g2.ff.trans g3.ff).trans g4.ff
 obtain⟨_,vs,hv4,rr⟩:=BO.at_ _ hq
 obtain⟨bW,rv,ht,hz⟩:=I5.list (iL.of hv4)
 have hlen:=rv.length
 show wpAny (aU X.prog X.w) X.A (wo a (.Slice lo hi (some st) p2) (.ref q) (.ref s4.heap.objs.size)) (EP X pins σ Q) X.xe _
 refine zj (ops:=[.ref q,.ref s4.heap.objs.size]) ht.isList.typeIs qc.lookup ?_ (by with_unfolding_all rfl)
 refine qt ht.isList (kF ..) il ih iw h0 ?_ (by rw[aG];lia)
 have e1:xk bW.toArray o2 o3 o4=(gj bW o2 o3 o4).toArray:=by
  unfold xk gj
  simp
 have hsz:=Ve bW.toArray o2 o3 o4
 rw[e1]at hsz⊢
 have rl:=rr.length
 have pk:b8 (gj vs o2 o3 o4) (gj bW o2 o3 o4):=by
  unfold gj
  rw[<-hlen]
  exact b8.pick rv _
 have Zu:cg X.K F4 (gj ds o2 o3 o4) (gj vs o2 o3 o4):=by
  unfold gj
  rw[<-rl]
  exact rr.pick _
 have Av:(gj vs o2 o3 o4).length<=sizeLine:=by
  rw[pk.length]
  simp only[aG]at hsz
  lia
 refine⟨.ref (s4.heap.push _).objs.size,_,I5.laid (t':=s4.toks) (o:= .lst (gj vs o2 o3 o4)) (λb ob q=>au _ q) (aO _) ?_,rfl,jn D8 BO Zu (p.after (((g1.trans g2).trans g3).trans g4)) _ (I5.hok.fresh (aO _))⟩
 exact⟨Av,_,0,pk,aK _ rfl⟩
end
theorem BQ {α β:Type} (f:α->β) (l:List α) (a b w:Option Int):gj (l.map f) a b w=(gj l a b w).map f:=by
 unfold gj
 rw[ah,List.map_filterMap]
 congr 1
 funext i
 rw[aE]
theorem tJ (l:List Int):∀{ix:List Nat},(∀i∈ix,i<l.length)->ix.filterMap (l[·]?)=ix.map (λi=>l.getD i 0)
 |[],_=>rfl
 |i::ix,h=>by
  have hi:=h i ae
  rw[eH,aI hi,bg,tJ l λj hj=>h j (ai _ hj),M.dX l i 0 hi]
theorem vC (l:List Int) (a w n:Nat) (jm:Int) (hs:jm=a) (h:∀k,k<n->a+w*k<l.length):((ar n).map λ(k:Nat)=>(jm+(w:Int)*(k:Int)).toNat).filterMap (l[·]?)=M.m7 l a w n:=by
 subst hs
 have e:((ar n).map λ(k:Nat)=>((a:Int)+(w:Int)*(k:Int)).toNat)=(ar n).map λk=>a+w*k:=aW λk _=>by
  have:(a:Int)+(w:Int)*(k:Int)=((a+w*k:Nat):Int):=by push_cast;rfl
  rw[this];rfl
 rw[e,tJ l λi hi=>?_]
 ·rw[aF];rfl
 ·obtain⟨k,hk,rfl⟩:=ay.mp hi
  exact h k (BB.mp hk)
theorem Dv (l:List Int) (c w n:Nat) (hw:0<w) (hl:l.length=w*n) (hc:c<w):gj l (some (c:Int)) none (some (w:Int))=M.m7 l c w n:=by
 unfold gj e9
 simp only[eT]
 have Vr:(w:Int)>0:=by lia
 simp only[Vr,if_true]
 unfold Sw
 simp only[Vr,if_true]
 have hc0:¬((c:Int)<0):=by lia
 simp only[hc0,if_false]
 by_cases hn:n=0
 ·subst hn
  have:l.length=0:=by rw[hl];rfl
  rw[if_neg (by lia)]
  rfl
 ·have h1:w*1<=w*n:=b6 w (by lia)
  have e2:max (0:Int) (min (c:Int) (l.length:Int))=(c:Int):=by lia
  rw[e2,if_pos (by lia)]
  have e3:((l.length:Int)-(c:Int)+(w:Int)-1)/(w:Int)=(n:Int):=by
   rw[hl]
   have:((w*n:Nat):Int)-(c:Int)+(w:Int)-1=((w:Int)-1-(c:Int))+(w:Int)*(n:Int):=by push_cast;lia
   rw[this,sH _ _ (by lia),qE (by lia) (by lia)]
   lia
  rw[e3,bC]
  refine vC l c w n _ rfl λk hk=>?_
  have:w*(k+1)<=w*n:=b6 w hk
  rw[eJ]at this
  lia
theorem Bj (l:List Int) (a w n:Nat) (hw:0<w) (hl:a+w*n<l.length+w) (hn:0<n):gj l (some (a:Int)) (some ((a+n*w:Nat):Int)) (some (w:Int))=M.m7 l a w n:=by
 unfold gj e9
 simp only[eT]
 have Vr:(w:Int)>0:=by lia
 simp only[Vr,if_true]
 unfold Sw
 simp only[Vr,if_true]
 have hc0:¬((a:Int)<0):=by lia
 have WU:¬(((a+n*w:Nat):Int)<0):=by lia
 simp only[hc0,WU,if_false]
 have h1:w*1<=w*n:=b6 w (by lia)
 have h2:n*w=w*n:=bE _ _
 have e2:max (0:Int) (min (a:Int) (l.length:Int))=(a:Int):=by lia
 rw[e2]
 have hk:∀k,k<n->a+w*k<l.length:=λk hk=>by
  have:w*(k+1)<=w*n:=b6 w hk
  rw[eJ]at this
  lia
 have h3:=hk (n-1) (by lia)
 have h4:w*(n-1)+w=w*n:=by rw[<-eJ];congr 1;lia
 rw[if_pos (by lia)]
 have e3:(max (0:Int) (min (((a+n*w:Nat):Int)) (l.length:Int))-(a:Int)+(w:Int)-1)/(w:Int)=(n:Int):=by
  have:∃t:Nat,t<w/\max (0:Int) (min (((a+n*w:Nat):Int)) (l.length:Int))-(a:Int)+(w:Int)-1=((t:Nat):Int)+(w:Int)*(n:Int):=by
   have e5:(w:Int)*(n:Int)=((w*n:Nat):Int):=by push_cast;rfl
   rw[e5,h2]
   by_cases hh:a+w*n<=l.length
   ·exact⟨w-1,by lia,by lia⟩
   ·exact⟨l.length+w-1-a-w*n,by lia,by lia⟩
  obtain⟨t,ht,e⟩:=this
  rw[e,sH _ _ (by lia),qE (by lia) (by lia)]
  lia
 rw[e3,bC]
 exact vC l a w n _ rfl hk
section
variable {W:dg} {X:Cx} {N:List Str} {sc:Scope} {n:Nat} {ρ:dk} {O:Os} {tg iter elt:aS} {scope:Scope} {pos:Pos} {ρ':dk} {x:Str} {p' uu:Pos} {rest:List Stmt} {kn:KR} {kr:KD}
theorem Ql {d:D} {q:Addr} {ρ'':dk} {ds:List D} (h:uv N ρ x (.ptr q) ρ'') (h':uv N ρ x (.lst ds) ρ') (nd:N.Nodup) (i:Nat):ρ'[i]? =ρ''[i]? \/(ρ''[i]? =some (some (.ptr q))/\ρ'[i]? =some (some (.lst ds))):=by
 obtain⟨j,hj,rfl,jb⟩:=h.ix
 obtain⟨j',XJ,rfl,_⟩:=h'.ix
 obtain rfl:j'=j:=gh nd XJ hj
 by_cases e:j'=i
 ·subst e;right;exact⟨by rw[cy jb],by rw[cy jb]⟩
 ·left;rw[cf e,cf e]
theorem nF {α:Type} {l:List α} {enc g:α->D} (ys:List Str) (vs:List Nat) {ρw:dk} (c:eZ W X N sc n true) (oB:(sc.names.lookup x==some .local)=true) (hk:(sc.kind== .function)=true) (Dj:(p'.line==pos.line)=true) (ha:(scope.names.any λ(n,k)=>n==x&&(k== .local||k== .cell))=false)
  (hi:pF X ρ O tg iter (l.map enc)) (ok:Eo N sc scope (ys.zip vs)=true) (rm:∀y∈lu tg,y∈(ys.zip vs).map (·.1)) (hz:l.length<=sizeLine) (hw:Wp ρ vs ρw)
  (gU:∀a∈l,∃ρ2,∀Y,eZ W Y N (yo scope sc) n false->F9 Y tg ρw (enc a) ρ2/\bq Y ρ2 O elt (g a)) (hx:uv N ρ x (.lst (l.map g)) ρ')
  (h:SV X ρ' O rest kn kr) (hs:∀x,bL iter X.env x=pure x:=by intro _;rfl) (hl:(ys.zip vs).map (·.2)=vs:=by rfl):
  SV X ρ O (.Assign [.Name x p'] (.ListComp elt [⟨tg,iter,[],0⟩] scope pos) uu::rest) kn kr:=by
 obtain⟨ρn,hn⟩:=hx.any .non
 refine Fp ys vs c oB hk Dj ha hi ok rm hz hw gU hn (λq ρ'' hp=>?_) hs hl
 exact NT (Ql (d:= .non) hp hx c.nd) h
end
def wT:List (String×String):=[("get","=Og.here,-Og.there"),("put","=uv.here,-uv.there"),("fl","=Fl.here,-Fl.there"),("dr","=Dr.here,-Dr.there"),("wk","=Wk.nil,-Wk.same,-Wk.drop"),("fz","=Fz.nil,-Fz.turn,-Fz.same"),
 ("n","OE cgkkk"),("e","=bI,=se,n,jr ee,vO ee,lH eem,rK eeL,PR eel,QQ eel,Mx ee,yK e,OC ee,Ul ee,wF tAA,PQ sz,Rp ccker,Ji cckeerrr,P6 cckeerrr,WJ cckk,Iw eerI,oQ ccckefr 0412356,kH ccker,Ha err"),
 ("es","=az,aa esr"),("t","Dh ee,C6 ee,DT ee,rA ee,Ac ee,lF e,kO t,FA.ptv w,fV eS"),("w","Io tW,oH tW,FI t,oK t"),("wp","=Wp.nil,Wp.cons Pd"),("tg1","MZ ckp"),("tgs","=MG,JK ckpTr"),("tg2","Qj cTrr")]
open Lean in
def wA (x:String):MacroM (TSyntax `tactic):=do
 let g (x:String):Ident:=mkCIdent ("G."++x).toName
 match x.toList with
 |'='::r=>`(tactic|with_reducible exact $(g (String.ofList r)))
 |'-'::r=>`(tactic|with_reducible apply $(g (String.ofList r)))
 |_=>
  let n::h::o:=x.splitOn " "|`(tactic|walk_at $(quote x))
  let h:=h.toList
  let q (i:Nat):MacroM Ident:=return mkIdent (<-MonadQuotation.addMacroScope (Name.mkSimple s!"q{i}"))
  let ns:=List.range h.length
  let hs<-ns.mapM λi=>do `(?$(<-q i))
  let z<-`(tactic|with_reducible refine' $(Syntax.mkApp (g n) hs.toArray))
  let os:=match o with|[o]=>o.toList.map λ(c:Char)=>c.toNat-48|_=>ns
  os.foldlM (λr i=>do
   let t<-match h.getD i 'c' with
    |'c'=>`(tactic|assumption)
    |'k'=>`(tactic|decide +kernel)
    |'r'=>`(tactic|rfl)
    |'S'=>`(tactic|(intro _;rfl))
    |'I'=>`(tactic|(intro _ _;rfl))
    |'A'=>`(tactic|(intro _;walk_at "e"))
    |'W'=>`(tactic|(intro _;walk_at "w"))
    |'l'=>`(tactic|lia)
    |'L'=>`(tactic|(constructor<;>lia))
    |'z'=>`(tactic|(rw[PySem.sizeLine_eq];simp only[List.length_cons,List.length_nil];decide))
    |c=>`(tactic|walk_at $(quote (([('g',"get"),('m',"cm"),('s',"es"),('f',"fl"),('P',"wp"),('d',"dr"),('p',"put"),('T',"tgs")].lookup c).getD (toString c))))
   `(tactic|($r;case $(<-q i):ident=>$t:tactic))) z
open Lean in
def wR (s:String):MacroM (TSyntax `tactic):=do
 let some x:=wT.lookup s|Macro.throwUnsupported
 let b::l:=(x.splitOn ",").reverse|Macro.throwUnsupported
 let z<-l.foldlM (λr b=>do `(tactic|first|$(<-wA b):tactic|$r:tactic)) (<-wA b)
 if b.startsWith "-" then `(tactic|repeat $z:tactic) else return z
local macro_rules|`(tactic|walk_at $s:str)=>wR s.getString
local macro_rules | `(tactic| walk_at "cm") => `(tactic| first | assumption | (left; constructor <;> lia) | (right; constructor <;> lia))
local macro_rules | `(tactic| walk_at "el") => `(tactic| ((refine' Exists.intro ?rr ?hh); (case hh => (intro Y c'; (refine' And.intro ?tg ?el); (case tg => walk_at "tg1"); (case el => walk_at "e")))))
local macro_rules | `(tactic| walk_at "ec") => `(tactic| ((refine' bq.cast ?ea ?eq); (case ea => walk_at "e")))
local macro_rules | `(tactic| walk_at "ov") => `(tactic| ((refine' dO (bq.cast ?ea ?eq)); (case ea => walk_at "e")))
local macro_rules | `(tactic| walk_at "fs") => `(tactic| exact ⟨rfl, rfl, rfl, by decide +kernel, rfl, by decide +kernel, by decide +kernel⟩)
abbrev jk (l:List Bool):D:= .lst ((M.gi l).map .int)
def UW (ds:List D) (d:D):Prop:=∃n:Nat,ds=[.int n]/\d= .int (dw n).length
def Qm (ds:List D) (xs:List D):Prop:=∃n:Nat,n<2^40/\ds=[.int n]/\xs=(M.gi (dw n)).map .int
theorem Ht (n:Nat):iG ((n:Int)+1)=(n+1).log2+1:=by
 unfold iG
 rw[if_neg (by simp;omega)]
 congr 1
theorem yw {W:dg} (B:Bn W) (T:dC W "number_length" "number_length" pR ["number"]):ax W "number_length" 1 (dS UW):=by
 refine aQ (N:=["number"]) T (by walk_at "fs") (λds O k h=>?_) λX c ds O k h=>?_
 ·obtain⟨_,_,⟨z,rfl,_⟩,_⟩:=h;rfl
 ·obtain⟨rfl,_,⟨z,rfl,rfl⟩,hk⟩:=h
  change SV X [some (.int z)] [] _ _ _
  refine aT (bq.go (d:= .int (dw z).length) ?_ hk)
  refine' bq.cast (d:=?d) ?e ?q
  case e=>walk_at "e"
  case q=>rw[Ht,M.mi];congr 1;lia
theorem tN (n:Nat) (h:n<2^40):(dw n).length<=81:=by
 rw[M.mi]
 have:(n+1).log2<41:=M.DS (by lia) (by lia)
 lia
theorem Be {W:dg} (B:Bn W) (T:dC W "number_bits" "number_bits" tY ["number"]) (c1:ax W "number_length" 1 (dS UW)):ax W "number_bits" 2 (cv Qm):=by
 refine aQ (N:=["number","value","k"]) T (by walk_at "fs") (λds O k h=>?_) λX c ds O k h=>?_
 ·obtain⟨_,_,⟨z,_,rfl,_⟩,_⟩:=h;rfl
 ·obtain⟨rfl,_,⟨z,hz,rfl,rfl⟩,hk⟩:=h
  change SV X [some (.int z),none,none] [] _ _ _
  refine' bK c ?hl ?he ?hp ?hr
  case hl=>decide+kernel
  case he=>walk_at "e"
  case hp=>walk_at "put"
  case hr=>
   refine aT ?_
   refine EV.own_k (ds:=(M.gi (dw z)).map .int) ?_ hk
   refine' cD.cast (ds:=?ds) ?e ?q
   case e=>
    refine' fP ["k"] [2] (enc:=D.int) c ?hi ?ok ?ho ?hz ?wp ?gU
    case hi=>
     refine' kC (l:=(dw z).length) c ?g B.range ?ea ?eb ?ec ?rg
     case g=>decide+kernel
     case ea=>
      refine' vO (cI c c1 (by decide) ?g2 ?args ⟨z,rfl,rfl⟩) bI
      case g2=>decide+kernel
      case args=>walk_at "es"
     case eb=>walk_at "e"
     case ec=>walk_at "e"
     case rg=>
      have h:=tN z hz
      have:=NA.neg (i:=((dw z).length:Int)-1) (j:= -1) (by lia) (by lia) (by lia) (by lia)
      rwa [show(((dw z).length:Int)-1- -1).toNat=(dw z).length by lia]at this
    case ok=>decide+kernel
    case ho=>decide+kernel
    case hz=>have h:=tN z hz;rw[ez,af];lia
    case wp=>walk_at "wp"
    case gU=>
     intro a ha
     obtain⟨i,hi,ea⟩:=L5 ha
     have h0:0<=a:=by lia
     clear ea
     walk_at "el"
   case q=>
    rw[M.Pz,M.Ce,<-M.mi,aF]
    refine aW λj _=>?_
    simp only[bP]
    rw[yE]
    rfl
def Tg (ds:List D) (d:D):Prop:=∃z:Int,ds=[.int z]/\d= .int (M.Ou z)
theorem GR {W:dg} (T:dC W "unsigned" "unsigned" Aq ["number"]):ax W "unsigned" 1 (dS Tg):=by
 refine aQ (N:=["number"]) T (by walk_at "fs") (λds O k h=>?_) λX c ds O k h=>?_
 ·obtain⟨_,_,⟨z,rfl,_⟩,_⟩:=h;rfl
 ·obtain⟨rfl,_,⟨z,rfl,rfl⟩,hk⟩:=h
  change SV X [some (.int z)] [] _ _ _
  refine aT (bq.go (d:= .int (M.Ou z)) ?_ hk)
  refine' bq.cast (d:=?d) ?e ?q
  case e=>walk_at "e"
  case q=>unfold M.Ou;simp only[decide_eq_true_eq];split<;>rfl
def RQ (ds:List D) (d:D):Prop:=∃z:Int,ds=[.int z]/\d= .int (eE z).length
theorem yq {W:dg} (T:dC W "signed_length" "signed_length" pG ["number"]) (c1:ax W "number_length" 1 (dS UW)) (c2:ax W "unsigned" 1 (dS Tg)):ax W "signed_length" 2 (dS RQ):=by
 refine aQ (N:=["number"]) T (by walk_at "fs") (λds O k h=>?_) λX c ds O k h=>?_
 ·obtain⟨_,_,⟨z,rfl,_⟩,_⟩:=h;rfl
 ·obtain⟨rfl,_,⟨z,rfl,rfl⟩,hk⟩:=h
  change SV X [some (.int z)] [] _ _ _
  refine aT (bq.go (d:= .int (eE z).length) ?_ hk)
  refine' cI c c1 (by decide) ?g ?args ⟨(M.Ou z).toNat,rfl,by rw[M.o7]⟩
  case g=>decide+kernel
  case args=>
   refine' aa (bq.cast (cI c c2 (by decide) ?g2 ?a2 ⟨z,rfl,rfl⟩) ?q) az
   case g2=>decide+kernel
   case a2=>walk_at "es"
   case q=>have:=M.um z;congr 1;lia
def R7 (ds:List D) (xs:List D):Prop:=∃z:Int,-1000<z/\z<1000/\ds=[.int z]/\xs=(M.gi (eE z)).map .int
theorem Bz {W:dg} (T:dC W "signed_bits" "signed_bits" tF ["number"]) (c1:ax W "number_bits" 2 (cv Qm)) (c2:ax W "unsigned" 1 (dS Tg)):ax W "signed_bits" 3 (cv R7):=by
 refine aQ (N:=["number"]) T (by walk_at "fs") (λds O k h=>?_) λX c ds O k h=>?_
 ·obtain⟨_,_,⟨z,_,_,rfl,_⟩,_⟩:=h;rfl
 ·obtain⟨rfl,_,⟨z,z1,z2,rfl,rfl⟩,hk⟩:=h
  change SV X [some (.int z)] [] _ _ _
  refine aT (EV.own_k (ds:=(M.gi (eE z)).map .int) ?_ hk)
  refine' aV c c1 (by decide) ?g ?args ⟨(M.Ou z).toNat,?b,rfl,by rw[M.o7]⟩
  case g=>decide+kernel
  case b=>have:=M.um z;unfold M.Ou at*;split<;>omega
  case args=>
   refine' aa (bq.cast (cI c c2 (by decide) ?g2 ?a2 ⟨z,rfl,rfl⟩) ?q) az
   case g2=>decide+kernel
   case a2=>walk_at "es"
   case q=>have:=M.um z;congr 1;omega
theorem NA.mul {i m:Int} {n:Nat} (hm:0<m) (hm2:m<1073741824) (ha: -(2^40)<=i) (ha':i<2^40) (Sz:m*n<2^40):NA i (i+m*n) m n:=by
 have h0:0<=m*(n:Int):=Int.mul_nonneg (by lia) (by lia)
 have hr:fZ i (i+m*n) m=n:=by
  unfold fZ
  rw[if_pos hm]
  by_cases hn:n=0
  ·subst hn;simp
  ·have h1:m*1<=m*(n:Int):=Int.mul_le_mul_of_nonneg_left (by lia) (by lia)
   rw[if_pos (by lia)]
   have e:i+m*(n:Int)-i-1=(m-1)+m*((n:Int)-1):=by rw[Int.mul_sub];lia
   rw[e,sH _ _ (by lia),qE (by lia) (by lia)]
   lia
 refine⟨by lia,by lia,?_,hr⟩
 unfold AO
 rw[hr]
 have hn:(n:Int)<=m*n:=by
  have:=Int.mul_le_mul_of_nonneg_right (show(1:Int)<=m by lia) (show(0:Int)<=(n:Int) by lia)
  lia
 generalize m*(n:Int)=mn at*
 simp only[lj.Range.rangeFitsLong,aH,eP,decide_eq_true_eq,beq_iff_eq,show(m>0)=True from eq_true hm,if_true]
 lia
theorem L7 (xs:List D) (a b:Nat):yy xs (some (a:Int)) (some (b:Int))=(xs.drop a).take (b-a):=by
 unfold yy
 rw[HT.De,HT.De]
 by_cases h:a<=xs.length
 ·rw[rY h]
  by_cases h2:b<=xs.length
  ·rw[rY h2]
  ·rw[OX (by lia),cz (by rw[ba];lia),cz (by rw[ba];lia)]
 ·rw[OX (show xs.length<=a by lia),fJ (show xs.length<=a by lia),fJ (aO _)]
  simp
theorem j9 {α:Type} (f:α->D) (xs:List α) (a b:Nat):yy (xs.map f) (some (a:Int)) (some (b:Int))=((xs.drop a).take (b-a)).map f:=by
 rw[L7,D4,D5]
theorem Et (l:List Int) (x:Int):M.m8 (l++[x])=2*M.m8 l+x:=by simp[M.m8]
theorem MS (l:List Bool) (n:Nat):M.gi (l.drop n)=(M.gi l).drop n:=by simp[M.gi,D5]
theorem Md (l:List Bool) (n:Nat):M.gi (l.take n)=(M.gi l).take n:=by simp[M.gi,D4]
theorem M6 (l:List Bool):M.gi (M.p8 l)=M.gi l++aq ((-(l.length:Int))%8).toNat 0:=by
 unfold M.p8;rw[M.kB];congr 1;simp[M.gi,M.bi]
theorem l7 (z:D):∀n:Nat,(aq n [z]).flatten=aq n z
 |0=>rfl
 |n+1=>by rw[eI,ck,l7 z n];rfl
theorem cW {α:Type} {l:List α} {i:Nat} {a:α} (h:l[i]? =some a):l.take (i+1)=l.take i++[a]:=by
 rw[List.take_succ,h];rfl
def Sj (ds:List D) (xs:List D):Prop:=∃l:List Bool,l.length<2^23/\ds=[jk l]/\xs=(Rd16.ints (Rd16.packed (l.length+1) l)).map .int
theorem NW {W:dg} (B:Bn W) (T:dC W "packed" "packed" EE ["bits"]):ax W "packed" 1 (cv Sj):=by
 refine aQ (N:=["bits","filled","row","start","byte","bit"]) T (by walk_at "fs") (λds O k h=>?_) λX c ds O k h=>?_
 ·obtain⟨_,_,⟨z,_,rfl,_⟩,_⟩:=h;rfl
 ·obtain⟨rfl,_,⟨l,hl,rfl,rfl⟩,hk⟩:=h
  have hf:=M.xO l
  have hpk:(M.kJ l).length=(l.length+7)/8:=by simp[M.kJ]
  rw[<-M.xg (l.length+1) l (by lia)]at hk
  change SV X [some (jk l),none,none,none,none,none] [] _ _ _
  refine' bK (d:=jk (M.p8 l)) c ?hl ?he ?hp ?hr
  case hl=>decide+kernel
  case hp=>walk_at "put"
  case he=>
   refine cD.pev (cD.cast (oV (ds:=(M.gi l).map .int) (es':=aq ((-(l.length:Int))%8).toNat (.int 0)) ?_ (cD.pev (cD.cast (lL (ds:=[.int 0]) (i:=(-(l.length:Int))%8) (cD.pev (dP ?_ ?_)) ?_ ?_ ?_ ?_) ?_)) ?_) ?_)
   ·walk_at "n"
   ·walk_at "es"
   ·show 1<=sizeLine;rw[af];decide
   ·walk_at "ec"
    rw[bF,M.bH]
   ·lia
   ·lia
   ·show 1*_<=sizeLine;rw[af];lia
   ·exact l7 _ _
   ·rw[bF,M.bH,aP,af];lia
   ·rw[M6,aY,dU]
  case hr=>
   refine' gk (ds:=[]) (λq=>[some (jk l),some (jk (M.p8 l)),some (.ptr q),none,none,none]) c ?hl (dP az ?z) ?hx ?zh ?hs
   case hl=>decide+kernel
   case z=>show 0<=sizeLine;rw[af];decide
   case hx=>intro q;walk_at "put"
   case hs=>rfl
   case zh=>
    intro q
    refine' gy c ?hi (λi ρ1 O1=>ρ1=[some (jk l),some (jk (M.p8 l)),some (.ptr q),none,none,none]/\O1=[(q,.lst (((M.kJ l).take i).map .int))]) ⟨rfl,rfl⟩ ?step ?done
    case hi=>
     refine' kC (i:=0) (j:=0+8*(((l.length+7)/8:Nat):Int)) (m:=8) (l:=(l.length+7)/8) c ?g B.range ?ea ?eb ?ec ?rg
     case g=>decide+kernel
     case ea=>walk_at "e"
     case eb=>
      walk_at "ec"
      rw[bF,M.bH,hf];congr 1;lia
     case ec=>walk_at "e"
     case rg=>exact NA.mul (by lia) (by lia) (by lia) (by lia) (by lia)
    case done=>
     rintro ρ1 O1 ⟨rfl,rfl⟩
     rw[ah,ez,cz (by lia)]
     exact aT (bq.go (d:= .ptr q) (by walk_at "n") (hk q))
    case step=>
     rintro i d ρ1 O1 hd ⟨rfl,rfl⟩
     obtain⟨hi,rfl⟩:=gf hd
     refine⟨_,by walk_at "tg1",?_⟩
     refine' bK (d:= .int 0) c ?hl bI ?Yc ?h2
     case hl=>decide+kernel
     case Yc=>walk_at "put"
     case h2=>
      generalize wu:((M.gi (M.p8 l)).drop (8*i)).take 8=ch
      have II:ch.length=8:=by rw[<-wu,aA,ba,M.bH,hf];lia
      refine' gy (ds:=ch.map .int) c ?yR (λj ρ1 O1=>ρ1=[some (jk l),some (jk (M.p8 l)),some (.ptr q),some (.int (0+(i:Int)*8)),some (.int (M.m8 (ch.take j))),none]/\O1=[(q,.lst (((M.kJ l).take i).map .int))]) ⟨rfl,rfl⟩ ?V7 ?VH
      case yR=>
       refine fe (cD.pev (cD.cast (rS (ds:=(M.gi (M.p8 l)).map .int) (l:=some (((8*i:Nat):Int))) (h:=some ((8*i+8:Nat):Int)) ?_ ?_ ?_) ?_))
       ·walk_at "n"
       ·walk_at "ov"
        congr 1;lia
       ·walk_at "ov"
        congr 1;lia
       ·rw[j9,<-wu];congr 2;lia
      case V7=>
       rintro j d2 ρ1 O1 hd2 ⟨rfl,rfl⟩
       rw[aE]at hd2
       obtain⟨z,hz,rfl⟩:=bU.mp hd2
       refine⟨_,by walk_at "tg1",?_⟩
       refine' bK (d:= .int (M.m8 (ch.take (j+1)))) c ?hl ?QE ?ZO ?h3
       case hl=>decide+kernel
       case QE=>
        walk_at "ec"
        rw[cW hz,Et]
       case ZO=>walk_at "put"
       case h3=>
        refine' aL ?w ⟨rfl,rfl⟩
        case w=>walk_at "wk"
      case VH=>
       rintro ρ1 O1 ⟨rfl,rfl⟩
       rw[ah,dB]
       refine' fE (sx (q:=q) ?ho ⟨_,ae⟩ (bq.go (d:= .int (M.m8 ch)) ?he ⟨_,_,.here,?hz,?hk⟩))
       case ho=>walk_at "n"
       case he=>walk_at "n"
       case hz=>rw[bF,aA,af];lia
       case hk=>
        refine' aL ?w ⟨rfl,?qq⟩
        case w=>walk_at "wk"
        case qq=>
         have:(M.kJ l)[i]? =some (M.m8 ch):=by
          unfold M.kJ
          rw[aE,dE hi,<-wu,<-MS,<-Md];rfl
         rw[cW this,aY];rfl
theorem DI {es:List aS} {kk:Nat} {p:Pos} {env:Env}:∀x,bL (.Tuple es kk p) env x=pure x:=λx=>rfl
def Ib (ds:List D) (xs:List D):Prop:=∃b:df,b.length<2^20/\ds=[dl (Rd16.ints b)]/\xs=(M.gi (gE b)).map .int
def ur (c:Int):List Int:=([7,6,5,4,3,2,1,0]:List Int).map λk=>(c/2^k.toNat)%2
theorem yr (l:List Int):((l.map ur).flatten).length=8*l.length:=by
 rw[M.eG (w:=8)]
 ·rw[ah];lia
 ·intro r hr;obtain⟨c,_,rfl⟩:=ay.mp hr;rfl
theorem Hl {W:dg} (B:Bn W) (T:dC W "unpacked" "unpacked" zW ["row"]):ax W "unpacked" 1 (cv Ib):=by
 refine aQ (N:=["row","bits","byte","k"]) T (by walk_at "fs") (λds O k h=>?_) λX c ds O k h=>?_
 ·obtain⟨_,_,⟨z,_,rfl,_⟩,_⟩:=h;rfl
 ·obtain⟨rfl,_,⟨b,hb,rfl,rfl⟩,hk⟩:=h
  have Lu:(Rd16.ints b).length<2^20:=by simpa[Rd16.ints] using hb
  have eb:M.gi (gE b)=((Rd16.ints b).map ur).flatten:=M.Kq b
  rw[eb]at hk
  generalize Rd16.ints b=l at hk Lu
  change SV X [some (dl l),none,none,none] [] _ _ _
  refine' gk (ds:=[]) (λq=>[some (dl l),some (.ptr q),none,none]) c ?hl (dP az ?z) ?hx ?zh ?hs
  case hl=>decide+kernel
  case z=>show 0<=sizeLine;rw[af];decide
  case hx=>intro q;walk_at "put"
  case hs=>rfl
  case zh=>
   intro q
   refine' gy (ds:=l.map .int) c ?hi (λi ρ1 O1=>ρ1=[some (dl l),some (.ptr q),none,none]/\O1=[(q,.lst ((((l.take i).map ur).flatten).map .int))]) ⟨rfl,rfl⟩ ?step ?done
   case hi=>exact fe (by walk_at "n")
   case done=>
    rintro ρ1 O1 ⟨rfl,rfl⟩
    rw[ah,dB]
    exact aT (bq.go (d:= .ptr q) (by walk_at "n") (hk q))
   case step=>
    rintro i d ρ1 O1 hd ⟨rfl,rfl⟩
    rw[aE]at hd
    obtain⟨z,hz,rfl⟩:=bU.mp hd
    have hi:i<l.length:=(bh.mp hz).1
    refine⟨_,by walk_at "tg1",?_⟩
    refine' fE (gQ (q:=q) ?ho ⟨_,ae⟩ (bq.go (d:=dl (ur z)) ?he ⟨_,(ur z).map .int,_,rfl,.here,?hz,?hk⟩))
    case ho=>walk_at "n"
    case he=>
     refine' cD.pev (cD.cast (ds:=?BS) ?eU ?qU)
     case eU=>
      refine' fP ["k"] [3] (l:=([7,6,5,4,3,2,1,0]:List Int)) (enc:=D.int) c (oJ ?yR) ?ok ?AR ?Av ?wp ?gU ?hs9 rfl
      case hs9=>exact DI
      case yR=>
       walk_at "ec"
       rfl
      case ok=>decide+kernel
      case AR=>decide+kernel
      case Av=>rw[af];decide
      case wp=>walk_at "wp"
      case gU=>
       intro a ha
       have h0:0<=a:=by simp at ha;lia
       clear ha
       walk_at "el"
     case qU=>
      unfold ur
      rw[aF]
      refine aW λj _=>?_
      simp only[bP]
      rw[yE]
    case hz=>rw[bF,bF,yr,aA,show(ur z).length=8 from rfl,af];lia
    case hk=>
     refine' aL ?w ⟨rfl,?qq⟩
     case w=>walk_at "wk"
     case qq=>rw[cW hz,aY,dc,aY];simp
theorem JT (n:Nat):ia 0 1 n=(ar n).map λ(i:Nat)=>(i:Int):=by
 unfold ia;exact aW λi _=>by lia
def Fs (ds:List D) (xs:List D):Prop:=∃(l:List Int) (w n:Nat),0<w/\w<2^20/\l.length=w*n/\l.length<2^23/\ds=[dl l,.int w]/\xs=(M.cN l w n).map dl
theorem JS {W:dg} (B:Bn W) (T:dC W "rows_of" "rows_of" B9 ["points","wide"]):ax W "rows_of" 1 (cv Fs):=by
 refine aQ (N:=["points","wide","start"]) T (by walk_at "fs") (λds O k h=>?_) λX c ds O k h=>?_
 ·obtain⟨_,_,⟨_,_,_,_,_,_,_,rfl,_⟩,_⟩:=h;rfl
 ·obtain⟨rfl,_,⟨l,w,n,w1,w2,hl,Ae,rfl,rfl⟩,hk⟩:=h
  have XA:n<=w*n:=Nat.le_mul_of_pos_left n w1
  have hwn:(w:Int)*(n:Int)=((w*n:Nat):Int):=by push_cast;rfl
  change SV X [some (dl l),some (.int w),none] [] _ _ _
  refine aT (EV.own_k (ds:=(M.cN l w n).map dl) ?_ hk)
  refine' cD.cast (ds:=?BS) ?eU ?qU
  case eU=>
   refine' fP ["start"] [2] (l:=ia 0 w n) (enc:=D.int) c ?hi ?ok ?ho ?hz ?wp ?gU
   case hi=>
    refine' kC (i:=0) (j:=0+(w:Int)*(n:Int)) (m:=w) (l:=n) c ?g B.range ?ea ?eb ?ec ?rg
    case g=>decide+kernel
    case ea=>walk_at "e"
    case eb=>
     walk_at "ec"
     rw[bF,hl,hwn];congr 1;lia
    case ec=>walk_at "e"
    case rg=>exact NA.mul (by lia) (by lia) (by lia) (by lia) (by lia)
   case ok=>decide+kernel
   case ho=>decide+kernel
   case hz=>rw[ez,af];lia
   case wp=>walk_at "wp"
   case gU=>
    intro a ha
    refine⟨[some (dl l),some (.int w),some (.int a)],λY cY=>⟨by walk_at "tg1",?_⟩⟩
    refine cD.pev (rS (ds:=l.map .int) (l:=some a) (h:=some (a+w)) ?_ ?_ ?_)
    ·walk_at "n"
    ·exact dO (by walk_at "e")
    ·exact dO (by walk_at "e")
  case qU=>
   unfold M.cN ia
   rw[aF,aF]
   refine aW λi _=>?_
   simp only[bP]
   have e1:(0:Int)+(i:Int)*(w:Int)=((w*i:Nat):Int):=by push_cast;rw[Int.mul_comm];lia
   have e2:(0:Int)+(i:Int)*(w:Int)+(w:Int)=((w*i+w:Nat):Int):=by rw[e1];push_cast;rfl
   rw[e2,e1,j9,show w*i+w-w*i=w by lia]
def BK (ds:List D) (xs:List D):Prop:=∃R:List (List Int),R.flatten.length<2^23/\ds=[.lst (R.map dl)]/\xs=R.flatten.map .int
theorem DH (R:List (List Int)) (i:Nat) (r:List Int) (h:R[i]? =some r):(R.take i).flatten.length+r.length<=R.flatten.length:=by
 have hs:=cW h
 have:((R.take (i+1))++R.drop (i+1)).flatten.length=R.flatten.length:=by rw[Gp]
 rw[hs,dc,aj,dc,aj]at this
 rw[ck,List.flatten_nil,br]at this
 lia
theorem Ny {W:dg} (T:dC W "joined" "joined" EK ["rows"]):ax W "joined" 1 (cv BK):=by
 refine aQ (N:=["rows","points","row"]) T (by walk_at "fs") (λds O k h=>?_) λX c ds O k h=>?_
 ·obtain⟨_,_,⟨_,_,rfl,_⟩,_⟩:=h;rfl
 ·obtain⟨rfl,_,⟨R,hR,rfl,rfl⟩,hk⟩:=h
  change SV X [some (.lst (R.map dl)),none,none] [] _ _ _
  refine' gk (ds:=[]) (λq=>[some (.lst (R.map dl)),some (.ptr q),none]) c ?hl (dP az ?z) ?hx ?zh ?hs
  case hl=>decide+kernel
  case z=>show 0<=sizeLine;rw[af];decide
  case hx=>intro q;walk_at "put"
  case hs=>rfl
  case zh=>
   intro q
   refine' gy (ds:=R.map dl) c ?hi (λi ρ1 O1=>ρ1=[some (.lst (R.map dl)),some (.ptr q),none]/\O1=[(q,.lst ((R.take i).flatten.map .int))]) ⟨rfl,rfl⟩ ?step ?done
   case hi=>exact fe (by walk_at "n")
   case done=>
    rintro ρ1 O1 ⟨rfl,rfl⟩
    rw[ah,dB]
    exact aT (bq.go (d:= .ptr q) (by walk_at "n") (hk q))
   case step=>
    rintro i d ρ1 O1 hd ⟨rfl,rfl⟩
    rw[aE]at hd
    obtain⟨z,hz,rfl⟩:=bU.mp hd
    have hle:=DH R i z hz
    refine⟨_,by walk_at "tg1",?_⟩
    refine' fE (gQ (q:=q) ?ho ⟨_,ae⟩ (bq.go (d:=dl z) ?he ⟨_,z.map .int,_,rfl,.here,?hz,?hk⟩))
    case ho=>walk_at "n"
    case he=>walk_at "n"
    case hz=>rw[bF,bF,af];lia
    case hk=>
     refine' aL ?w ⟨rfl,?qq⟩
     case w=>walk_at "wk"
     case qq=>rw[cW hz,dc,aY];simp
def Jp (ds:List D) (xs:List D):Prop:=∃(l:List Int) (w n:Nat),0<w/\w<2^20/\l.length=w*n/\l.length<2^23/\ds=[dl l,.int w]/\xs=(M.j6 l w n).map .int
theorem MJ {W:dg} (B:Bn W) (T:dC W "turned" "turned" FT ["points","wide"]) (c1:ax W "joined" 1 (cv BK)):ax W "turned" 2 (cv Jp):=by
 refine aQ (N:=["points","wide","column"]) T (by walk_at "fs") (λds O k h=>?_) λX c ds O k h=>?_
 ·obtain⟨_,_,⟨_,_,_,_,_,_,_,rfl,_⟩,_⟩:=h;rfl
 ·obtain⟨rfl,_,⟨l,w,n,w1,w2,hl,Ae,rfl,rfl⟩,hk⟩:=h
  change SV X [some (dl l),some (.int w),none] [] _ _ _
  refine aT (EV.own_k (ds:=(M.j6 l w n).map .int) ?_ hk)
  refine' aV c c1 (by decide) ?g ?args ⟨(ar w).map λc=>M.m7 l c w n,?b,rfl,rfl⟩
  case g=>decide+kernel
  case b=>have:=M.iM l w n;unfold M.j6 at this;lia
  case args=>
   refine' aa (cD.pev (cD.cast (ds:=?BS) ?eU ?qU)) az
   case eU=>
    refine' fP ["column"] [2] (l:=ia 0 1 w) (enc:=D.int) c ?hi ?ok ?ho ?hz ?wp ?gU
    case hi=>
     refine' iO (j:=w) c ?g B.range ?ea ?b1 ?b2
     case g=>decide+kernel
     case ea=>walk_at "e"
     case b1=>lia
     case b2=>lia
    case ok=>decide+kernel
    case ho=>decide+kernel
    case hz=>rw[ez,af];lia
    case wp=>walk_at "wp"
    case gU=>
     intro a ha
     refine⟨[some (dl l),some (.int w),some (.int a)],λY cY=>⟨by walk_at "tg1",?_⟩⟩
     refine cD.pev (Pc (ds:=l.map .int) (l:=some a) (h:=none) (w:=some (w:Int)) ?_ ?_ ?_ ?_ ?_)
     ·walk_at "n"
     ·exact dO (by walk_at "e")
     ·exact Qg
     ·exact dO (by walk_at "e")
     ·intro h;have:=bo h;lia
   case qU=>
    rw[JT,aF,aF]
    refine aW λi hi=>?_
    have Ly:i<w:=by simpa using hi
    simp only[bP]
    rw[BQ,Dv l i w n w1 hl Ly]
def iA (wide left top side:Nat):List Int:=(ar side).map λ(r:Nat)=>(((top+r)*wide+left:Nat):Int)
def DN (ds:List D) (xs:List D):Prop:=∃wide left top side:Nat,wide<2^20/\left<2^20/\top<2^20/\side<2^20/\ds=[.int wide,.int left,.int top,.int side]/\xs=(iA wide left top side).map .int
theorem xc {W:dg} (B:Bn W) (T:dC W "starts_of_rows" "starts_of_rows" nD ["wide","left","top","side"]):ax W "starts_of_rows" 1 (cv DN):=by
 refine aQ (N:=["wide","left","top","side","row"]) T (by walk_at "fs") (λds O k h=>?_) λX c ds O k h=>?_
 ·obtain⟨_,_,⟨_,_,_,_,_,_,_,_,rfl,_⟩,_⟩:=h;rfl
 ·obtain⟨rfl,_,⟨wide,left,top,side,h1,h2,h3,h4,rfl,rfl⟩,hk⟩:=h
  change SV X [some (.int wide),some (.int left),some (.int top),some (.int side),none] [] _ _ _
  refine aT (EV.own_k (ds:=(iA wide left top side).map .int) ?_ hk)
  refine' cD.cast (ds:=?BS) ?eU ?qU
  case eU=>
   refine' fP ["row"] [4] (l:=ia top 1 (((top:Int)+side)-top).toNat) (enc:=D.int) c ?hi ?ok ?ho ?hz ?wp ?gU
   case hi=>
    refine' uj (i:=top) (j:=(top:Int)+side) c ?g B.range ?ea ?eb ?b1
    case g=>decide+kernel
    case ea=>walk_at "e"
    case eb=>walk_at "e"
    case b1=>lia
   case ok=>decide+kernel
   case ho=>decide+kernel
   case hz=>rw[ez,af];lia
   case wp=>walk_at "wp"
   case gU=>
    intro a ha
    walk_at "el"
  case qU=>
   unfold iA ia
   rw[aF,aF,show(((top:Int)+side)-top).toNat=side by lia]
   refine aW λi _=>?_
   simp only[bP]
   congr 1
   push_cast
   rw[t6]
def U5 (ds:List D) (xs:List D):Prop:=∃(l:List Int) (wide left top side:Nat),wide<2^20/\left<2^20/\top<2^20/\side<2^10/\ds=[dl l,.int wide,.int left,.int top,.int side]/\xs=(M.p9 l wide left top side).map .int
theorem QX (l:List Int) (wide left top side:Nat):(M.p9 l wide left top side).length<=side*side:=by
 have:∀n:Nat,(((ar n).map λr=>(l.drop ((top+r)*wide+left)).take side).flatten).length<=n*side:=by
  intro n
  induction n with
  |zero=>simp
  |succ n ih=>
   rw[qF,aY,dc,aj,fk]
   have:(BF (λr=>List.take side (List.drop ((top+r)*wide+left) l)) [n]).flatten.length<=side:=by simp;omega
   omega
 exact this side
theorem VF {W:dg} (B:Bn W) (T:dC W "cut" "cut" R4 ["points","wide","left","top","side"]) (c1:ax W "joined" 1 (cv BK)) (c2:ax W "starts_of_rows" 1 (cv DN)):ax W "cut" 2 (cv U5):=by
 refine aQ (N:=["points","wide","left","top","side","starts","start"]) T (by walk_at "fs") (λds O k h=>?_) λX c ds O k h=>?_
 ·obtain⟨_,_,⟨_,_,_,_,_,_,_,_,_,rfl,_⟩,_⟩:=h;rfl
 ·obtain⟨rfl,_,⟨l,wide,left,top,side,h1,h2,h3,h4,rfl,rfl⟩,hk⟩:=h
  change SV X [some (dl l),some (.int wide),some (.int left),some (.int top),some (.int side),none,none] [] _ _ _
  refine' bK (d:=dl (iA wide left top side)) c ?hl (cD.pev ?he) ?hp ?hr
  case hl=>decide+kernel
  case he=>
   refine' aV c c2 (by decide) ?g ?args ⟨wide,left,top,side,h1,h2,h3,by omega,rfl,rfl⟩
   case g=>decide+kernel
   case args=>walk_at "es"
  case hp=>walk_at "put"
  case hr=>
   refine aT (EV.own_k (ds:=(M.p9 l wide left top side).map .int) ?_ hk)
   refine' aV c c1 (by decide) ?g ?args ⟨(ar side).map λr=>(l.drop ((top+r)*wide+left)).take side,?b,rfl,rfl⟩
   case g=>decide+kernel
   case b=>have:=QX l wide left top side;unfold M.p9 at this;have:side*side<=1024*1024:=cX (by omega) (by omega);omega
   case args=>
    refine' aa (cD.pev (cD.cast (ds:=?BS) ?eU ?qU)) az
    case eU=>
     refine' fP ["start"] [6] (l:=iA wide left top side) (enc:=D.int) (g:=λa=>D.lst (yy (l.map .int) (some a) (some (a+side)))) c (fe ?hi) ?ok ?ho ?hz ?wp ?gU
     case hi=>walk_at "n"
     case ok=>decide+kernel
     case ho=>decide+kernel
     case hz=>unfold iA;rw[ah,fv,af];omega
     case wp=>walk_at "wp"
     case gU=>
      intro a ha
      refine⟨_,λY cY=>⟨by walk_at "tg1",?_⟩⟩
      refine cD.pev (rS ?_ ?_ ?_)
      ·walk_at "n"
      ·exact dO (by walk_at "e")
      ·exact dO (by walk_at "e")
    case qU=>
     unfold iA
     rw[aF,aF]
     refine aW λi _=>?_
     simp only[bP]
     have e2:(((top+i)*wide+left:Nat):Int)+(side:Int)=((((top+i)*wide+left)+side:Nat):Int):=by push_cast;rfl
     rw[e2,j9,show(top+i)*wide+left+side-((top+i)*wide+left)=side by omega]
def S3 (ds:List D) (O:Os) (k:KD):Prop:=∃(q:Addr) (l:List Int) (wide left top side high:Nat) (fN:List Int),l.length=wide*high/\left+side<=wide/\top+side<=high/\fN.length=side*side/\0<side/\wide<2^10/\high<2^10/\
 ds=[.ptr q,.int wide,.int left,.int top,.int side,dl fN]/\O=[(q,.lst (l.map .int))]/\k .non [(q,.lst ((M.oa l wide left top side fN side).map .int))]
theorem HV {l:List Int} {w n i:Nat} (h:i<n):(M.cN l w n)[i]? =some ((l.drop (w*i)).take w):=by
 unfold M.cN;rw[aE,dE h];rfl
theorem AG {α β:Type} {l1:List α} {l2:List β} {f:α×β->D} {i:Nat} {d:D} (h:((l1.zip l2).map f)[i]? =some d):∃a b,l1[i]? =some a/\l2[i]? =some b/\d=f (a,b):=by
 rw[aE]at h
 obtain⟨⟨a,b⟩,h1,rfl⟩:=bU.mp h
 obtain⟨h2,h3⟩:=CO.mp h1
 exact⟨a,b,h2,h3,rfl⟩
theorem VO {W:dg} (B:Bn W) (T:dC W "lay" "lay" Sm ["points","wide","left","top","side","piece"]) (c1:ax W "rows_of" 1 (cv Fs)) (c2:ax W "starts_of_rows" 1 (cv DN)):ax W "lay" 2 S3:=by
 refine aQ (N:=["points","wide","left","top","side","piece","starts","start","row"]) T (by walk_at "fs") (λds O k h=>?_) λX c ds O k h=>?_
 ·obtain⟨_,_,_,_,_,_,_,_,_,_,_,_,_,_,_,rfl,_⟩:=h;rfl
 ·obtain⟨q,l,wide,left,top,side,high,fN,h1,h2,h3,h4,h5,h6,h7,rfl,rfl,hk⟩:=h
  have Vl:wide*high<=1024*1024:=cX (by lia) (by lia)
  have hss:side*side<=1024*1024:=cX (by lia) (by lia)
  change SV X [some (.ptr q),some (.int wide),some (.int left),some (.int top),some (.int side),some (dl fN),none,none,none] [(q,.lst (l.map .int))] _ _ _
  refine' bK (d:=dl (iA wide left top side)) c ?hl (cD.pev ?he) ?hp ?hr
  case hl=>decide+kernel
  case he=>
   refine' aV c c2 (by decide) ?g ?args ⟨wide,left,top,side,by lia,by lia,by lia,by lia,rfl,rfl⟩
   case g=>decide+kernel
   case args=>walk_at "es"
  case hp=>walk_at "put"
  case hr=>
   refine' gy (ds:=((iA wide left top side).zip (M.cN fN side side)).map λq=>D.tup [.int q.1,dl q.2]) c ?hi (λi ρ1 O1=>ρ1=[some (.ptr q),some (.int wide),some (.int left),some (.int top),some (.int side),some (dl fN),some (dl (iA wide left top side)),none,none]/\O1=[(q,.lst ((M.oa l wide left top side fN i).map .int))]) ?h0 ?step ?done
   case hi=>
    refine' iN (e1:=D.int) (e2:=dl) c ?g B.zip ?ea (cD.pev ?eb)
    case g=>decide+kernel
    case ea=>walk_at "n"
    case eb=>
     refine' aV c c1 (by decide) ?g2 ?vF ⟨fN,side,side,by lia,by lia,h4,by lia,rfl,rfl⟩
     case g2=>decide+kernel
     case vF=>walk_at "es"
   case h0=>rw[M.J7];exact⟨rfl,rfl⟩
   case done=>
    rintro ρ1 O1 ⟨rfl,rfl⟩
    refine aL (Wk.refl _) ?_
    have:(((iA wide left top side).zip (M.cN fN side side)).map λq=>D.tup [.int q.1,dl q.2]).length=side:=by
     simp[iA,M.cN]
    rw[this]
    exact hk
   case step=>
    rintro i d ρ1 O1 hd ⟨rfl,rfl⟩
    obtain⟨a,b,ha,hb,rfl⟩:=AG hd
    have hi:i<side:=by have:=(bh.mp ha).1;simpa[iA] using this
    obtain rfl:a=(((top+i)*wide+left:Nat):Int):=by
     unfold iA at ha;rw[aE,dE hi]at ha;exact(bo ha).symm
    rw[HV hi]at hb
    obtain rfl:=(bo hb).symm
    have hls:=M.Li l wide left top side high fN i h1 h2 hi (by lia) h4
    have hll:=M.vx l wide left top side fN i
    have hm:(top+i)*wide+wide<=wide*high:=by
     rw[<-fk,bE wide high];exact dz _ (by lia)
    have Lu:((fN.drop (side*i)).take side).length<=side:=by rw[aA];lia
    refine⟨_,by walk_at "tg2",?_⟩
    refine' E2 (q:=q) (zs:=((fN.drop (side*i)).take side).map .int) (a:=(((top+i)*wide+left:Nat):Int)) (b:=(((top+i)*wide+left+side:Nat):Int)) ?he ?ho ?hl ?hh ?h0 ?Zq ?hb ?hz .here ?zh
    case he=>walk_at "n"
    case ho=>walk_at "n"
    case hl=>walk_at "n"
    case hh=>
     walk_at "ec"
     push_cast;rfl
    case h0=>lia
    case Zq=>lia
    case hb=>rw[bF,hll,h1];lia
    case hz=>rw[bF,bF,hll,h1,af];lia
    case zh=>
     refine' aL ?w ⟨rfl,?qq⟩
     case w=>walk_at "wk"
     case qq=>
      rw[<-hls,bC,bC]
      simp only[aY,D4,D5]
abbrev l5 (P:Addr) (w h:Nat) (d:D):D:= .ins P ["wide","high","points"] [.int w,.int h,d]
def G4 (P:Addr) (ds:List D) (xs:List D):Prop:=∃(w h i j:Nat) (l:List Int),w<=256/\h<=256/\i<16/\j<16/\ds=[l5 P w h (dl l),.int i,.int j]/\xs=(M.p9 l w (16*i) (16*j) 16).map .int
theorem C9 {W:dg} {P:Addr} (hC:iS W.K P) (n1:aM W.K P "points") (n2:aM W.K P "wide") (gS:Gv W "SIDE" (.int 16)) (T:dC W "cut_square" "cut_square" vQ ["picture","i","j"]) (c1:ax W "cut" 2 (cv U5)):ax W "cut_square" 3 (cv (G4 P)):=by
 refine aQ (N:=["picture","i","j"]) T (by walk_at "fs") (λds O k h=>?_) λX c ds O k h=>?_
 ·obtain⟨_,_,⟨_,_,_,_,_,_,_,_,_,rfl,_⟩,_⟩:=h;rfl
 ·obtain⟨rfl,_,⟨w,h,i,j,l,hw,hh,hi,hj,rfl,rfl⟩,hk⟩:=h
  change SV X [some (l5 P w h (dl l)),some (.int i),some (.int j)] [] _ _ _
  refine aT (EV.own_k (ds:=(M.p9 l w (16*i) (16*j) 16).map .int) ?_ hk)
  refine' aV c c1 (by decide) ?g ?args ⟨l,w,16*i,16*j,16,by lia,by lia,by lia,by lia,?q,rfl⟩
  case g=>decide+kernel
  case args=>walk_at "es"
  case q=>simp only[Eb.injEq,D.int.injEq,and_true,true_and];lia
def GV (P:Addr) (ds:List D) (O:Os) (k:KD):Prop:=∃(q:Addr) (w h i j:Nat) (l sq:List Int),w<=256/\h<=256/\l.length=w*h/\16*i+16<=w/\16*j+16<=h/\sq.length=256/\
 ds=[l5 P w h (.ptr q),.int i,.int j,dl sq]/\O=[(q,.lst (l.map .int))]/\k .non [(q,.lst ((M.oa l w (16*i) (16*j) 16 sq 16).map .int))]
theorem DR {W:dg} {P:Addr} (hC:iS W.K P) (n1:aM W.K P "points") (n2:aM W.K P "wide") (gS:Gv W "SIDE" (.int 16)) (T:dC W "lay_square" "lay_square" vj ["picture","i","j","square"]) (c1:ax W "lay" 2 S3):ax W "lay_square" 3 (GV P):=by
 refine aQ (N:=["picture","i","j","square"]) T (by walk_at "fs") (λds O k h=>?_) λX c ds O k h=>?_
 ·obtain⟨_,_,_,_,_,_,_,_,_,_,_,_,_,rfl,_⟩:=h;rfl
 ·obtain⟨q,w,h,i,j,l,sq,hw,hh,hl,hi,hj,hs,rfl,rfl,hk⟩:=h
  change SV X [some (l5 P w h (.ptr q)),some (.int i),some (.int j),some (dl sq)] [(q,.lst (l.map .int))] _ _ _
  refine' fE (jU c c1 (by decide) ?g (ir.go ?args ⟨[(q,.lst (l.map .int))],[],rfl,q,l,w,16*i,16*j,16,h,sq,hl,hi,hj,hs,by lia,by lia,by lia,?q,rfl,?k⟩))
  case g=>decide+kernel
  case args=>walk_at "es"
  case q=>simp only[Eb.injEq,D.int.injEq,and_true,true_and];lia
  case k=>exact aL (Wk.refl _) hk
abbrev kx (P:Addr) (p:Rd16.Pic):D:=l5 P p.wide p.high (dl (M.iT p))
def AM (m c:Int):Int:=if m<(if 0>c then 0 else c)then m else (if 0>c then 0 else c)
theorem Jv {m:Int} (hm:0<=m) (c:Int):AM m c=fK 0 m c:=by
 unfold AM fK
 split<;>split<;>(try split)<;>lia
theorem vE {m:Int} (hm:0<=m) (c:Int):0<=fK 0 m c/\fK 0 m c<=m:=by
 unfold fK;split<;>(try split)<;>lia
theorem Ui {p:Rd16.Pic} (ok:M.fh p) (x y:Int):∃k:Nat,AM ((p.high:Int)-1) y*p.wide+AM ((p.wide:Int)-1) x=k/\(M.iT p)[k]? =some ((p.at_ x y:Nat):Int):=by
 obtain⟨w1,w2,_⟩:=ok.w
 obtain⟨h1,h2,_⟩:=ok.h
 rw[Jv (by omega),Jv (by omega)]
 have hx:=vE (show 0<=(p.wide:Int)-1 by omega) x
 have hy:=vE (show 0<=(p.high:Int)-1 by omega) y
 refine⟨(fK 0 ((p.high:Int)-1) y).toNat*p.wide+(fK 0 ((p.wide:Int)-1) x).toNat,?_,?_⟩
 ·push_cast
  rw[uM hy.1,uM hx.1]
 ·have jb:(fK 0 ((p.high:Int)-1) y).toNat*p.wide+(fK 0 ((p.wide:Int)-1) x).toNat<(M.iT p).length:=by
   rw[M.jq,ok.len]
   have:((fK 0 ((p.high:Int)-1) y).toNat+1)*p.wide<=p.high*p.wide:=dz _ (by omega)
   rw[fk,bE p.high]at this
   omega
  rw[aI jb,<-M.dX _ _ 0 jb,M.zQ]
  rfl
def Ux (P:Addr) (ds:List D) (xs:List D):Prop:=∃(p:Rd16.Pic) (L T:Int) (n:Nat),M.fh p/\-1000000<L/\L<1000000/\-1000000<T/\T<1000000/\n<1000/\ds=[kx P p,.int L,.int T,.int n]/\xs=(M.tH p L T n).map dl
theorem QI {p:Rd16.Pic} {L T:Int} {n i:Nat} (h:i<n):(M.tH p L T n)[i]? =some ((ar n).map λ(c:Nat)=>((p.at_ (L+(c:Int)) (T+(i:Int)):Nat):Int)):=by
 unfold M.tH;rw[aE,dE h];rfl
theorem Mz {W:dg} {P:Addr} (B:Bn W) (hC:iS W.K P) (n1:aM W.K P "points") (n2:aM W.K P "wide") (n3:aM W.K P "high") (T:dC W "window" "window" FL ["picture","left","top","side"]):ax W "window" 1 (cv (Ux P)):=by
 refine aQ (N:=["picture","left","top","side","columns","rows","row","start","column"]) T (by walk_at "fs") (λds O k h=>?_) λX c ds O k h=>?_
 ·obtain⟨_,_,⟨_,_,_,_,_,_,_,_,_,_,rfl,_⟩,_⟩:=h;rfl
 ·obtain⟨rfl,_,⟨p,L,T,n,ok,b1,b2,b3,b4,b5,rfl,rfl⟩,hk⟩:=h
  obtain⟨w1,w2,_⟩:=ok.w
  obtain⟨h1,h2,_⟩:=ok.h
  change SV X [some (kx P p),some (.int L),some (.int T),some (.int n),none,none,none,none,none] [] _ _ _
  refine' nF ["column"] [8] (l:=ia L 1 ((L+n)-L).toNat) (enc:=D.int) (g:=λa=>D.int (AM ((p.wide:Int)-1) a)) c ?oB ?yV ?Dj ?LN ?hi ?ok ?ho ?hz ?wp ?gU ?hx ?zh
  case oB=>decide+kernel
  case yV=>decide+kernel
  case Dj=>decide+kernel
  case LN=>decide+kernel
  case hi=>
   refine' uj (i:=L) (j:=L+n) c ?g B.range ?ea ?eb ?b1
   case g=>decide+kernel
   case ea=>walk_at "e"
   case eb=>walk_at "e"
   case b1=>lia
  case ok=>decide+kernel
  case ho=>decide+kernel
  case hz=>rw[ez,af];lia
  case wp=>walk_at "wp"
  case gU=>
   intro a ha
   refine⟨_,λY cY=>⟨by walk_at "tg1",?_⟩⟩
   walk_at "ec"
   rfl
  case hx=>walk_at "put"
  case zh=>
   generalize II:(ia L 1 ((L+n)-L).toNat).map (λa=>AM ((p.wide:Int)-1) a)=cl
   have WG:BF (λa=>D.int (AM ((p.wide:Int)-1) a)) (ia L 1 ((L+n)-L).toNat)=cl.map .int:=by rw[<-II,aF];rfl
   rw[WG]
   refine' gk (ds:=[]) (λq=>[some (kx P p),some (.int L),some (.int T),some (.int n),some (dl cl),some (.ptr q),none,none,none]) c ?hl (dP az ?z) ?hx ?zh ?hs
   case hl=>decide+kernel
   case z=>show 0<=sizeLine;rw[af];decide
   case hx=>intro q;walk_at "put"
   case hs=>rfl
   case zh=>
    intro q
    refine' gy (ds:=(ia T 1 ((T+n)-T).toNat).map .int) c ?hi (λi ρ1 O1=>ρ1=[some (kx P p),some (.int L),some (.int T),some (.int n),some (dl cl),some (.ptr q),none,none,none]/\O1=[(q,.lst (((M.tH p L T n).take i).map dl))]) ⟨rfl,rfl⟩ ?step ?done
    case hi=>
     refine' uj (i:=T) (j:=T+n) c ?g B.range ?ea ?eb ?b1
     case g=>decide+kernel
     case ea=>walk_at "e"
     case eb=>walk_at "e"
     case b1=>lia
    case done=>
     rintro ρ1 O1 ⟨rfl,rfl⟩
     rw[ah,ez,cz (by simp[M.tH];lia)]
     exact aT (bq.go (d:= .ptr q) (by walk_at "n") (hk q))
    case step=>
     rintro i d ρ1 O1 hd ⟨rfl,rfl⟩
     obtain⟨hi,rfl⟩:=gf hd
     have Ly:i<n:=by lia
     refine⟨_,by walk_at "tg1",?_⟩
     refine' bK (d:= .int (AM ((p.high:Int)-1) (T+(i:Int)*1)*p.wide)) c ?hl ?he ?hp ?zh
     case hl=>decide+kernel
     case he=>
      walk_at "ec"
      rfl
     case hp=>walk_at "put"
     case zh=>
      refine' fE (sx (q:=q) ?ho ⟨_,ae⟩ (bq.go (d:=dl ((ar n).map λ(c:Nat)=>((p.at_ (L+(c:Int)) (T+(i:Int)):Nat):Int))) ?he ⟨_,_,.here,?hz,?hk⟩))
      case ho=>walk_at "n"
      case he=>
       refine' cD.pev (cD.cast (ds:=?BS) ?eU ?qU)
       case eU=>
        refine' fP ["column"] [8] (l:=ia L 1 ((L+n)-L).toNat) (enc:=λa=>D.int (AM ((p.wide:Int)-1) a)) (g:=λa=>D.int ((p.at_ a (T+(i:Int)*1):Nat):Int)) c (fe ?yR) ?Q3 ?AR ?Av ?Ud ?HQ
        case yR=>rw[WG];walk_at "n"
        case Q3=>decide+kernel
        case AR=>decide+kernel
        case Av=>rw[ez,af];lia
        case Ud=>walk_at "wp"
        case HQ=>
         intro a ha
         obtain⟨k,hk1,Ar⟩:=Ui ok a (T+(i:Int)*1)
         refine⟨[some (kx P p),some (.int L),some (.int T),some (.int n),some (dl cl),some (.ptr q),some (.int (T+(i:Int)*1)),some (.int (AM ((p.high:Int)-1) (T+(i:Int)*1)*p.wide)),some (.int (AM ((p.wide:Int)-1) a))],λY cY=>⟨by walk_at "tg1",?_⟩⟩
         refine' j7 (l:=M.iT p) (f:=D.int) ?ea ?eb hk1 Ar ?hs
         case ea=>walk_at "e"
         case eb=>walk_at "e"
         case hs=>intro _ _;rfl
       case qU=>
        unfold ia
        rw[aF,aF,show((L+n)-L).toNat=n by lia]
        refine aW λj _=>?_
        simp only[bP]
        rw[t6,t6]
      case hz=>rw[ah,aA,af];lia
      case hk=>
       refine' aL ?w ⟨rfl,?qq⟩
       case w=>walk_at "wk"
       case qq=>rw[cW (QI Ly),aY];rfl
section
variable {X:Cx} {ρ:dk} {O:Os} {a:aS} {pos:Pos} {rest y z:List Stmt} {kn:KR} {kr:KD} {t:Bool}
theorem wI (J:dk->Os->Prop) (hc:nP X ρ O a t) (h1:t=true->SV X ρ O y J kr) (h2:t=false->SV X ρ O z J kr) (hj:∀ρ1 O1,J ρ1 O1->SV X ρ1 O1 rest kn kr):SV X ρ O (.If a y z pos::rest) kn kr:=
 eQ hc (λh=>SV.mono (h1 h) hj λ_ _ q=>q) (λh=>SV.mono (h2 h) hj λ_ _ q=>q)
end
theorem xC {w:Nat}:∀{R:List (List Int)},(∀r∈R,r.length<=w)->R.flatten.length<=R.length*w
 |[],_=>by simp
 |r::R,h=>by
  have:=xC (R:=R) λq hq=>h q (ai _ hq)
  have h0:=h r ae
  rw[ck,aj,aJ,fk]
  lia
def L4 (ds:List D) (xs:List D):Prop:=∃a b:List Int,a.length<2^20/\ds=[dl a,dl b]/\xs=(M.ja a b).map .int
theorem oI {α β γ δ:Type} (f:α->β->γ) (g:γ->δ) (a:List α) (b:List β):(a.zip b).map (λq=>g (f q.1 q.2))=(cS f a b).map g:=by
 rw[List.zip,jf,jf]
theorem Qs {W:dg} (B:Bn W) (T:dC W "means" "means" Jb ["first","second"]):ax W "means" 1 (cv L4):=by
 refine aQ (N:=["first","second","a","b"]) T (by walk_at "fs") (λds O k h=>?_) λX c ds O k h=>?_
 ·obtain⟨_,_,⟨_,_,_,rfl,_⟩,_⟩:=h;rfl
 ·obtain⟨rfl,_,⟨a,b,hl,rfl,rfl⟩,hk⟩:=h
  change SV X [some (dl a),some (dl b),none,none] [] _ _ _
  refine aT (EV.own_k (ds:=(M.ja a b).map .int) ?_ hk)
  refine' cD.cast (ds:=?BS) ?eU ?qU
  case eU=>
   refine' fP ["a","b"] [2,3] (l:=a.zip b) (enc:=λq=>D.tup [.int q.1,.int q.2]) (g:=λq=>D.int ((q.1+q.2+1)/2)) c ?hi ?ok ?ho ?hz ?wp ?gU
   case hi=>
    refine' iN (e1:=D.int) (e2:=D.int) c ?g B.zip ?ea ?eb
    case g=>decide+kernel
    case ea=>walk_at "n"
    case eb=>walk_at "n"
   case ok=>decide+kernel
   case ho=>decide+kernel
   case hz=>rw[bZ,af];omega
   case wp=>walk_at "wp"
   case gU=>
    intro q hq
    exact⟨_,λY cY=>⟨by walk_at "tg2",by walk_at "e"⟩⟩
  case qU=>exact oI (λx y=>(x+y+1)/2) D.int a b
theorem kY {α:Type} {l:List α} {i:Nat} {d:α} (h:i<l.length):l[i]? =some (l.getD i d):=by
 rw[aI h,M.dX l i d h]
def M9 (ds:List D) (xs:List D):Prop:=∃(R:List (List Int)) (x y:Nat),x<1000/\y<1000/\y/2+17<=R.length/\R.length<1000/\ds=[.lst (R.map dl),.int x,.int y]/\xs=(M.lX R x y).map .int
theorem K2 {W:dg} (B:Bn W) (gS:Gv W "SIDE" (.int 16)) (T:dC W "between" "between" Cy ["rows","x","y"]) (c1:ax W "means" 1 (cv L4)):ax W "between" 2 (cv M9):=by
 refine aQ (N:=["rows","x","y","left","top","taken","behind","points","k","row","first","second"]) T (by walk_at "fs") (λds O k h=>?_) λX c ds O k h=>?_
 ·obtain⟨_,_,⟨_,_,_,_,_,_,_,rfl,_⟩,_⟩:=h;rfl
 ·obtain⟨rfl,_,⟨R,x,y,hx,hy,hR,hR2,rfl,rfl⟩,hk⟩:=h
  change SV X [some (.lst (R.map dl)),some (.int x),some (.int y),none,none,none,none,none,none,none,none,none] [] _ _ _
  refine' bK (d:= .int ((x/2:Nat):Int)) c ?hl ?he ?hp ?zh
  case hl=>decide+kernel
  case he=>
   walk_at "ec"
   rfl
  case hp=>walk_at "put"
  case zh=>
  refine' bK (d:= .int ((y/2:Nat):Int)) c ?hl ?he ?hp ?zh
  case hl=>decide+kernel
  case he=>
   walk_at "ec"
   rfl
  case hp=>walk_at "put"
  case zh=>
  generalize hA:(R.drop (y/2)).take 17=A
  have Xy:A.length=17:=by rw[<-hA,aA,ba];lia
  have hsl:yy (R.map dl) (some ((y/2:Nat):Int)) (some (((y/2:Nat):Int)+16+1))=A.map dl:=by
   rw[show((y/2:Nat):Int)+16+1=((y/2+17:Nat):Int) by lia,j9,show y/2+17-y/2=17 by lia,hA]
  generalize ht:A.map (λrow=>(row.drop (x/2)).take 16)=t
  refine' nF ["row"] [9] (l:=A) (enc:=dl) (g:=λrow=>dl ((row.drop (x/2)).take 16)) c ?oB ?yV ?Dj ?LN ?hi ?ok ?ho ?hz ?wp ?gU ?hx ?zh
  case oB=>decide+kernel
  case yV=>decide+kernel
  case Dj=>decide+kernel
  case LN=>decide+kernel
  case hi=>
   refine fe (cD.pev (cD.cast (rS ?_ ?_ ?_) hsl))
   ·walk_at "n"
   ·exact dO (by walk_at "e")
   ·exact dO (by walk_at "e")
  case ok=>decide+kernel
  case ho=>decide+kernel
  case hz=>rw[Xy,af];decide
  case wp=>walk_at "wp"
  case gU=>
   intro row oY
   refine⟨_,λY cY=>⟨by walk_at "tg1",?_⟩⟩
   refine cD.pev (cD.cast (rS (ds:=row.map .int) (l:=some ((x/2:Nat):Int)) (h:=some ((x/2:Nat)+16)) ?_ ?_ ?_) ?_)
   ·walk_at "n"
   ·exact dO (by walk_at "e")
   ·exact dO (by walk_at "e")
   ·rw[show((x/2:Nat):Int)+16=((x/2+16:Nat):Int) by lia,j9,show x/2+16-x/2=16 by lia]
  case hx=>walk_at "put"
  case zh=>
  have Z2:BF (λrow=>dl ((row.drop (x/2)).take 16)) A=t.map dl:=by rw[<-ht,aF];rfl
  rw[Z2]
  have X6:t.length=17:=by rw[<-ht,ah,Xy]
  have TU:∀r∈t,r.length<=16:=by
   intro r hr;rw[<-ht]at hr;obtain⟨r',_,rfl⟩:=ay.mp hr;rw[aA];lia
  generalize hu:A.map (λrow=>(row.drop (x/2+1)).take 16)=u
  have hul:u.length=17:=by rw[<-hu,ah,Xy]
  generalize DK:(if x%2=1 then cS M.ja t u else t)=t2
  have ad0:t2.length=17:=by rw[<-DK];split<;>first|exact X6|(rw[gR,X6,hul];rfl)
  have Xf:∀r∈t2,r.length<=16:=by
   intro r hr;rw[<-DK]at hr
   split at hr
   ·obtain⟨a,ha,b,hb,rfl⟩:=M.mF hr
    have:=TU a ha
    unfold M.ja;rw[gR];lia
   ·exact TU r hr
  have hbt:M.lX R x y=((ar 16).map λk=>if y%2=1 then M.ja (t2.getD k []) (t2.getD (k+1) [])else t2.getD k []).flatten:=by
   unfold M.lX
   simp only[hA,ht,hu,DK]
  rw[hbt]at hk
  refine' wI (λρ1 O1=>ρ1=[some (.lst (R.map dl)),some (.int x),some (.int y),some (.int ((x/2:Nat):Int)),some (.int ((y/2:Nat):Int)),some (.lst (t2.map dl)),none,none,none,none,none,none]/\O1=[]) ?hc ?h1 ?h2 ?hj
  case hc=>walk_at "t"
  case h2=>
   intro hf
   have Va:¬x%2=1:=by have:=of_decide_eq_false hf;lia
   rw[if_neg Va]at DK
   subst DK
   exact aL (Wk.refl _) ⟨rfl,rfl⟩
  case h1=>
   intro hf
   have Va:x%2=1:=by have:=of_decide_eq_true hf;lia
   rw[if_pos Va]at DK
   refine' nF ["row"] [9] (l:=A) (enc:=dl) (g:=λrow=>dl ((row.drop (x/2+1)).take 16)) c ?oB ?yV ?Dj ?LN ?hi ?ok ?ho ?hz ?wp ?gU ?hx ?zh
   case oB=>decide+kernel
   case yV=>decide+kernel
   case Dj=>decide+kernel
   case LN=>decide+kernel
   case hi=>
    refine fe (cD.pev (cD.cast (rS ?_ ?_ ?_) hsl))
    ·walk_at "n"
    ·exact dO (by walk_at "e")
    ·exact dO (by walk_at "e")
   case ok=>decide+kernel
   case ho=>decide+kernel
   case hz=>rw[Xy,af];decide
   case wp=>walk_at "wp"
   case gU=>
    intro row oY
    refine⟨_,λY cY=>⟨by walk_at "tg1",?_⟩⟩
    refine cD.pev (cD.cast (rS (ds:=row.map .int) (l:=some (((x/2:Nat):Int)+1)) (h:=some (((x/2:Nat):Int)+16+1)) ?_ ?_ ?_) ?_)
    ·walk_at "n"
    ·exact dO (by walk_at "e")
    ·exact dO (by walk_at "e")
    ·rw[show((x/2:Nat):Int)+16+1=((x/2+17:Nat):Int) by lia,show((x/2:Nat):Int)+1=((x/2+1:Nat):Int) by lia,j9,show x/2+17-(x/2+1)=16 by lia]
   case hx=>walk_at "put"
   case zh=>
   have hu':BF (λrow=>dl ((row.drop (x/2+1)).take 16)) A=u.map dl:=by rw[<-hu,aF];rfl
   rw[hu']
   refine' nF ["first","second"] [10,11] (l:=t.zip u) (enc:=λq=>D.tup [dl q.1,dl q.2]) (g:=λq=>dl (M.ja q.1 q.2)) c ?oB ?yV ?Dj ?LN ?hi ?ok ?ho ?hz ?wp ?gU ?hx ?zh
   case oB=>decide+kernel
   case yV=>decide+kernel
   case Dj=>decide+kernel
   case LN=>decide+kernel
   case hi=>
    refine' iN (e1:=dl) (e2:=dl) c ?g B.zip ?ea ?eb
    case g=>decide+kernel
    case ea=>walk_at "n"
    case eb=>walk_at "n"
   case ok=>decide+kernel
   case ho=>decide+kernel
   case hz=>rw[bZ,X6,hul,af];decide
   case wp=>walk_at "wp"
   case gU=>
    intro q hq
    refine⟨_,λY cY=>⟨by walk_at "tg2",?_⟩⟩
    have h16:=TU q.1 (jG hq).1
    refine' cD.pev (aV cY c1 (by decide) ?g ?args ⟨q.1,q.2,by lia,rfl,rfl⟩)
    case g=>decide+kernel
    case args=>walk_at "es"
   case hx=>walk_at "put"
   case zh=>
    have:BF (λq:List Int×List Int=>dl (M.ja q.1 q.2)) (t.zip u)=t2.map dl:=by rw[<-DK];exact oI M.ja dl t u
    rw[this]
    refine' aL ?w ⟨rfl,rfl⟩
    case w=>walk_at "wk"
  case hj=>
   rintro ρ1 O1 ⟨rfl,rfl⟩
   generalize wu:(λk=>if y%2=1 then M.ja (t2.getD k []) (t2.getD (k+1) [])else t2.getD k [])=ch at hk
   have hm:∀j,j<17->(t2.getD j []).length<=16:=λj hj=>by
    rw[M.dX _ _ _ (by lia)];exact Xf _ (fS _)
   have V0:∀j,j<16->(ch j).length<=16:=λj hj=>by
    rw[<-wu]
    have:=hm j (by lia)
    show(if y%2=1 then M.ja (t2.getD j []) (t2.getD (j+1) [])else t2.getD j []).length<=16
    split
    ·unfold M.ja;rw[gR];lia
    ·exact this
   refine' gk (ds:=[]) (λq=>[some (.lst (R.map dl)),some (.int x),some (.int y),some (.int ((x/2:Nat):Int)),some (.int ((y/2:Nat):Int)),some (.lst (t2.map dl)),none,some (.ptr q),none,none,none,none]) c ?hl (dP az ?z) ?hx ?zh ?hs
   case hl=>decide+kernel
   case z=>show 0<=sizeLine;rw[af];decide
   case hx=>intro q;walk_at "put"
   case hs=>rfl
   case zh=>
   intro q
   refine' gy (ds:=(ia 0 1 (16:Int).toNat).map .int) c ?hi (λi ρ1 O1=>ρ1=[some (.lst (R.map dl)),some (.int x),some (.int y),some (.int ((x/2:Nat):Int)),some (.int ((y/2:Nat):Int)),some (.lst (t2.map dl)),none,some (.ptr q),none,none,none,none]/\O1=[(q,.lst ((((ar i).map ch).flatten).map .int))]) ⟨rfl,rfl⟩ ?step ?done
   case hi=>
    refine' iO (j:=16) c ?g B.range ?ea (by lia) (by lia)
    case g=>decide+kernel
    case ea=>walk_at "e"
   case done=>
    rintro ρ1 O1 ⟨rfl,rfl⟩
    rw[ah,ez]
    exact aT (bq.go (d:= .ptr q) (by walk_at "n") (hk q))
   case step=>
    rintro i d ρ1 O1 hd ⟨rfl,rfl⟩
    obtain⟨hi,rfl⟩:=gf hd
    have Ly:i<16:=hi
    refine⟨_,by walk_at "tg1",?_⟩
    have g0:∀{Y:Cx},True:=trivial
    refine' fE (gQ (q:=q) ?ho ⟨_,ae⟩ (bq.go (d:=dl (ch i)) ?he ⟨_,(ch i).map .int,_,rfl,.here,?hz,?hk⟩))
    case ho=>walk_at "n"
    case he=>
     have e0:(0:Int)+(i:Int)*1=((i:Nat):Int):=by lia
     have e1:(0:Int)+(i:Int)*1+1=((i+1:Nat):Int):=by lia
     refine' RD ?hc ?h1 ?h2
     case hc=>walk_at "t"
     case h1=>
      intro hf
      have Va:y%2=1:=by have:=of_decide_eq_true hf;lia
      rw[<-wu];simp only[Va,if_true]
      have:=hm i (by lia)
      refine' cD.pev (aV c c1 (by decide) ?g ?args ⟨t2.getD i [],t2.getD (i+1) [],by lia,rfl,rfl⟩)
      case g=>decide+kernel
      case args=>
       refine' aa (j7 (l:=t2) (f:=dl) ?ea ?eb e0 (kY (by lia)) ?hs) (aa (j7 (l:=t2) (f:=dl) ?O8 ?Qd e1 (kY (by lia)) ?yg) az)
       case ea=>walk_at "n"
       case eb=>walk_at "n"
       case hs=>intro _ _;rfl
       case O8=>walk_at "n"
       case Qd=>walk_at "e"
       case yg=>intro _ _;rfl
     case h2=>
      intro hf
      have Va:¬y%2=1:=by have:=of_decide_eq_false hf;lia
      rw[<-wu];simp only[Va,if_false]
      refine' j7 (l:=t2) (f:=dl) ?ea ?eb e0 (kY (by lia)) ?hs
      case ea=>walk_at "n"
      case eb=>walk_at "n"
      case hs=>intro _ _;rfl
    case hz=>
     have:=xC (w:=16) (R:=(ar i).map ch) (λr hr=>by obtain⟨j,hj,rfl⟩:=ay.mp hr;exact V0 j (by have:=BB.mp hj;lia))
     rw[ah,fv]at this
     have h3:=V0 i Ly
     rw[bF,bF,af]
     lia
    case hk=>
     refine' aL ?w ⟨rfl,?qq⟩
     case w=>walk_at "wk"
     case qq=>rw[qF,aY,dc,aY];simp
abbrev dH (v:Rd16.Vec):D:= .tup [.int v.1,.int v.2]
def RP (ds:List D) (d:D):Prop:=∃(o e:List Nat) (v h:Rd16.Vec),o.length<1000/\ds=[dl (aD o),dl (aD e),.int v.1,.int v.2,dH h]/\d= .int ((min 65535 (uO o e+(gI h v).length):Nat):Int)
theorem By {W:dg} (B:Bn W) (gH:Gv W "HIGHEST_COST" (.int 65535)) (T:dC W "vector_cost" "vector_cost" tm ["square","points","x","y","hint"]) (c1:ax W "signed_length" 2 (dS RQ)):ax W "vector_cost" 3 (dS RP):=by
 refine aQ (N:=["square","points","x","y","hint","away","a","b"]) T (by walk_at "fs") (λds O k h=>?_) λX c ds O k h=>?_
 ·obtain⟨_,_,⟨_,_,_,_,_,rfl,_⟩,_⟩:=h;rfl
 ·obtain⟨rfl,_,⟨o,e,v,hv,ho,rfl,rfl⟩,hk⟩:=h
  change SV X [some (dl (aD o)),some (dl (aD e)),some (.int v.1),some (.int v.2),some (dH hv),none,none,none] [] _ _ _
  refine' bK (d:= .int (uO o e:Nat)) c ?hl ?he ?hp ?zh
  case hl=>decide+kernel
  case he=>
   refine' bq.cast (Dl (l:=cS (λ(x y:Int)=>if x-y<0 then -(x-y)else x-y) (aD o) (aD e)) c B ?g (cD.pev (cD.cast (ds:=?BS) ?eU ?qU)) rfl) (congrArg D.int (M.Fm o e))
   case g=>decide+kernel
   case eU=>
    refine' fP ["a","b"] [6,7] (l:=(aD o).zip (aD e)) (enc:=λq=>D.tup [.int q.1,.int q.2]) (g:=λq=>D.int (if q.1-q.2<0 then -(q.1-q.2)else q.1-q.2)) c ?hi ?ok ?ho ?hz ?wp ?gU
    case hi=>
     refine' iN (e1:=D.int) (e2:=D.int) c ?g2 B.zip ?ea ?eb
     case g2=>decide+kernel
     case ea=>walk_at "n"
     case eb=>walk_at "n"
    case ok=>decide+kernel
    case ho=>decide+kernel
    case hz=>rw[bZ,af];have:(aD o).length=o.length:=(by simp[aD]);omega
    case wp=>walk_at "wp"
    case gU=>
     intro q hq
     exact⟨_,λY cY=>⟨by walk_at "tg2",by walk_at "e"⟩⟩
   case qU=>exact oI (λ(x y:Int)=>if x-y<0 then -(x-y)else x-y) D.int _ _
  case hp=>walk_at "put"
  case zh=>
   refine aT (bq.go (d:= .int ((min 65535 (uO o e+(gI hv v).length):Nat):Int)) ?_ hk)
   refine' bq.cast (Ji (i:=((uO o e:Nat):Int)+(eE (v.1-hv.1)).length+(eE (v.2-hv.2)).length) (j:=65535) c B ?g (jr (jr ?e1 ?e2) ?e3) ?e4 rfl rfl rfl) ?q
   case g=>decide+kernel
   case e1=>walk_at "n"
   case e2=>
    refine' cI c c1 (by decide) ?g2 ?args ⟨v.1-hv.1,rfl,rfl⟩
    case g2=>decide+kernel
    case args=>walk_at "es"
   case e3=>
    refine' cI c c1 (by decide) ?g2 ?args ⟨v.2-hv.2,rfl,rfl⟩
    case g2=>decide+kernel
    case args=>walk_at "es"
   case e4=>walk_at "e"
   case q=>
    have:(gI hv v).length=(eE (v.1-hv.1)).length+(eE (v.2-hv.2)).length:=by unfold gI;rw[aj]
    rw[this]
    congr 1
    split<;>omega
def Ov (ds:List D) (xs:List D):Prop:=ds=[]/\xs=BG.map dH
theorem zy {W:dg} (B:Bn W) (T:dC W "whole_places" "whole_places" qH []):ax W "whole_places" 1 (cv Ov):=by
 refine aQ (N:=["places","y","x"]) T (by walk_at "fs") (λds O k h=>?_) λX c ds O k h=>?_
 ·obtain⟨_,_,⟨rfl,_⟩,_⟩:=h;rfl
 ·obtain⟨rfl,_,⟨rfl,rfl⟩,hk⟩:=h
  rw[<-M.MX]at hk
  change SV X [none,none,none] [] _ _ _
  have rg:NA (-14) 15 2 15:=⟨by decide,by decide,by decide+kernel,by decide+kernel⟩
  refine' gk (ds:=[]) (λq=>[some (.ptr q),none,none]) c ?hl (dP az ?z) ?hx ?zh ?hs
  case hl=>decide+kernel
  case z=>show 0<=sizeLine;rw[af];decide
  case hx=>intro q;walk_at "put"
  case hs=>rfl
  case zh=>
  intro q
  let ch:Nat->List Rd16.Vec:=λr=>(ar 15).map λ(c:Nat)=>((-14+(c:Int)*2,-14+(r:Int)*2):Rd16.Vec)
  refine' gy (ds:=(ia (-14) 2 15).map .int) c ?hi (λi ρ1 O1=>ρ1=[some (.ptr q),none,none]/\O1=[(q,.lst ((((ar i).map ch).flatten).map dH))]) ⟨rfl,rfl⟩ ?step ?done
  case hi=>
   refine' kC c ?g B.range ?ea ?eb ?ec rg
   case g=>decide+kernel
   case ea=>exact yK bI
   case eb=>walk_at "e"
   case ec=>walk_at "e"
  case done=>
   rintro ρ1 O1 ⟨rfl,rfl⟩
   rw[ah,ez]
   exact aT (bq.go (d:= .ptr q) (by walk_at "n") (hk q))
  case step=>
   rintro i d ρ1 O1 hd ⟨rfl,rfl⟩
   obtain⟨hi,rfl⟩:=gf hd
   refine⟨_,by walk_at "tg1",?_⟩
   refine' fE (gQ (q:=q) ?ho ⟨_,ae⟩ (bq.go (d:= .lst ((ch i).map dH)) ?he ⟨_,(ch i).map dH,_,rfl,.here,?hz,?hk⟩))
   case ho=>walk_at "n"
   case he=>
    refine' cD.pev (cD.cast (ds:=?BS) ?eU ?qU)
    case eU=>
     refine' fP ["x"] [2] (l:=ia (-14) 2 15) (enc:=D.int) (g:=λa=>dH (a,-14+(i:Int)*2)) c ?hi ?ok ?AR ?Av ?wp ?gU
     case hi=>
      refine' kC c ?g B.range ?ea ?eb ?ec rg
      case g=>decide+kernel
      case ea=>exact yK bI
      case eb=>walk_at "e"
      case ec=>walk_at "e"
     case ok=>decide+kernel
     case AR=>decide+kernel
     case Av=>rw[ez,af];decide
     case wp=>walk_at "wp"
     case gU=>
      intro a ha
      exact⟨_,λY cY=>⟨by walk_at "tg1",by walk_at "e"⟩⟩
    case qU=>unfold ia;rw[aF,aF];rfl
   case hz=>
    rw[ah,ah,ah,fv,af]
    have:((ar i).map ch).flatten.length=((ar i).map ch).length*15:=M.eG (λr hr=>by obtain⟨j,_,rfl⟩:=ay.mp hr;simp[ch])
    rw[this,ah,fv];lia
   case hk=>
    refine' aL ?w ⟨rfl,?qq⟩
    case w=>walk_at "wk"
    case qq=>rw[qF,aY,dc,aY];simp
def IZ (ds:List D) (xs:List D):Prop:=∃v:Rd16.Vec,ds=[.int v.1,.int v.2]/\xs=(v::M.mO v).map dH
theorem yp {W:dg} (T:dC W "places_beside" "places_beside" pQ ["x","y"]):ax W "places_beside" 1 (cv IZ):=by
 refine aQ (N:=["x","y","places","down","across"]) T (by walk_at "fs") (λds O k h=>?_) λX c ds O k h=>?_
 ·obtain⟨_,_,⟨_,rfl,_⟩,_⟩:=h;rfl
 ·obtain⟨rfl,_,⟨v,rfl,rfl⟩,hk⟩:=h
  change SV X [some (.int v.1),some (.int v.2),none,none,none] [] _ _ _
  refine' gk (ds:=[dH v]) (λq=>[some (.int v.1),some (.int v.2),some (.ptr q),none,none]) c ?hl (dP ?es ?z) ?hx ?zh ?hs
  case hl=>decide+kernel
  case es=>walk_at "es"
  case z=>show 1<=sizeLine;rw[af];decide
  case hx=>intro q;walk_at "put"
  case hs=>rfl
  case zh=>
  intro q
  let ch:Int->List Rd16.Vec:=λr=>([-1,0,1]:List Int).map λa=>(v.1+a,v.2+r)
  refine' gy (ds:=([-1,0,1]:List Int).map .int) c (oJ ?hi) (λi ρ1 O1=>ρ1=[some (.int v.1),some (.int v.2),some (.ptr q),none,none]/\O1=[(q,.lst (dH v::(((([-1,0,1]:List Int).take i).map ch).flatten).map dH))]) ⟨rfl,rfl⟩ ?step ?done ?hs
  case hs=>exact DI
  case hi=>
   walk_at "ec"
   rfl
  case done=>
   rintro ρ1 O1 ⟨rfl,rfl⟩
   exact aT (bq.go (d:= .ptr q) (by walk_at "n") (hk q))
  case step=>
   rintro i d ρ1 O1 hd ⟨rfl,rfl⟩
   rw[aE]at hd
   obtain⟨z,hz,rfl⟩:=bU.mp hd
   have hi:i<3:=(bh.mp hz).1
   refine⟨_,by walk_at "tg1",?_⟩
   refine' fE (gQ (q:=q) ?ho ⟨_,ae⟩ (bq.go (d:= .lst ((ch z).map dH)) ?he ⟨_,(ch z).map dH,_,rfl,.here,?hz,?hk⟩))
   case ho=>walk_at "n"
   case he=>
    refine' cD.pev (cD.cast (ds:=?BS) ?eU ?qU)
    case eU=>
     refine' fP ["across"] [4] (l:=([-1,0,1]:List Int)) (enc:=D.int) (g:=λa=>dH (v.1+a,v.2+z)) c (oJ ?yR) ?ok ?AR ?Av ?wp ?gU ?yg rfl
     case yg=>exact DI
     case yR=>
      walk_at "ec"
      rfl
     case ok=>decide+kernel
     case AR=>decide+kernel
     case Av=>rw[af];decide
     case wp=>walk_at "wp"
     case gU=>
      intro a ha
      exact⟨_,λY cY=>⟨by walk_at "tg1",by walk_at "e"⟩⟩
    case qU=>rw[aF];rfl
   case hz=>
    have:(((([-1,0,1]:List Int).take i).map ch).flatten).length=((([-1,0,1]:List Int).take i).map ch).length*3:=M.eG (λr hr=>by obtain⟨j,_,rfl⟩:=ay.mp hr;rfl)
    rw[aJ,ah,ah,this,ah,aA,af,show(ch z).length=3 from rfl]
    lia
   case hk=>
    refine' aL ?w ⟨rfl,?qq⟩
    case w=>walk_at "wk"
    case qq=>rw[cW hz,aY,dc,aY];simp
section
variable {W:dg} {X:Cx} {N:List Str} {sc:Scope} {n m:Nat} {tp:Bool} {ρ:dk} {O:Os} {x:Str} {p pos:Pos}
theorem Ln {R:List D->List D->Prop} {xs:List D} (c:eZ W X N sc n tp) (hc:ax W x m (cv R)) (hm:m<=n) (hg:mr sc x) (hR:R [] xs) (og:(x==("__debug__":Str))=false:=by decide):cD X ρ O (.Call (.Name x p) [] [] pos) xs:=
 Mb c hc hm hg ⟨rfl,xs,hR,λq=>⟨q,rfl,rfl⟩⟩ og
end
abbrev tM (b:Int×Rd16.Vec):D:= .tup [.int b.1,.int b.2.1,.int b.2.2]
theorem tL {α:Type} (f:α->Int) (x:α):∀(l:List α) (b:Int×α),M.gd f b (l++[x])=if f x<(M.gd f b l).1 then (f x,x)else M.gd f b l
 |[],b=>rfl
 |y::l,b=>by rw[OL,M.gd,M.gd,tL f x l]
abbrev zP (p:Rd16.Pic) (i j:Nat):List (List Int):=M.tH p (((16*i:Nat):Int)-8) (((16*j:Nat):Int)-8) 32
abbrev n9 (p:Rd16.Pic) (i j:Nat) (o:List Nat) (h:Rd16.Vec):Rd16.Vec->Int:=λv=>((ki p i j o h v:Nat):Int)
def NN (ds:List D) (d:D):Prop:=∃(p:Rd16.Pic) (i j:Nat) (o:List Nat) (h:Rd16.Vec) (vs:List Rd16.Vec),o.length<1000/\vs.length<1000/\(∀v∈vs,-15<=v.1/\v.1<=15/\-15<=v.2/\v.2<=15)/\
 ds=[dl (aD o),.lst ((zP p i j).map dl),dH h,.lst (vs.map dH)]/\d=tM (M.gd (n9 p i j o h) (65536,(0,0)) vs)
theorem wH {W:dg} (gS:Gv W "SIDE" (.int 16)) (gH:Gv W "HIGHEST_COST" (.int 65535)) (T:dC W "cheapest_place" "cheapest_place" nN ["square","near","hint","places"]) (c1:ax W "vector_cost" 3 (dS RP)) (c2:ax W "between" 2 (cv M9)):ax W "cheapest_place" 4 (dS NN):=by
 refine aQ (N:=["square","near","hint","places","best","x","y","cost"]) T (by walk_at "fs") (λds O k h=>?_) λX c ds O k h=>?_
 ·obtain⟨_,_,⟨_,_,_,_,_,_,_,_,_,rfl,_⟩,_⟩:=h;rfl
 ·obtain⟨rfl,_,⟨p,i,j,o,hv,vs,ho,W0,Rq,rfl,rfl⟩,hk⟩:=h
  change SV X [some (dl (aD o)),some (.lst ((zP p i j).map dl)),some (dH hv),some (.lst (vs.map dH)),none,none,none,none] [] _ _ _
  refine' bK (d:=tM (65536,(0,0))) c ?hl ?he ?hp ?zh
  case hl=>decide+kernel
  case he=>
   walk_at "ec"
   rfl
  case hp=>walk_at "put"
  case zh=>
  refine' gy (ds:=vs.map dH) c (fe ?hi) (λn ρ1 O1=>ρ1=[some (dl (aD o)),some (.lst ((zP p i j).map dl)),some (dH hv),some (.lst (vs.map dH)),some (tM (M.gd (n9 p i j o hv) (65536,(0,0)) (vs.take n))),none,none,none]/\O1=[]) ⟨rfl,rfl⟩ ?step ?done
  case hi=>walk_at "n"
  case done=>
   rintro ρ1 O1 ⟨rfl,rfl⟩
   rw[ah,dB]
   exact aT (bq.go (d:=tM (M.gd (n9 p i j o hv) (65536,(0,0)) vs)) (by walk_at "n") hk)
  case step=>
   rintro n d ρ1 O1 hd ⟨rfl,rfl⟩
   rw[aE]at hd
   obtain⟨v,hz,rfl⟩:=bU.mp hd
   obtain⟨v1,v2,v3,v4⟩:=Rq v (bJ hz)
   have wl:(zP p i j).length=32:=by simp[M.tH]
   have ne:=M.QV p p i j v.1 v.2 ⟨v1,v2⟩ ⟨v3,v4⟩
   refine⟨_,by walk_at "tg2",?_⟩
   refine' bK (d:= .int (n9 p i j o hv v)) c ?hl ?he ?hp ?zh
   case hl=>decide+kernel
   case he=>
    refine' cI c c1 (by decide) ?g ?args ⟨o,bA p p i j (.moved v.1 v.2),v,hv,ho,rfl,rfl⟩
    case g=>decide+kernel
    case args=>
     refine' aa ?a1 (aa (cD.pev ?a2) (aa ?a3 (aa ?a4 (aa ?a5 az))))
     case a1=>walk_at "n"
     case a3=>walk_at "n"
     case a4=>walk_at "n"
     case a5=>walk_at "n"
     case a2=>
      refine' aV c c2 (by decide) ?g2 ?vF ⟨zP p i j,(v.1+16).toNat,(v.2+16).toNat,by lia,by lia,by lia,by lia,rfl,by rw[ne]⟩
      case g2=>decide+kernel
      case vF=>
       refine' aa ?b1 (aa ?b2 (aa ?b3 az))
       case b1=>walk_at "n"
       case b2=>
        walk_at "ec"
        exact congrArg D.int (by lia)
       case b3=>
        walk_at "ec"
        exact congrArg D.int (by lia)
   case hp=>walk_at "put"
   case zh=>
    have hs:=tL (n9 p i j o hv) v (vs.take n) (65536,(0,0))
    refine' wI (rest:=[]) (λρ1 O1=>ρ1=[some (dl (aD o)),some (.lst ((zP p i j).map dl)),some (dH hv),some (.lst (vs.map dH)),some (tM (M.gd (n9 p i j o hv) (65536,(0,0)) (vs.take (n+1)))),none,none,none]/\O1=[]) ?hc ?h1 ?h2 ?hj
    case hc=>walk_at "t"
    case hj=>
     rintro ρ1 O1 ⟨rfl,rfl⟩
     exact aL (Wk.refl _) ⟨rfl,rfl⟩
    case h1=>
     intro hf
     rw[if_pos (of_decide_eq_true hf)]at hs
     rw[cW hz,hs]
     refine' bK (d:=tM (n9 p i j o hv v,v)) c ?hl ?he ?hp ?zh
     case hl=>decide+kernel
     case he=>walk_at "e"
     case hp=>walk_at "put"
     case zh=>
      refine' aL ?w ⟨rfl,rfl⟩
      case w=>walk_at "wk"
    case h2=>
     intro hf
     rw[if_neg (of_decide_eq_false hf)]at hs
     rw[cW hz,hs]
     refine' aL ?w ⟨rfl,rfl⟩
     case w=>walk_at "wk"
def NG (P:Addr) (ds:List D) (d:D):Prop:=∃(p:Rd16.Pic) (i j:Nat) (o:List Nat) (h:Rd16.Vec),M.fh p/\i<16/\j<16/\o.length<1000/\ds=[kx P p,.int i,.int j,dl (aD o),dH h]/\
 d=tM (n9 p i j o h (fL p i j o h),fL p i j o h)
theorem AN (p:Rd16.Pic) (i j:Nat) (o:List Nat) (h v:Rd16.Vec):n9 p i j o h v<65536:=by
 show((ki p i j o h v:Nat):Int)<65536
 unfold ki;lia
theorem Bw {W:dg} {P:Addr} (gS:Gv W "SIDE" (.int 16)) (T:dC W "find_vector" "find_vector" tU ["picture","i","j","square","hint"]) (c1:ax W "window" 1 (cv (Ux P))) (c2:ax W "cheapest_place" 4 (dS NN)) (c3:ax W "whole_places" 1 (cv Ov)) (c4:ax W "places_beside" 1 (cv IZ)):ax W "find_vector" 5 (dS (NG P)):=by
 refine aQ (N:=["picture","i","j","square","hint","near","whole"]) T (by walk_at "fs") (λds O k h=>?_) λX c ds O k h=>?_
 ·obtain⟨_,_,⟨_,_,_,_,_,_,_,_,_,rfl,_⟩,_⟩:=h;rfl
 ·obtain⟨rfl,_,⟨p,i,j,o,hv,ok,hi,hj,ho,rfl,rfl⟩,hk⟩:=h
  change SV X [some (kx P p),some (.int i),some (.int j),some (dl (aD o)),some (dH hv),none,none] [] _ _ _
  have Xs:=M.qS (ki p i j o hv) 65536 (0,0) (-14,-14) (BG.drop 1) (AN p i j o hv (-14,-14))
  rw[<-M.HR]at Xs
  have wr:=M.uV p i j o hv
  have ZK:Ee (ki p i j o hv) (-14,-14) (BG.drop 1)=sW p i j o hv:=rfl
  rw[ZK]at Xs
  have Wl:fL p i j o hv=Ee (ki p i j o hv) (sW p i j o hv) (M.mO (sW p i j o hv)):=by rw[M.FR];rfl
  generalize hw:sW p i j o hv=w at Xs wr Wl
  have bst:=M.qS (ki p i j o hv) 65536 (0,0) w (M.mO w) (AN p i j o hv w)
  rw[<-Wl]at bst
  refine' bK (d:= .lst ((zP p i j).map dl)) c ?hl (cD.pev ?he) ?hp ?zh
  case hl=>decide+kernel
  case he=>
   refine' aV c c1 (by decide) ?g ?args ⟨p,((16*i:Nat):Int)-8,((16*j:Nat):Int)-8,32,ok,by lia,by lia,by lia,by lia,by lia,rfl,rfl⟩
   case g=>decide+kernel
   case args=>
    refine' aa ?b1 (aa ?b2 (aa ?b3 (aa ?b4 az)))
    case b1=>walk_at "n"
    case b2=>
     walk_at "ec"
     exact congrArg D.int (by lia)
    case b3=>
     walk_at "ec"
     exact congrArg D.int (by lia)
    case b4=>
     walk_at "ec"
     rfl
  case hp=>walk_at "put"
  case zh=>
  refine' bK (d:=tM (n9 p i j o hv w,w)) c ?hl ?he ?hp ?zh
  case hl=>decide+kernel
  case he=>
   refine' cI c c2 (by decide) ?g ?args ⟨p,i,j,o,hv,BG,ho,by decide+kernel,(λv hv=>by have:=M.EW v hv;lia),rfl,by rw[Xs]⟩
   case g=>decide+kernel
   case args=>
    refine' aa ?b1 (aa ?b2 (aa ?b3 (aa (cD.pev ?b4) az)))
    case b1=>walk_at "n"
    case b2=>walk_at "n"
    case b3=>walk_at "n"
    case b4=>
     refine' Ln c c3 (by decide) ?g2 ⟨rfl,rfl⟩
     case g2=>decide+kernel
  case hp=>walk_at "put"
  case zh=>
  refine' aT (bq.go (d:=tM (n9 p i j o hv (fL p i j o hv),fL p i j o hv)) ?hr hk)
  case hr=>
   refine' cI c c2 (by decide) ?g ?args ⟨p,i,j,o,hv,w::M.mO w,ho,?l1,?l2,rfl,by rw[bst]⟩
   case g=>decide+kernel
   case l1=>show(9+1:Nat)<1000;decide
   case l2=>
    intro v hv
    rcases aB.mp hv with rfl|hv
    ·lia
    ·unfold M.mO at hv
     simp only[bg,fG,aB,pq,or_false]at hv
     rcases hv with rfl|rfl|rfl|rfl|rfl|rfl|rfl|rfl|rfl<;>simp only<;>lia
   case args=>
    refine' aa ?b1 (aa ?b2 (aa ?b3 (aa (cD.pev ?b4) az)))
    case b1=>walk_at "n"
    case b2=>walk_at "n"
    case b3=>walk_at "n"
    case b4=>
     refine' aV c c4 (by decide) ?g2 ?vF ⟨w,rfl,rfl⟩
     case g2=>decide+kernel
     case vF=>walk_at "es"
def Hg (P:Addr) (ds:List D) (xs:List D):Prop:=∃(p q:Rd16.Pic) (i j:Nat) (v:Rd16.Vec),M.fh p/\i<16/\j<16/\-15<=v.1/\v.1<=15/\-15<=v.2/\v.2<=15/\ds=[kx P p,.int i,.int j,.int v.1,.int v.2]/\xs=(aD (bA p q i j (.moved v.1 v.2))).map .int
theorem zu {W:dg} {P:Addr} (gS:Gv W "SIDE" (.int 16)) (T:dC W "moved_square" "moved_square" rT ["picture","i","j","x","y"]) (c1:ax W "window" 1 (cv (Ux P))) (c2:ax W "between" 2 (cv M9)):ax W "moved_square" 3 (cv (Hg P)):=by
 refine aQ (N:=["picture","i","j","x","y","rows"]) T (by walk_at "fs") (λds O k h=>?_) λX c ds O k h=>?_
 ·obtain⟨_,_,⟨_,_,_,_,_,_,_,_,_,_,_,_,rfl,_⟩,_⟩:=h;rfl
 ·obtain⟨rfl,_,⟨p,q',i,j,v,ok,hi,hj,v1,v2,v3,v4,rfl,rfl⟩,hk⟩:=h
  rw[<-M.Ol p q' i j v.1 v.2]at hk
  change SV X [some (kx P p),some (.int i),some (.int j),some (.int v.1),some (.int v.2),none] [] _ _ _
  refine' bK (d:= .lst ((M.tH p (((16*i:Nat):Int)+v.1/2) (((16*j:Nat):Int)+v.2/2) 17).map dl)) c ?hl (cD.pev ?he) ?hp ?zh
  case hl=>decide+kernel
  case he=>
   refine' aV c c1 (by decide) ?g ?args ⟨p,((16*i:Nat):Int)+v.1/2,((16*j:Nat):Int)+v.2/2,17,ok,by lia,by lia,by lia,by lia,by lia,rfl,rfl⟩
   case g=>decide+kernel
   case args=>
    refine' aa ?b1 (aa ?b2 (aa ?b3 (aa ?b4 az)))
    case b1=>walk_at "n"
    case b2=>
     walk_at "ec"
     exact congrArg D.int (by lia)
    case b3=>
     walk_at "ec"
     exact congrArg D.int (by lia)
    case b4=>
     walk_at "ec"
     rfl
  case hp=>walk_at "put"
  case zh=>
  have wl:(M.tH p (((16*i:Nat):Int)+v.1/2) (((16*j:Nat):Int)+v.2/2) 17).length=17:=by simp[M.tH]
  refine' aT (EV.own_k (aV c c2 (by decide) ?g ?args ⟨_,(v.1%2).toNat,(v.2%2).toNat,by lia,by lia,by lia,by lia,rfl,rfl⟩) hk)
  case g=>decide+kernel
  case args=>
   refine' aa ?b1 (aa ?b2 (aa ?b3 az))
   case b1=>walk_at "n"
   case b2=>
    walk_at "ec"
    exact congrArg D.int (by lia)
   case b3=>
    walk_at "ec"
    exact congrArg D.int (by lia)
theorem sy {n p:Nat} (h:p<n):M0 n (p:Int)=some p:=by
 unfold M0;rw[if_pos (by lia),if_pos (by lia),bC]
inductive Fz (q:Addr) (ds:List D):dk->dk->Prop where
 |nil:Fz q ds [] []
 |turn {ρ ρ':dk}:Fz q ds ρ ρ'->Fz q ds (some (.ptr q)::ρ) (some (.lst ds)::ρ')
 |same {o:Option D} {ρ ρ':dk}:Fz q ds ρ ρ'->Fz q ds (o::ρ) (o::ρ')
theorem Fz.at {q:Addr} {ds:List D}:∀{ρ ρ':dk},Fz q ds ρ ρ'->∀i:Nat,ρ'[i]? =ρ[i]? \/(ρ[i]? =some (some (.ptr q))/\ρ'[i]? =some (some (.lst ds)))
 |_,_,.nil,_=> .inl rfl
 |_,_,.turn _,0=> .inr ⟨rfl,rfl⟩
 |_,_,.turn h,i+1=>by simpa using h.at i
 |_,_,.same _,0=> .inl rfl
 |_,_,.same h,i+1=>by simpa using h.at i
theorem IE {X:Cx} {ρ ρ':dk} {O:Os} {q:Addr} {ds:List D} {m5:List Stmt} {kn:KR} {kr:KD} (hf:Fz q ds ρ ρ') (h:SV X ρ' O m5 kn kr):SV X ρ ((q,.lst ds)::O) m5 kn kr:=NT hf.at h
def NP (ds:List D) (d:D):Prop:=∃(q:Nat) (c:Int),1<=q/\q<=64/\ds=[.int q,.int c]/\d= .int (Rd16.level q c)
theorem GZ {W:dg} (B:Bn W) (gG:Gv W "GREATEST" (.int 32767)) (T:dC W "level_of" "level_of" z7 ["step","number"]):ax W "level_of" 1 (dS NP):=by
 refine aQ (N:=["step","number","size"]) T (by walk_at "fs") (λds O k h=>?_) λX c ds O k h=>?_
 ·obtain⟨_,_,⟨_,_,_,_,rfl,_⟩,_⟩:=h;rfl
 ·obtain⟨rfl,_,⟨q,z,q1,q2,rfl,rfl⟩,hk⟩:=h
  rw[<-M.LZ]at hk
  change SV X [some (.int q),some (.int z),none] [] _ _ _
  refine' bK c ?hl ?he ?hp ?zh
  case hl=>decide+kernel
  case he=>walk_at "e"
  case hp=>walk_at "put"
  case zh=>
   refine aT (bq.go (d:= .int (M.CW q z)) ?_ hk)
   walk_at "ec"
   unfold M.CW
   simp only[decide_eq_true_eq]
   split<;>rfl
abbrev Tp:D:= .tup (wt.map λ(p:Nat)=>D.int (p:Int))
def Dm (ds:List D) (xs:List D):Prop:=∃(q:Nat) (b:List Int),1<=q/\q<=64/\b.length=64/\ds=[.int q,dl b]/\xs=(ny q b).map .int
theorem Fu {W:dg} (gO:Gv W "ORDER" Tp) (T:dC W "levels_of" "levels_of" xF ["step","block"]) (c1:ax W "level_of" 1 (dS NP)):ax W "levels_of" 2 (cv Dm):=by
 refine aQ (N:=["step","block","place"]) T (by walk_at "fs") (λds O k h=>?_) λX c ds O k h=>?_
 ·obtain⟨_,_,⟨_,_,_,_,_,rfl,_⟩,_⟩:=h;rfl
 ·obtain⟨rfl,_,⟨q,b,q1,q2,hb,rfl,rfl⟩,hk⟩:=h
  change SV X [some (.int q),some (dl b),none] [] _ _ _
  refine aT (EV.own_k (ds:=(ny q b).map .int) ?_ hk)
  refine' cD.cast (ds:=?BS) ?eU ?qU
  case eU=>
   refine' fP ["place"] [2] (l:=wt) (enc:=λ(p:Nat)=>D.int (p:Int)) (g:=λp=>D.int (Rd16.level q (b.getD p 0))) c (oJ ?hi) ?ok ?ho ?hz ?wp ?gU
   case hi=>walk_at "e"
   case ok=>decide+kernel
   case ho=>decide+kernel
   case hz=>rw[M.kE,af];decide
   case wp=>walk_at "wp"
   case gU=>
    intro p hp
    have Wn:=M.Fn p hp
    refine⟨[some (.int q),some (dl b),some (.int p)],λY cY=>⟨by walk_at "tg1",?_⟩⟩
    refine' cI cY c1 (by decide) ?g ?args ⟨q,b.getD p 0,q1,q2,rfl,rfl⟩
    case g=>decide+kernel
    case args=>
     refine' aa ?a1 (aa (j7 (l:=b) (f:=D.int) ?ea ?eb rfl (kY (by lia)) ?hs) az)
     case a1=>walk_at "n"
     case ea=>walk_at "n"
     case eb=>walk_at "n"
     case hs=>intro _ _;rfl
  case qU=>unfold ny;rw[aF];rfl
def Di (ds:List D) (xs:List D):Prop:=∃(q:Nat) (l:List Int),q<=64/\l.length=64/\ds=[.int q,dl l]/\xs=(i6 q l).map .int
theorem Nm {α β:Type} (a:List α) (b:List β) (f:α->D) (g:β->D) (m:Nat) (ha:a.length=m) (hb:b.length=m):vT [a.map f,b.map g] m=(a.zip b).map λq=>D.tup [f q.1,g q.2]:=by
 apply xp
 intro i
 unfold vT
 by_cases hi:i<m
 ·rw[aE,dE hi,aE,show(a.zip b)[i]? =some (a[i]'(by lia),b[i]'(by lia))from CO.mpr ⟨aI (by lia),aI (by lia)⟩]
  simp only[jt,bg,fG]
  rw[M.iP f a i _ (by lia),M.iP g b i _ (by lia)]
 ·rw[bu (by simp;lia),bu (by simp;lia)]
theorem Ff {W:dg} (B:Bn W) (gO:Gv W "ORDER" Tp) (T:dC W "values_of" "values_of" xH ["step","levels"]):ax W "values_of" 1 (cv Di):=by
 refine aQ (N:=["step","levels","block","place","level"]) T (by walk_at "fs") (λds O k h=>?_) λX c ds O k h=>?_
 ·obtain⟨_,_,⟨_,_,_,_,rfl,_⟩,_⟩:=h;rfl
 ·obtain⟨rfl,_,⟨q,l,q2,hl,rfl,rfl⟩,hk⟩:=h
  rw[<-M.MR]at hk
  change SV X [some (.int q),some (dl l),none,none,none] [] _ _ _
  refine' gk (ds:=(M.sI q l 0).map .int) (λa=>[some (.int q),some (dl l),some (.ptr a),none,none]) c ?hl (cD.cast (lL (ds:=[.int 0]) (i:=64) (cD.pev (dP ?es ?z)) ?e64 ?b1 ?b2 ?b3) ?qv) ?hx ?zh ?hs
  case hl=>decide+kernel
  case es=>walk_at "es"
  case z=>show 1<=sizeLine;rw[af];decide
  case e64=>walk_at "e"
  case b1=>lia
  case b2=>lia
  case b3=>show 1*64<=sizeLine;rw[af];decide
  case qv=>rw[M.J6,dU];exact l7 _ _
  case hx=>intro q;walk_at "put"
  case hs=>rfl
  case zh=>
  intro a
  refine' gy (ds:=(wt.zip l).map λq=>D.tup [.int (q.1:Nat),.int q.2]) c (pF.cast (zw (m:=64) c ?g B.zip ?ea ?eb ?l1 ?l2) ?qz) (λi ρ1 O1=>ρ1=[some (.int q),some (dl l),some (.ptr a),none,none]/\O1=[(a,.lst ((M.sI q l i).map .int))]) ⟨rfl,rfl⟩ ?step ?done
  case g=>decide+kernel
  case ea=>walk_at "e"
  case eb=>walk_at "n"
  case l1=>rw[ah,M.kE]
  case l2=>rw[ah,hl]
  case qz=>exact Nm wt l _ _ 64 M.kE hl
  case done=>
   rintro ρ1 O1 ⟨rfl,rfl⟩
   rw[ah,bZ,M.kE,hl]
   exact aT (bq.go (d:= .ptr a) (by walk_at "n") (hk a))
  case step=>
   rintro i d ρ1 O1 hd ⟨rfl,rfl⟩
   obtain⟨p,z,hp,hz,rfl⟩:=AG hd
   have hi:i<64:=by have:=(bh.mp hz).1;lia
   have Wn:=M.Fn p (bJ hp)
   have hs:=M.Le q l i hi
   have e1:wt.getD i 0=p:=by rw[aR,hp];rfl
   have e2:l.getD i 0=z:=by rw[aR,hz];rfl
   rw[e1,e2]at hs
   have hvl:(M.sI (q:Int) l i).length=64:=by simp[M.sI]
   refine⟨_,by walk_at "tg2",?_⟩
   refine' kA (q:=a) (d:= .int (z*q)) (jj:=p) ?he ?ho ?hi ?hj .here ?zh
   case he=>walk_at "e"
   case ho=>walk_at "n"
   case hi=>walk_at "n"
   case hj=>rw[bF,hvl];exact sy Wn
   case zh=>
    refine' aL ?w ⟨rfl,?qq⟩
    case w=>walk_at "wk"
    case qq=>rw[<-hs,mj]
abbrev Nu (s:Nat×Nat×Int):D:= .tup [.int (s.1:Nat),.int (s.2.1:Nat),.int s.2.2]
abbrev Gx:D:= .tup (dF.map Nu)
theorem Jf:∀s∈dF,-40000<s.2.2/\s.2.2<40000:=by decide
def tG (f:List Int->List Int) (ds:List D) (xs:List D):Prop:=∃b:List Int,b.length=64/\(∀z∈b,M.rH z)/\ds=[dl b]/\xs=(f b).map .int
theorem Fg {R:List (List Int)} (h:M.KU R):R.flatten.length=64:=by rw[M.eG h.row,h.len]
theorem vJ {W:dg} (B:Bn W) (gT:Gv W "STEPS" Gx) (T:dC W "columns_forward" "columns_forward" mJ ["block"]) (c1:ax W "rows_of" 1 (cv Fs)) (c2:ax W "joined" 1 (cv BK)):ax W "columns_forward" 2 (cv (tG M.nI)):=by
 refine aQ (N:=["block","rows","t","s","c","a","b"]) T (by walk_at "fs") (λds O k h=>?_) λX c ds O k h=>?_
 ·obtain⟨_,_,⟨_,_,_,rfl,_⟩,_⟩:=h;rfl
 ·obtain⟨rfl,xs,⟨b,hl,hb,ji,gY⟩,hk⟩:=h
  subst ji
  rw[gY]at hk
  clear gY xs
  change SV X [some (dl b),none,none,none,none,none,none] [] _ _ _
  refine' gk (ds:=(M.cN b 8 8).map dl) (λa=>[some (dl b),some (.ptr a),none,none,none,none,none]) c ?hl ?he ?hx ?zh ?hs
  case hl=>decide+kernel
  case he=>
   refine' aV c c1 (by decide) ?g ?args ⟨b,8,8,by lia,by lia,by lia,by lia,rfl,rfl⟩
   case g=>decide+kernel
   case args=>
    refine' aa ?a1 (aa ?a2 az)
    case a1=>walk_at "n"
    case a2=>
     walk_at "ec"
     rfl
  case hx=>intro q;walk_at "put"
  case hs=>rfl
  case zh=>
  intro q
  have sq:∀i,M.KU ((dF.take i).foldl (M.dq M.tV) (M.cN b 8 8)):=λi=>
   (M.lK (f:=Rd16.step) (λa b=>a+b) M.Fq (λx s=>rfl) (λa=>by simp) (dF.take i) _ (λs hs=>M.n6 s (i5 hs)) (M.Hv hl hb)).1
  refine' gy (ds:=dF.map Nu) c (oJ ?hi) (λi ρ1 O1=>ρ1=[some (dl b),some (.ptr q),none,none,none,none,none]/\O1=[(q,.lst (((dF.take i).foldl (M.dq M.tV) (M.cN b 8 8)).map dl))]) ⟨rfl,rfl⟩ ?step ?done
  case hi=>walk_at "e"
  case done=>
   rintro ρ1 O1 ⟨rfl,rfl⟩
   rw[ah,dB]
   have s8:=sq dF.length
   rw[dB]at s8
   have yV:∀q,k (.ptr q) [(q,.lst ((dF.foldl (M.dq M.tV) (M.cN b 8 8)).flatten.map .int))]:=hk
   generalize dF.foldl (M.dq M.tV) (M.cN b 8 8)=R at s8 yV
   refine' IE (ρ':=[some (dl b),some (.lst (R.map dl)),none,none,none,none,none]) ?fz (aT (EV.own_k (aV c c2 (by decide) ?g ?args ⟨R,by rw[Fg s8];lia,rfl,rfl⟩) yV))
   case fz=>walk_at "fz"
   case g=>decide+kernel
   case args=>walk_at "es"
  case step=>
   rintro i d ρ1 O1 hd ⟨rfl,rfl⟩
   rw[aE]at hd
   obtain⟨s,hs,rfl⟩:=bU.mp hd
   have Pa:=bJ hs
   obtain⟨t8,s8⟩:=M.n6 s Pa
   obtain⟨k1,k2⟩:=Jf s Pa
   have q8:=sq i
   rw[cW hs,xq,eM,BC]
   generalize (dF.take i).foldl (M.dq M.tV) (M.cN b 8 8)=R at q8
   have T7:R[s.2.1]? =some (R.getD s.2.1 []):=kY (by rw[q8.len];exact s8)
   have RX:R[s.1]? =some (R.getD s.1 []):=kY (by rw[q8.len];exact t8)
   have rl:=q8.rowLen t8
   refine⟨_,by walk_at "tg2",?_⟩
   have SY:∀{Y:Cx} {ρ2:dk} {e:aS} {i2:aS} {pos:Pos} {j:Nat},bq Y ρ2 [(q,.lst (R.map dl))] e (.ptr q)->bq Y ρ2 [(q,.lst (R.map dl))] i2 (.int (j:Nat))->R[j]? =some (R.getD j [])->lG i2->bq Y ρ2 [(q,.lst (R.map dl))] (.Subscript e i2 pos) (dl (R.getD j [])):=
    λ{Y ρ2 e i2 pos j} h1 h2 h3 h4=>IT h1 ae h2 (vG (by rw[aE,h3];rfl)) h4
   refine' eQ (t:=(R.getD s.2.1 []).any λz=>z !=0) (fV (mf c B ?g (SY ?e1 ?e2 T7 ?pl) rfl) ?tv) ?h1 ?h2
   case g=>decide+kernel
   case e1=>walk_at "n"
   case e2=>walk_at "n"
   case pl=>intro _ _;rfl
   case tv=>intro _;rfl
   case h2=>
    intro hf
    refine aL (Wk.refl _) ?_
    refine' aL ?w ⟨rfl,?qq⟩
    case w=>walk_at "wk"
    case qq=>unfold M.dq;rw[hf];rfl
   case h1=>
    intro hf
    refine' kA (q:=q) (d:=dl (((R.getD s.1 []).zip (R.getD s.2.1 [])).map λp=>M.tV p.1 p.2 s.2.2)) (jj:=s.1) (cD.pev (cD.cast (ds:=?BS) ?eU ?qU)) ?ho ?hi ?hj .here ?zh
    case ho=>walk_at "n"
    case hi=>walk_at "n"
    case hj=>rw[ah,q8.len];exact sy t8
    case eU=>
     refine' fP ["a","b"] [5,6] (l:=(R.getD s.1 []).zip (R.getD s.2.1 [])) (enc:=λp=>D.tup [.int p.1,.int p.2]) (g:=λp=>D.int (M.tV p.1 p.2 s.2.2)) c ?yR ?Q3 ?AR ?Av ?Ud ?HQ
     case yR=>
      refine' iN (e1:=D.int) (e2:=D.int) c ?g2 B.zip (SY ?e1 ?e2 RX ?pl) (SY ?e3 ?e4 T7 ?Y1)
      case g2=>decide+kernel
      case e1=>walk_at "n"
      case e2=>walk_at "n"
      case pl=>intro _ _;rfl
      case e3=>walk_at "n"
      case e4=>walk_at "n"
      case Y1=>intro _ _;rfl
     case Q3=>decide+kernel
     case AR=>decide+kernel
     case Av=>rw[bZ,rl,af];lia
     case Ud=>walk_at "wp"
     case HQ=>
      intro p hp
      refine⟨_,λY cY=>⟨by walk_at "tg2",?_⟩⟩
      walk_at "ec"
      rfl
    case qU=>rw[aF];rfl
    case zh=>
     refine aL (Wk.refl _) ?_
     refine' aL ?w ⟨rfl,?qq⟩
     case w=>walk_at "wk"
     case qq=>unfold M.dq;rw[if_pos hf,mj]
theorem KJ {W:dg} (T:dC W "forward" "forward" CD ["block"]) (c1:ax W "columns_forward" 2 (cv (tG M.nI))) (c2:ax W "turned" 2 (cv Jp)):ax W "forward" 3 (cv (tG jg)):=by
 refine aQ (N:=["block","columns_done"]) T (by walk_at "fs") (λds O k h=>?_) λX c ds O k h=>?_
 ·obtain⟨_,_,⟨_,_,_,rfl,_⟩,_⟩:=h;rfl
 ·obtain⟨rfl,xs,⟨b,hl,hb,ji,gY⟩,hk⟩:=h
  subst ji
  rw[gY]at hk
  clear gY xs
  rw[<-(M.GW hl hb).1]at hk
  obtain⟨e1,b1⟩:=M.vz hl hb
  have l1:(M.nI b).length=64:=by rw[e1,M.cZ]
  have b2:=M.jw b1
  have l2:=M.cZ (M.nI b)
  obtain⟨e3,b3⟩:=M.vz l2 b2
  have l3:(M.nI (sX (M.nI b))).length=64:=by rw[e3,M.cZ]
  change SV X [some (dl b),none] [] _ _ _
  refine' bK (d:=dl (M.nI b)) c ?hl (cD.pev (aV c c1 (by decide) ?g ?args ⟨b,hl,hb,rfl,rfl⟩)) ?hp ?zh
  case hl=>decide+kernel
  case g=>decide+kernel
  case args=>walk_at "es"
  case hp=>walk_at "put"
  case zh=>
   refine' aT (EV.own_k (aV c c2 (by decide) ?g ?args ⟨_,8,8,by lia,by lia,l3,by lia,rfl,rfl⟩) (by rw[M.nV];exact hk))
   case g=>decide+kernel
   case args=>
    refine' aa (cD.pev (aV c c1 (by decide) ?g2 ?vF ⟨_,l2,b2,rfl,rfl⟩)) (aa ?a2 az)
    case g2=>decide+kernel
    case a2=>
     walk_at "ec"
     rfl
    case vF=>
     refine' aa (bq.cast (cD.pev (aV c c2 (by decide) ?g3 ?ML ⟨_,8,8,by lia,by lia,l1,by lia,rfl,rfl⟩)) (by rw[M.nV])) az
     case g3=>decide+kernel
     case ML=>
      refine' aa ?a3 (aa ?a4 az)
      case a3=>walk_at "n"
      case a4=>
       walk_at "ec"
       rfl
theorem QW {elt:aS} {gs:List JE} {scope:Scope} {pos py:Pos} {y:Str} {l:Nat} {env:Env} (hy:(env.scope.names.lookup y==some .cell)=true):eA (.ListComp elt gs scope pos) (some (.Name y py)) l env=pure false:=by
 have e:env.scope.names.lookup y=some .cell:=eq_of_beq hy
 have ky:env.kindOf y=some .cell:=e
 unfold eA
 simp only[ky]
 have:(some sF==some gu.local)=false:=by decide
 rw[this]
 simp only[Bool.and_false,Bool.false_and]
section
variable {W:dg} {X:Cx} {N:List Str} {sc:Scope} {n:Nat} {ρ ρ':dk} {O:Os} {elt:aS} {gs:List JE} {scope:Scope} {pos p' uu:Pos} {x:Str} {ds:List D} {rest:List Stmt} {kn:KR} {kr:KD}
theorem Ks (c:eZ W X N sc n true) (hc:(sc.names.lookup x==some .cell)=true) (hl:Bh true sc x=true) (he:cD X ρ O (.ListComp elt gs scope pos) ds) (hp:uv N ρ x (.lst ds) ρ') (h:SV X ρ' O rest kn kr):SV X ρ O (.Assign [.Name x p'] (.ListComp elt gs scope pos) uu::rest) kn kr:=
 bK c hl he.pev hp h (QW (by rw[c.scp];exact hc))
end
theorem ib (l:List Nat):(aD l).length=l.length:=by simp[aD]
abbrev FN:D:= .tup (([(0,0),(8,0),(0,8),(8,8)]:List Rd16.Vec).map dH)
theorem IH:([(0,0),(8,0),(0,8),(8,8)]:List Rd16.Vec)=(ar 4).map λk=>(((8*(k%2):Nat):Int),((8*(k/2):Nat):Int)):=by decide+kernel
theorem Qh (o e:List Nat):M.Dq o e=cS (λ(x y:Int)=>x-y) (aD o) (aD e):=by
 unfold M.Dq aD;rw[pj]
def R0 (ds:List D) (xs:List D):Prop:=∃(q:Nat) (o e:List Nat),1<=q/\q<=64/\o.length=256/\e.length=256/\(∀x∈o,x<=255)/\(∀x∈e,x<=255)/\ds=[.int q,dl (aD o),dl (aD e)]/\xs=(cQ q e o).map dl
theorem va {W:dg} (B:Bn W) (gS:Gv W "SIDE" (.int 16)) (gC:Gv W "CORNERS" FN) (T:dC W "leftover_levels" "leftover_levels" mH ["step","square","guess"]) (c1:ax W "cut" 2 (cv U5)) (c2:ax W "levels_of" 2 (cv Dm)) (c3:ax W "forward" 3 (cv (tG jg))):ax W "leftover_levels" 4 (cv R0):=by
 refine aQ (N:=["step","square","guess","rest","blocks","point","likely","left","top","block"]) T (by walk_at "fs") (λds O k h=>?_) λX c ds O k h=>?_
 ·obtain⟨_,_,⟨_,_,_,_,_,_,_,_,_,rfl,_⟩,_⟩:=h;rfl
 ·obtain⟨rfl,xs,⟨q,o,e,q1,q2,ho,he,AR,QE,ji,gY⟩,hk⟩:=h
  subst ji
  rw[gY]at hk
  clear gY xs
  rw[M.QA q e o ho he]at hk
  have sb:=M.MB o e AR QE
  have sl:(M.Dq o e).length=16*16:=by unfold M.Dq;rw[gR,ho,he];rfl
  change SV X [some (.int q),some (dl (aD o)),some (dl (aD e)),none,none,none,none,none,none,none] [] _ _ _
  refine' Ks (ds:=(M.Dq o e).map .int) c ?II ?hl (cD.cast (ds:=?BS) ?eU ?qU) ?hp ?zh
  case II=>decide+kernel
  case hl=>decide+kernel
  case eU=>
   refine' fP ["point","likely"] [5,6] (l:=(aD o).zip (aD e)) (enc:=λq=>D.tup [.int q.1,.int q.2]) (g:=λq=>D.int (q.1-q.2)) c ?hi ?ok ?ho ?hz ?wp ?gU
   case hi=>
    refine' iN (e1:=D.int) (e2:=D.int) c ?g B.zip ?ea ?eb
    case g=>decide+kernel
    case ea=>walk_at "n"
    case eb=>walk_at "n"
   case ok=>decide+kernel
   case ho=>decide+kernel
   case hz=>rw[bZ,ib,ib,af];lia
   case wp=>walk_at "wp"
   case gU=>
    intro q hq
    exact⟨_,λY cY=>⟨by walk_at "tg2",by walk_at "e"⟩⟩
  case qU=>rw[Qh];exact oI (λ(x y:Int)=>x-y) D.int _ _
  case hp=>walk_at "put"
  case zh=>
  generalize M.Dq o e=TK at sb sl hk
  have bl:∀k,k<4->(M.p9 TK 16 (8*(k%2)) (8*(k/2)) 8).length=64/\∀z∈M.p9 TK 16 (8*(k%2)) (8*(k/2)) 8,M.rH z:=λk hk=>⟨M.N4 TK 16 _ _ 8 16 sl (by lia) (by lia),M.Mi sb _ _ _ _⟩
  refine' nF ["left","top"] [7,8] (l:=ar 4) (enc:=λk=>dH (((8*(k%2):Nat):Int),((8*(k/2):Nat):Int))) (g:=λk=>dl (M.p9 TK 16 (8*(k%2)) (8*(k/2)) 8)) c ?oB ?yV ?Dj ?LN (oJ (bq.cast ?hi ?qi)) ?ok ?ho ?hz ?wp ?gU ?hx ?zh
  case oB=>decide+kernel
  case yV=>decide+kernel
  case Dj=>decide+kernel
  case LN=>decide+kernel
  case hi=>walk_at "e"
  case qi=>unfold FN;rw[IH,aF];rfl
  case ok=>decide+kernel
  case ho=>decide+kernel
  case hz=>rw[af];decide
  case wp=>walk_at "wp"
  case gU=>
   intro k Vp
   have Vp:k<4:=by simpa using Vp
   refine⟨_,λY cY=>⟨by walk_at "tg2",?_⟩⟩
   refine' cD.pev (aV cY c1 (by decide) ?g ?args ⟨TK,16,8*(k%2),8*(k/2),8,by lia,by lia,by lia,by lia,rfl,rfl⟩)
   case g=>decide+kernel
   case args=>
    refine' aa ?a1 (aa ?a2 (aa ?a3 (aa ?a4 (aa ?a5 az))))
    case a1=>walk_at "n"
    case a2=>
     walk_at "ec"
     rfl
    case a3=>walk_at "n"
    case a4=>walk_at "n"
    case a5=>
     walk_at "ec"
     rfl
  case hx=>walk_at "put"
  case zh=>
  refine' aT (EV.own_k (cD.cast (ds:=?dsV) ?eV ?qV) hk)
  case eV=>
   refine' fP ["block"] [9] (l:=ar 4) (enc:=λk=>dl (M.p9 TK 16 (8*(k%2)) (8*(k/2)) 8)) (g:=λk=>dl (ny q (jg (M.p9 TK 16 (8*(k%2)) (8*(k/2)) 8)))) c (fe ?hi) ?ok ?ho ?hz ?wp ?gU
   case hi=>walk_at "n"
   case ok=>decide+kernel
   case ho=>decide+kernel
   case hz=>rw[af];decide
   case wp=>walk_at "wp"
   case gU=>
    intro k Vp
    have Vp:k<4:=by simpa using Vp
    obtain⟨l1,l2⟩:=bl k Vp
    have fw:=M.GW l1 l2
    refine⟨_,λY cY=>⟨by walk_at "tg1",?_⟩⟩
    refine' cD.pev (aV cY c2 (by decide) ?g ?args ⟨q,_,q1,q2,fw.2.1,rfl,rfl⟩)
    case g=>decide+kernel
    case args=>
     refine' aa ?a1 (aa (cD.pev (aV cY c3 (by decide) ?g2 ?vF ⟨_,l1,l2,rfl,rfl⟩)) az)
     case a1=>walk_at "n"
     case g2=>decide+kernel
     case vF=>walk_at "es"
  case qV=>rw[aF];rfl
theorem MC (L:List (List Int)):((L.map λl=>l.any λz=>z !=0).any id)=true↔¬M.u7 L:=by
 unfold M.u7
 simp only[FX,pb,bP,id]
 constructor
 ·rintro⟨l,hl,z,hz,h⟩ To
  have:=To l hl z hz
  subst this;simp at h
 ·intro h
  apply iR
  intro hn
  apply h
  intro l hl z hz
  apply iR
  intro hz0
  exact hn ⟨l,hl,z,hz,by simpa using hz0⟩
def GC (ds:List D) (d:D):Prop:=∃(q:Nat) (e:List Nat) (L:List (List Int)),1<=q/\q<=64/\e.length=256/\(∀x∈e,x<=255)/\L.length=4/\(∀l∈L,l.length=64/\∀z∈l,z.natAbs*q<=32767)/\ds=[.int q,dl (aD e),.lst (L.map dl)]/\d=dl (aD (gK q e L))
theorem NX {k:Nat} {v:Rd16.Vec} (h:([(0,0),(8,0),(0,8),(8,8)]:List Rd16.Vec)[k]? =some v):k<4/\v=(((8*(k%2):Nat):Int),((8*(k/2):Nat):Int)):=by
 have hk:k<4:=(bh.mp h).1
 rw[IH,aE,dE hk]at h
 exact⟨hk,(bo h).symm⟩
theorem AB {W:dg} (B:Bn W) (gS:Gv W "SIDE" (.int 16)) (gC:Gv W "CORNERS" FN) (T:dC W "shown_square" "shown_square" rk ["step","guess","blocks"]) (c1:ax W "lay" 2 S3) (c2:ax W "values_of" 1 (cv Di)) (c3:ax W "backward" 3 (cv (tG eD))):ax W "shown_square" 4 (dS GC):=by
 refine aQ (N:=["step","guess","blocks","rest","corner","levels","likely","more"]) T (by walk_at "fs") (λds O k h=>?_) λX c ds O k h=>?_
 ·obtain⟨_,_,⟨_,_,_,_,_,_,_,_,_,rfl,_⟩,_⟩:=h;rfl
 ·obtain⟨rfl,xs,⟨q,e,L,q1,q2,he,QE,hL,Sf,ji,gY⟩,hk⟩:=h
  subst ji
  rw[gY]at hk
  clear gY xs
  change SV X [some (.int q),some (dl (aD e)),some (.lst (L.map dl)),none,none,none,none,none] [] _ _ _
  refine' eQ (t:=!((L.map λl=>l.any λz=>z !=0).any id)) (kO (fV (E6 c B ?g (cD.pev (cD.cast (ds:=?BS) ?eU ?qU)) rfl) ?tv)) ?h1 ?h2
  case g=>decide+kernel
  case tv=>intro _;rfl
  case eU=>
   refine' fP ["levels"] [5] (l:=L) (enc:=dl) (g:=λl=>D.bl (l.any λz=>z !=0)) c (fe ?hi) ?ok ?ho ?hz ?wp ?gU
   case hi=>walk_at "n"
   case ok=>decide+kernel
   case ho=>decide+kernel
   case hz=>rw[hL,af];decide
   case wp=>walk_at "wp"
   case gU=>
    intro l hl
    refine⟨_,λY cY=>⟨by walk_at "tg1",?_⟩⟩
    refine' mf cY B ?g2 ?ea rfl
    case g2=>decide+kernel
    case ea=>walk_at "n"
  case qU=>rw[aF];rfl
  case h1=>
   intro hf
   have hz:M.u7 L:=iR λhn=>by rw[(MC L).mpr hn]at hf;cases hf
   rw[M.ug q e L he QE hL (λb hb=>(Sf b hb).1) hz]at hk
   exact aT (bq.go (d:=dl (aD e)) (by walk_at "n") hk)
  case h2=>
  intro hf
  refine aL (Wk.refl _) ?_
  refine' gk (ds:=(M.uC (L.map λb=>eD (i6 q b)) 0).map .int) (λa=>[some (.int q),some (dl (aD e)),some (.lst (L.map dl)),some (.ptr a),none,none,none,none]) c ?hl (cD.cast (lL (ds:=[.int 0]) (i:=16*16) (cD.pev (dP ?es ?z)) ?Y2 ?b1 ?b2 ?b3) ?qv) ?hx ?zh ?hs
  case hl=>decide+kernel
  case es=>walk_at "es"
  case z=>show 1<=sizeLine;rw[af];decide
  case Y2=>walk_at "e"
  case b1=>lia
  case b2=>lia
  case b3=>show 1*256<=sizeLine;rw[af];decide
  case qv=>rw[l7];show _=(aq 256 (0:Int)).map D.int;rw[dU];rfl
  case hx=>intro q;walk_at "put"
  case hs=>rfl
  case zh=>
  intro a
  generalize hP:(L.map λb=>eD (i6 q b))=P
  have hPl:P.length=4:=by rw[<-hP,ah,hL]
  have hPg:∀k l,L[k]? =some l->P.getD k []=eD (i6 q l)/\(eD (i6 q l)).length=64:=λk l hl=>by
   have hm:=Sf l (bJ hl)
   refine⟨by rw[<-hP,aR,aE,hl];rfl,?_⟩
   exact(M.HF (M.ue q l) (M.zY q l hm.2)).2.1
  refine' gy (ds:=(([(0,0),(8,0),(0,8),(8,8)]:List Rd16.Vec).zip L).map λq=>D.tup [dH q.1,dl q.2]) c (pF.cast (zw (m:=4) c ?g B.zip ?ea ?eb ?l1 ?l2) ?qz) (λi ρ1 O1=>ρ1=[some (.int q),some (dl (aD e)),some (.lst (L.map dl)),some (.ptr a),none,none,none,none]/\O1=[(a,.lst ((M.uC P i).map .int))]) ⟨rfl,rfl⟩ ?step ?done
  case g=>decide+kernel
  case ea=>walk_at "e"
  case eb=>walk_at "n"
  case l1=>rfl
  case l2=>rw[ah,hL]
  case qz=>exact Nm _ L dH dl 4 rfl hL
  case done=>
   rintro ρ1 O1 ⟨rfl,rfl⟩
   rw[ah,bZ,hL]
   show SV X _ [(a,.lst ((M.uC P 4).map .int))] _ _ _
   have cl:=M.nW P 4
   have hse:=M.Nb q e L
   rw[hP]at hse
   rw[<-hse]at hk
   refine' IE (ρ':=[some (.int q),some (dl (aD e)),some (.lst (L.map dl)),some (dl (M.uC P 4)),none,none,none,none]) ?fz (aT (bq.go (cD.pev (cD.cast (ds:=?dsV) ?eV ?qV)) hk))
   case fz=>walk_at "fz"
   case eV=>
    refine' fP ["likely","more"] [6,7] (l:=(aD e).zip (M.uC P 4)) (enc:=λq=>D.tup [.int q.1,.int q.2]) (g:=λq=>D.int (M.iK (q.1+q.2))) c ?hi ?ok ?ho ?hz ?wp ?gU
    case hi=>
     refine' iN (e1:=D.int) (e2:=D.int) c ?g2 B.zip ?O8 ?Qd
     case g2=>decide+kernel
     case O8=>walk_at "n"
     case Qd=>walk_at "n"
    case ok=>decide+kernel
    case ho=>decide+kernel
    case hz=>rw[bZ,ib,cl,af];lia
    case wp=>walk_at "wp"
    case gU=>
     intro q hq
     refine⟨_,λY cY=>⟨by walk_at "tg2",?_⟩⟩
     walk_at "ec"
     rfl
   case qV=>exact oI (λ(x d:Int)=>M.iK (x+d)) D.int _ _
  case step=>
   rintro i d ρ1 O1 hd ⟨rfl,rfl⟩
   obtain⟨v,l,hv,hl,rfl⟩:=AG hd
   obtain⟨hi,rfl⟩:=NX hv
   obtain⟨hpg,Lu⟩:=hPg i l hl
   have hm:=Sf l (bJ hl)
   have cl:=M.nW P i
   refine⟨[some (.int q),some (dl (aD e)),some (.lst (L.map dl)),some (.ptr a),some (dH (((8*(i%2):Nat):Int),((8*(i/2):Nat):Int))),some (dl l),none,none],by walk_at "tg2",?_⟩
   refine' fE (jU c c1 (by decide) ?g (ir.go ?args ⟨[(a,.lst ((M.uC P i).map .int))],[],rfl,a,M.uC P i,16,8*(i%2),8*(i/2),8,16,eD (i6 q l),cl,by lia,by lia,Lu,by lia,by lia,by lia,rfl,rfl,?k⟩))
   case g=>decide+kernel
   case k=>
    refine' aL ?w ⟨rfl,?qq⟩
    case w=>walk_at "wk"
    case qq=>rw[<-hpg];rfl
   case args=>
    refine' aa ?a1 (aa ?a2 (aa ?a3 (aa ?a4 (aa ?a5 (aa ?a6 az)))))
    case a1=>walk_at "n"
    case a2=>
     walk_at "ec"
     rfl
    case a3=>walk_at "e"
    case a4=>walk_at "e"
    case a5=>
     walk_at "ec"
     rfl
    case a6=>
     refine' cD.pev (aV c c3 (by decide) ?g3 ?ML ⟨i6 q l,M.ue q l,M.zY q l hm.2,rfl,rfl⟩)
     case g3=>decide+kernel
     case ML=>
      refine' aa (cD.pev (aV c c2 (by decide) ?g4 ?Ww ⟨q,l,q2,hm.1,rfl,rfl⟩)) az
      case g4=>decide+kernel
      case Ww=>walk_at "es"
def z9 (ds:List D) (xs:List D):Prop:=∃l:List Int,l.length=64/\(∀z∈l,z.natAbs<=32767)/\cu l≠0/\ds=[dl l]/\xs=(M.gi (bT l)).map .int
theorem Qr (p:Prop) [Decidable p]:(if decide p=true then D.int 1 else D.int 0)=D.int (M.bi (decide p)):=by
 unfold M.bi;split<;>simp_all
theorem Dp {W:dg} (B:Bn W) (T:dC W "block_bits" "block_bits" vI ["levels"]) (c1:ax W "number_bits" 2 (cv Qm)):ax W "block_bits" 3 (cv z9):=by
 refine aQ (N:=["levels","bits","zeros","level"]) T (by walk_at "fs") (λds O k h=>?_) λX c ds O k h=>?_
 ·obtain⟨_,_,⟨_,_,_,_,rfl,_⟩,_⟩:=h;rfl
 ·obtain⟨rfl,xs,⟨l,hl,hb,hc,ji,gY⟩,hk⟩:=h
  subst ji
  rw[gY]at hk
  clear gY xs
  have II:cu l<=64:=by unfold cu;rw[<-hl];exact kR _ _
  have hbb:bT l=dw (cu l-1)++my 0 l:=by unfold bT;rw[if_neg hc]
  rw[hbb]at hk
  have Pr:=M.fD (cu l-1) (by lia)
  change SV X [some (dl l),none,none,none] [] _ _ _
  refine' gk (ds:=(M.gi (dw (cu l-1))).map .int) (λa=>[some (dl l),some (.ptr a),none,none]) c ?hl (aV c c1 (by decide) ?g (aa ?a1 az) ⟨cu l-1,by lia,rfl,rfl⟩) ?hx ?zh ?hs
  case hl=>decide+kernel
  case g=>decide+kernel
  case a1=>
   refine' bq.cast (vO (vO (kH c B ?g2 ?e1 rfl) (JY ?e2 bI)) bI) ?q
   case g2=>decide+kernel
   case e1=>walk_at "n"
   case e2=>walk_at "n"
   case q=>
    have:=M.Ms l
    rw[bF]
    exact congrArg D.int (by lia)
  case hx=>intro q;walk_at "put"
  case hs=>rfl
  case zh=>
  intro a
  refine' bK (d:= .int 0) c ?hl bI ?hp ?zh
  case hl=>decide+kernel
  case hp=>walk_at "put"
  case zh=>
  refine' gy (ds:=l.map .int) c (fe ?hi) (λi ρ1 O1=>∃(z:Nat) (bs:List Bool),z<=i/\bs.length<=47*i/\bs++my z (l.drop i)=my 0 l/\ρ1=[some (dl l),some (.ptr a),some (.int z),none]/\O1=[(a,.lst ((M.gi (dw (cu l-1))++M.gi bs).map .int))]) ⟨0,[],by lia,by simp,by simp,rfl,by simp[M.gi]⟩ ?step ?done
  case hi=>walk_at "n"
  case done=>
   rintro ρ1 O1 ⟨z,bs,_,_,Sg,rfl,rfl⟩
   rw[ah,List.drop_length]at Sg
   have:bs=my 0 l:=by rw[<-Sg];simp[my]
   subst this
   rw[<-M.kB]
   exact aT (bq.go (d:= .ptr a) (by walk_at "n") (hk a))
  case step=>
   rintro i d ρ1 O1 hd ⟨z,bs,hz,Lu,Sg,rfl,rfl⟩
   rw[aE]at hd
   obtain⟨x,hx,rfl⟩:=bU.mp hd
   have hi:i<64:=by have:=(bh.mp hx).1;lia
   have hx2:=hb x (bJ hx)
   have hdr:l.drop i=x::l.drop (i+1):=by
    have h1:i<l.length:=by lia
    rw[gm h1]
    congr 1
    rw[aI h1]at hx
    exact bo hx
   rw[hdr]at Sg
   refine⟨_,by walk_at "tg1",?_⟩
   refine' eQ (t:=decide (x=0)) ?hc ?h1 ?h2
   case hc=>walk_at "t"
   case h1=>
    intro hf
    have Yy:=of_decide_eq_true hf
    rw[my,if_pos Yy]at Sg
    refine' DP c ?hl ?hg bI ?hp ?zh
    case hl=>decide+kernel
    case hg=>walk_at "get"
    case hp=>walk_at "put"
    case zh=>
     refine aL (Wk.refl _) ?_
     refine' aL (ρ':=[some (dl l),some (.ptr a),some (.int ((z+1:Nat):Int)),none]) ?w ⟨z+1,bs,by lia,by lia,Sg,rfl,rfl⟩
     case w=>exact .same (.same (.same (.drop .nil)))
   case h2=>
    intro hf
    have Yy:=of_decide_eq_false hf
    rw[my,if_neg Yy]at Sg
    have n1:=M.fD z (by lia)
    have n2:=M.Hf (x.natAbs-1) (by lia)
    refine' fE (gQ (q:=a) ?ho ⟨_,ae⟩ (bq.go (d:=jk (dw z)) (cD.pev (aV c c1 (by decide) ?g (aa ?a1 az) ⟨z,by lia,rfl,rfl⟩)) ⟨_,(M.gi (dw z)).map .int,_,rfl,.here,?hz,?hk⟩))
    case ho=>walk_at "n"
    case g=>decide+kernel
    case a1=>walk_at "n"
    case hz=>rw[bF,bF,aj,M.bH,M.bH,M.bH,af];lia
    case hk=>
    refine' fE (gQ (q:=a) ?ho ⟨_,ae⟩ (bq.go (d:=jk (dw (x.natAbs-1))) (cD.pev (aV c c1 (by decide) ?g (aa ?a1 az) ⟨x.natAbs-1,by lia,rfl,rfl⟩)) ⟨_,(M.gi (dw (x.natAbs-1))).map .int,_,rfl,.here,?hz,?hk⟩))
    case ho=>walk_at "n"
    case g=>decide+kernel
    case a1=>
     walk_at "ec"
     exact congrArg D.int (by split<;>lia)
    case hz=>rw[aj,bF,bF,bF,aj,M.bH,M.bH,M.bH,M.bH,af];lia
    case hk=>
    refine' fE (sx (q:=a) ?ho ⟨_,ae⟩ (bq.go (d:= .int (M.bi (decide (x<0)))) ?he ⟨_,_,.here,?hz,?hk⟩))
    case ho=>walk_at "n"
    case he=>
     walk_at "ec"
     exact Qr _
    case hz=>rw[aj,aj,bF,bF,bF,aj,M.bH,M.bH,M.bH,M.bH,af];lia
    case hk=>
    refine' bK (d:= .int 0) c ?hl bI ?hp ?zh
    case hl=>decide+kernel
    case hp=>walk_at "put"
    case zh=>
     refine aL (Wk.refl _) ?_
     refine' aL (ρ':=[some (dl l),some (.ptr a),some (.int ((0:Nat):Int)),none]) ?w ⟨0,bs++(dw z++(dw (x.natAbs-1)++[decide (x<0)])),by lia,?bl,?be,rfl,?qq⟩
     case w=>exact .same (.same (.same (.drop .nil)))
     case bl=>rw[aj,aj,aj,Gf];lia
     case be=>rw[<-Sg];simp[bM]
     case qq=>simp[M.gi,aY,bM]
def B3 (ds:List D) (xs:List D):Prop:=∃L:List (List Int),L.length=4/\(∀l∈L,l.length=64/\∀z∈l,z.natAbs<=32767)/\ds=[.lst (L.map dl)]/\xs=(M.gi ((L.map λl=>cu l !=0)++(L.map bT).flatten)).map .int
theorem oM {l:List Int} (hl:l.length=64) (hb:∀z∈l,z.natAbs<=32767):(bT l).length<=4000:=by
 have II:cu l<=64:=by unfold cu;rw[<-hl];exact kR _ _
 unfold bT
 split
 ·simp
 ·have h1:=M.fD (cu l-1) (by lia)
  have h2:=M.zR l 0 hb (by lia)
  rw[aj];lia
theorem yk {W:dg} (B:Bn W) (T:dC W "leftover_bits" "leftover_bits" pB ["blocks"]) (c1:ax W "block_bits" 3 (cv z9)):ax W "leftover_bits" 4 (cv B3):=by
 refine aQ (N:=["blocks","bits","levels"]) T (by walk_at "fs") (λds O k h=>?_) λX c ds O k h=>?_
 ·obtain⟨_,_,⟨_,_,_,rfl,_⟩,_⟩:=h;rfl
 ·obtain⟨rfl,xs,⟨L,hL,Sf,ji,gY⟩,hk⟩:=h
  subst ji
  rw[gY]at hk
  clear gY xs
  change SV X [some (.lst (L.map dl)),none,none] [] _ _ _
  refine' Fp ["levels"] [2] (l:=L) (enc:=dl) (g:=λl=>D.int (M.bi (cu l !=0))) c ?oB ?yV ?Dj ?LN (fe ?hi) ?ok ?ho ?hz ?wp ?gU ?hx ?zh
  case oB=>decide+kernel
  case yV=>decide+kernel
  case Dj=>decide+kernel
  case LN=>decide+kernel
  case hi=>walk_at "n"
  case ok=>decide+kernel
  case ho=>decide+kernel
  case hz=>rw[hL,af];decide
  case wp=>walk_at "wp"
  case gU=>
   intro l hl
   refine⟨_,λY cY=>⟨by walk_at "tg1",?_⟩⟩
   refine' bq.cast (wF (fV (mf (l:=l) cY B ?g2 ?ea rfl) ?tv) (λ_=>bI) (λ_=>bI)) ?qq
   case g2=>decide+kernel
   case ea=>walk_at "n"
   case tv=>intro _;rfl
   case qq=>rw[M.uh];unfold M.bi;split<;>rfl
  case hx=>walk_at "put"
  case zh=>
  intro a ρ'' hp
  obtain rfl:ρ''=[some (.lst (L.map dl)),some (.ptr a),none]:=by
   cases hp with
   |there hp=>cases hp with
    |here=>rfl
    |there hp=>cases hp with
     |there hp=>cases hp
  have e0:L.map (λl=>D.int (M.bi (cu l !=0)))=(M.gi (L.map λl=>cu l !=0)).map .int:=by unfold M.gi;rw[aF,aF];rfl
  rw[e0]
  refine' gy (ds:=L.map dl) c (fe ?hi) (λi ρ1 O1=>ρ1=[some (.lst (L.map dl)),some (.ptr a),none]/\O1=[(a,.lst ((M.gi ((L.map λl=>cu l !=0)++((L.take i).map bT).flatten)).map .int))]) ⟨rfl,by simp⟩ ?step ?done
  case hi=>walk_at "n"
  case done=>
   rintro ρ1 O1 ⟨rfl,rfl⟩
   rw[ah,dB]
   exact aT (bq.go (d:= .ptr a) (by walk_at "n") (hk a))
  case step=>
   rintro i d ρ1 O1 hd ⟨rfl,rfl⟩
   rw[aE]at hd
   obtain⟨l,hl,rfl⟩:=bU.mp hd
   have hi:i<4:=by have:=(bh.mp hl).1;lia
   obtain⟨l1,l2⟩:=Sf l (bJ hl)
   rw[cW hl,aY,dc]
   have fl:((L.take i).map bT).flatten.length<=i*4000:=by
    have:∀(M':List (List Bool)),(∀r∈M',r.length<=4000)->M'.flatten.length<=M'.length*4000:=by
     intro M'
     induction M' with
     |nil=>intro _;simp
     |cons r M' ih=>
      intro h
      have h1:=ih λq hq=>h q (ai _ hq)
      have h2:=h r ae
      rw[ck,aj,aJ,fk];lia
    have h3:=this ((L.take i).map bT) (λr hr=>by
     obtain⟨l',hl',rfl⟩:=ay.mp hr
     obtain⟨a1,a2⟩:=Sf l' (i5 hl')
     exact oM a1 a2)
    rw[ah,aA,hL]at h3
    lia
   have bb:=oM l1 l2
   refine⟨_,by walk_at "tg1",?_⟩
   refine' eQ (fV (mf (l:=l) c B ?g2 ?ea rfl) ?tv) ?h1 ?h2
   case g2=>decide+kernel
   case ea=>walk_at "n"
   case tv=>intro _;rfl
   case h1=>
    intro hf
    rw[<-M.uh]at hf
    have hc:cu l≠0:=by simpa using hf
    refine' fE (gQ (q:=a) ?ho ⟨_,ae⟩ (bq.go (d:=jk (bT l)) (cD.pev (aV c c1 (by decide) ?g (aa ?a1 az) ⟨l,l1,l2,hc,rfl,rfl⟩)) ⟨_,(M.gi (bT l)).map .int,_,rfl,.here,?hz,?hk⟩))
    case ho=>walk_at "n"
    case g=>decide+kernel
    case a1=>walk_at "n"
    case hz=>rw[bF,bF,M.bH,M.bH,aj,ah,af];lia
    case hk=>
     refine aL (Wk.refl _) ?_
     refine' aL ?w ⟨rfl,?qq⟩
     case w=>walk_at "wk"
     case qq=>simp[M.gi,aY,bM]
   case h2=>
    intro hf
    rw[<-M.uh]at hf
    have hc:cu l=0:=by simpa using hf
    refine aL (Wk.refl _) ?_
    refine' aL ?w ⟨rfl,?qq⟩
    case w=>walk_at "wk"
    case qq=>unfold bT;simp[hc]
def Bl (R:List D->Os->List D->Prop):tw:=λds O k=>∃xs,R ds O xs/\∀p,k (.ptr p) ((p,.lst xs)::O)
def Hc (R:List D->Os->D->Prop):tw:=λds O k=>∃d,R ds O d/\k d O
section
variable {W:dg} {X:Cx} {N:List Str} {sc:Scope} {n m:Nat} {tp:Bool} {ρ:dk} {O:Os} {x:Str} {e:aS} {es:List aS} {p pos:Pos} {ds xs:List D}
theorem lS {R:List D->Os->List D->Prop} (Oa Ob:Os) (c:eZ W X N sc n tp) (hc:ax W x m (Bl R)) (hm:m<=n) (hg:mr sc x) (ha:ir X ρ (Oa++Ob) (e::es) ds) (hR:R ds Oa xs)
  (og:(x==("__debug__":Str))=false:=by decide) (he:ak (e::es) X.env=(false,eval e X.env)::ak es X.env:=by rfl) (hpl:(cw pos (ak es X.env)).any (·.1)=false:=by rfl):cD X ρ (Oa++Ob) (.Call (.Name x p) (e::es) [] pos) xs:=
 jU c hc hm hg (ha.go ⟨Oa,Ob,rfl,xs,hR,λq=>⟨q,rfl,rfl⟩⟩) og he hpl
theorem w6 {R:List D->Os->D->Prop} {d:D} (Oa Ob:Os) (c:eZ W X N sc n tp) (hc:ax W x m (Hc R)) (hm:m<=n) (hg:mr sc x) (ha:ir X ρ (Oa++Ob) (e::es) ds) (hR:R ds Oa d)
  (og:(x==("__debug__":Str))=false:=by decide) (he:ak (e::es) X.env=(false,eval e X.env)::ak es X.env:=by rfl) (hpl:(cw pos (ak es X.env)).any (·.1)=false:=by rfl):bq X ρ (Oa++Ob) (.Call (.Name x p) (e::es) [] pos) d:=
 jU c hc hm hg (ha.go ⟨Oa,Ob,rfl,d,hR,rfl,rfl⟩) og he hpl
end
abbrev gb (a:Addr) (cur:Rd16.Pic):Os:=[(a,.lst ((M.iT cur).map .int))]
abbrev jT (P:Addr) (a:Addr) (cur:Rd16.Pic):D:=l5 P cur.wide cur.high (.ptr a)
def iu (cur:Rd16.Pic) (i j:Nat):List Nat:=if j=0 then []else (ar 16).map λk=>cur.at_ (16*i+k:Nat) (16*j-1:Nat)
def kj (cur:Rd16.Pic) (i j:Nat):List Nat:=if i=0 then []else (ar 16).map λk=>cur.at_ (16*i-1:Nat) (16*j+k:Nat)
structure nJ (cur:Rd16.Pic) (i j:Nat):Prop where
 ok:M.fh cur
 hi:16*i+16<=cur.wide
 hj:16*j+16<=cur.high
def HP (P:Addr) (ds:List D) (O:Os) (xs:List D):Prop:=∃(a:Addr) (cur:Rd16.Pic) (i j:Nat),nJ cur i j/\ds=[jT P a cur,.int i,.int j]/\O=gb a cur/\xs=(aD (iu cur i j)).map .int
theorem zJ {W:dg} {P:Addr} (hC:iS W.K P) (n1:aM W.K P "points") (n2:aM W.K P "wide") (gS:Gv W "SIDE" (.int 16)) (T:dC W "points_above" "points_above" rq ["picture","i","j"]):ax W "points_above" 1 (Bl (HP P)):=by
 refine aQ (N:=["picture","i","j","start"]) T (by walk_at "fs") (λds O k h=>?_) λX c ds O k h=>?_
 ·obtain⟨_,⟨_,_,_,_,_,rfl,_⟩,_⟩:=h;rfl
 ·obtain⟨xs,⟨a,cur,i,j,ip,ji,hO,gY⟩,hk⟩:=h
  subst ji;subst hO
  rw[gY]at hk
  clear gY xs
  obtain⟨ok,hi,hj⟩:=ip
  obtain⟨w1,w2,_⟩:=ok.w
  obtain⟨h1,h2,_⟩:=ok.h
  change SV X [some (jT P a cur),some (.int i),some (.int j),none] (gb a cur) _ _ _
  refine' eQ ?hc ?h1 ?h2
  case hc=>walk_at "t"
  case h1=>
   intro hf
   have NJ:j=0:=by have:=of_decide_eq_true hf;lia
   refine aT (EV.own_k (dP az (by rw[af];decide)) ?_)
   intro p
   have:=hk p
   unfold iu at this
   rw[if_pos NJ]at this
   exact this
  case h2=>
   intro hf
   have NJ:¬j=0:=by have:=of_decide_eq_false hf;lia
   refine aL (Wk.refl _) ?_
   have hm:(16*j-1)*cur.wide<=256*256:=cX (by lia) (by lia)
   refine' bK (d:= .int (((16*j-1)*cur.wide+16*i:Nat):Int)) c ?hl ?he ?hp ?zh
   case hl=>decide+kernel
   case he=>
    walk_at "ec"
    refine congrArg D.int ?_
    have e1:(j:Int)*16-1=((16*j-1:Nat):Int):=by lia
    rw[e1];push_cast;lia
   case hp=>walk_at "put"
   case zh=>
    refine' aT (EV.own_k (cD.cast (Rr (q:=a) (ds:=(M.iT cur).map .int) (l:=some (((16*j-1)*cur.wide+16*i:Nat):Int)) (h:=some (((16*j-1)*cur.wide+16*i+16:Nat):Int)) ?e1 ae (dO ?e2) (dO ?e3)) ?qq) hk)
    case e1=>walk_at "e"
    case e2=>walk_at "n"
    case e3=>
     walk_at "ec"
     exact congrArg D.int (by push_cast;rfl)
    case qq=>
     rw[j9]
     congr 1
     unfold iu aD
     rw[if_neg NJ,aF]
     have hpl:(M.iT cur).length=cur.wide*cur.high:=by rw[M.jq,ok.len]
     have hle:(16*j-1)*cur.wide+cur.wide<=cur.wide*cur.high:=by
      rw[<-fk,bE cur.wide];exact dz _ (by lia)
     refine M.fQ 0 (by rw[aA,ba,hpl];simp;lia) λk Ar=>?_
     have ZW:k<16:=by rw[aA]at Ar;lia
     rw[M.iY _ _ _ _ (by lia),M.jz,M.bO _ _ _ _ ZW]
     simp only[bP]
     rw[M.Cq cur (16*i+k) (16*j-1) (by lia) (by lia)]
     congr 1;lia
def GQ (P:Addr) (ds:List D) (O:Os) (xs:List D):Prop:=∃(a:Addr) (cur:Rd16.Pic) (i j:Nat),nJ cur i j/\ds=[jT P a cur,.int i,.int j]/\O=gb a cur/\xs=(aD (kj cur i j)).map .int
theorem Bg {W:dg} {P:Addr} (hC:iS W.K P) (n1:aM W.K P "points") (n2:aM W.K P "wide") (gS:Gv W "SIDE" (.int 16)) (T:dC W "points_left" "points_left" tT ["picture","i","j"]):ax W "points_left" 1 (Bl (GQ P)):=by
 refine aQ (N:=["picture","i","j","start"]) T (by walk_at "fs") (λds O k h=>?_) λX c ds O k h=>?_
 ·obtain⟨_,⟨_,_,_,_,_,rfl,_⟩,_⟩:=h;rfl
 ·obtain⟨xs,⟨a,cur,i,j,ip,ji,hO,gY⟩,hk⟩:=h
  subst ji;subst hO
  rw[gY]at hk
  clear gY xs
  obtain⟨ok,hi,hj⟩:=ip
  obtain⟨w1,w2,_⟩:=ok.w
  obtain⟨h1,h2,_⟩:=ok.h
  change SV X [some (jT P a cur),some (.int i),some (.int j),none] (gb a cur) _ _ _
  refine' eQ ?hc ?h1 ?h2
  case hc=>walk_at "t"
  case h1=>
   intro hf
   have NJ:i=0:=by have:=of_decide_eq_true hf;lia
   refine aT (EV.own_k (dP az (by rw[af];decide)) ?_)
   intro p
   have:=hk p
   unfold kj at this
   rw[if_pos NJ]at this
   exact this
  case h2=>
   intro hf
   have NJ:¬i=0:=by have:=of_decide_eq_false hf;lia
   refine aL (Wk.refl _) ?_
   have hm:16*j*cur.wide<=256*256:=cX (by lia) (by lia)
   refine' bK (d:= .int ((16*j*cur.wide+(16*i-1):Nat):Int)) c ?hl ?he ?hp ?zh
   case hl=>decide+kernel
   case he=>
    walk_at "ec"
    refine congrArg D.int ?_
    have e1:(j:Int)*16*(cur.wide:Int)=((16*j*cur.wide:Nat):Int):=by push_cast;rw[Int.mul_comm (j:Int) 16]
    rw[e1];lia
   case hp=>walk_at "put"
   case zh=>
    refine' aT (EV.own_k (cD.cast (Mt (q:=a) (ds:=(M.iT cur).map .int) (l:=some ((16*j*cur.wide+(16*i-1):Nat):Int)) (h:=some ((16*j*cur.wide+(16*i-1)+16*cur.wide:Nat):Int)) (w:=some (cur.wide:Int)) ?e1 ae (dO ?e2) (dO ?e3) (dO ?e4) ?w0) ?qq) hk)
    case e1=>walk_at "e"
    case e2=>walk_at "n"
    case e3=>
     walk_at "ec"
     exact congrArg D.int (by push_cast;rfl)
    case e4=>walk_at "e"
    case w0=>intro h;have:=bo h;lia
    case qq=>
     have hpl:(M.iT cur).length=cur.wide*cur.high:=by rw[M.jq,ok.len]
     have hle:(16*j+16)*cur.wide<=cur.wide*cur.high:=by rw[bE cur.wide];exact dz _ (by lia)
     rw[Nat.add_mul]at hle
     have acI:cur.wide*16=16*cur.wide:=bE _ _
     rw[BQ,Bj (M.iT cur) _ cur.wide 16 (by lia) (by lia) (by lia)]
     congr 1
     unfold kj aD M.m7
     rw[if_neg NJ,aF]
     refine aW λr hr=>?_
     have ab3:r<16:=by simpa using hr
     simp only[bP]
     rw[M.Cq cur (16*i-1) (16*j+r) (by lia) (by lia),Nat.add_mul,bE cur.wide r]
     congr 1;lia
def Jr (ds:List D) (xs:List D):Prop:=∃l:List Int,l.length<=16/\ds=[dl l]/\xs=((l.map λz=>aq 16 z).flatten).map .int
theorem x6 {W:dg} (gS:Gv W "SIDE" (.int 16)) (T:dC W "spread_across" "spread_across" pA ["points"]):ax W "spread_across" 1 (cv Jr):=by
 refine aQ (N:=["points","square","point"]) T (by walk_at "fs") (λds O k h=>?_) λX c ds O k h=>?_
 ·obtain⟨_,_,⟨_,_,rfl,_⟩,_⟩:=h;rfl
 ·obtain⟨rfl,xs,⟨l,hl,ji,gY⟩,hk⟩:=h
  subst ji
  rw[gY]at hk
  clear gY xs
  change SV X [some (dl l),none,none] [] _ _ _
  refine' gk (ds:=[]) (λq=>[some (dl l),some (.ptr q),none]) c ?hl (dP az ?z) ?hx ?zh ?hs
  case hl=>decide+kernel
  case z=>show 0<=sizeLine;rw[af];decide
  case hx=>intro q;walk_at "put"
  case hs=>rfl
  case zh=>
   intro q
   refine' gy (ds:=l.map .int) c (fe ?hi) (λi ρ1 O1=>ρ1=[some (dl l),some (.ptr q),none]/\O1=[(q,.lst ((((l.take i).map λz=>aq 16 z).flatten).map .int))]) ⟨rfl,rfl⟩ ?step ?done
   case hi=>walk_at "n"
   case done=>
    rintro ρ1 O1 ⟨rfl,rfl⟩
    rw[ah,dB]
    exact aT (bq.go (d:= .ptr q) (by walk_at "n") (hk q))
   case step=>
    rintro i d ρ1 O1 hd ⟨rfl,rfl⟩
    rw[aE]at hd
    obtain⟨z,hz,rfl⟩:=bU.mp hd
    have hi:i<l.length:=(bh.mp hz).1
    refine⟨_,by walk_at "tg1",?_⟩
    refine' fE (gQ (q:=q) ?ho ⟨_,ae⟩ (bq.go (d:=dl (aq 16 z)) (cD.pev (cD.cast (lL (ds:=[.int z]) (i:=16) (cD.pev (dP ?es ?z1)) ?Wu ?b1 ?b2 ?b3) ?qv)) ⟨_,(aq 16 z).map .int,_,rfl,.here,?hz,?hk⟩))
    case ho=>walk_at "n"
    case es=>walk_at "es"
    case z1=>show 1<=sizeLine;rw[af];decide
    case Wu=>walk_at "e"
    case b1=>lia
    case b2=>lia
    case b3=>show 1*16<=sizeLine;rw[af];decide
    case qv=>rw[l7,dU];rfl
    case hz=>
     have:((l.take i).map λz=>aq 16 z).flatten.length=((l.take i).map λz=>aq 16 z).length*16:=M.eG (λr hr=>by obtain⟨j,_,rfl⟩:=ay.mp hr;simp)
     rw[bF,bF,this,ah,aA,aP,af];lia
    case hk=>
     refine' aL ?w ⟨rfl,?qq⟩
     case w=>walk_at "wk"
     case qq=>rw[cW hz,aY,dc,aY];simp
def R1 (P:Addr) (ds:List D) (O:Os) (d:D):Prop:=∃(a:Addr) (cur:Rd16.Pic) (i j:Nat),nJ cur i j/\ds=[jT P a cur,.int i,.int j]/\O=gb a cur/\d= .int (zm cur i j:Nat)
theorem Ex (cur:Rd16.Pic) (i j:Nat):zm cur i j=if iu cur i j++kj cur i j=[]then 128 else ((iu cur i j++kj cur i j).foldl (·+·) 0+(iu cur i j++kj cur i j).length/2)/(iu cur i j++kj cur i j).length:=rfl
theorem BX (cur:Rd16.Pic) (i j:Nat):(iu cur i j).length<=16:=by unfold iu;split<;>simp
theorem EA (cur:Rd16.Pic) (i j:Nat):(kj cur i j).length<=16:=by unfold kj;split<;>simp
theorem C0 {W:dg} {P:Addr} (B:Bn W) (T:dC W "flat_point" "flat_point" vy ["picture","i","j"]) (c1:ax W "points_above" 1 (Bl (HP P))) (c2:ax W "points_left" 1 (Bl (GQ P))):ax W "flat_point" 2 (Hc (R1 P)):=by
 refine aQ (N:=["picture","i","j","points","count"]) T (by walk_at "fs") (λds O k h=>?_) λX c ds O k h=>?_
 ·obtain⟨_,⟨_,_,_,_,_,rfl,_⟩,_⟩:=h;rfl
 ·obtain⟨xs,⟨a,cur,i,j,ip,ji,hO,gY⟩,hk⟩:=h
  subst ji;subst hO
  rw[gY,Ex]at hk
  clear gY xs
  have la:=BX cur i j
  have ll:=EA cur i j
  have hn:aD (iu cur i j)++aD (kj cur i j)=aD (iu cur i j++kj cur i j):=by unfold aD;rw[aY]
  change SV X [some (jT P a cur),some (.int i),some (.int j),none,none] (gb a cur) _ _ _
  refine' bK (d:=dl (aD (iu cur i j++kj cur i j))) c ?hl (cD.pev (cD.cast (oV (cD.pev (lS (gb a cur) [] c c1 (by decide) ?g1 ?a1 ⟨a,cur,i,j,ip,rfl,rfl,rfl⟩)) (cD.pev (lS (gb a cur) [] c c2 (by decide) ?g2 ?a2 ⟨a,cur,i,j,ip,rfl,rfl,rfl⟩)) ?hz) ?qq)) ?hp ?zh
  case hl=>decide+kernel
  case g1=>decide+kernel
  case g2=>decide+kernel
  case a1=>walk_at "es"
  case a2=>walk_at "es"
  case hz=>rw[bF,bF,ib,ib,af];lia
  case qq=>rw[<-aY,hn]
  case hp=>walk_at "put"
  case zh=>
  generalize hL:iu cur i j++kj cur i j=L at hk
  have WT:L.length<=32:=by rw[<-hL,aj];lia
  refine' bK (d:= .int (L.length:Nat)) c ?hl (bq.cast (kH c B ?g ?e1 rfl) ?qq) ?hp ?zh
  case hl=>decide+kernel
  case g=>decide+kernel
  case e1=>walk_at "n"
  case qq=>rw[bF,ib]
  case hp=>walk_at "put"
  case zh=>
  refine' eQ ?hc ?h1 ?h2
  case hc=>walk_at "t"
  case h1=>
   intro hf
   have h0:L.length=0:=by have:=of_decide_eq_true hf;lia
   rw[if_pos (jP.mp h0)]at hk
   exact aT (bq.go (d:= .int 128) bI hk)
  case h2=>
   intro hf
   have h0:¬L.length=0:=by have:=of_decide_eq_false hf;lia
   rw[if_neg (λh=>h0 (by rw[h];rfl))]at hk
   refine aL (Wk.refl _) ?_
   refine' aT (bq.go (bq.cast (rK (jr (Dl (l:=aD L) c B ?g ?e1 rfl) (rK ?e2 bI ?c1)) ?e3 ?c2) ?qq) hk)
   case g=>decide+kernel
   case e1=>walk_at "n"
   case e2=>walk_at "n"
   case e3=>walk_at "n"
   case c1=>constructor<;>lia
   case c2=>constructor<;>lia
   case qq=>
    have:(aD L).sum=((L.sum:Nat):Int):=M.Ax L
    rw[this,M.sv,ku]
    congr 1
abbrev d0 (S:Addr) (q:Nat) (before shown:D):D:= .ins S ["step","before","shown"] [.int q,before,shown]
abbrev fR (P:Addr):Option Rd16.Pic->D
 |none=> .non
 |some p=>kx P p
def jI (key:Bool) (kind i j:Nat):Bool:=if kind=0\/kind=1 then !key else if kind=3 then decide (0<j)else if kind=4 then decide (0<i)else decide (kind=2)
def QJ (P S:Addr) (ds:List D) (d:D):Prop:=∃(q:Nat) (ref:Option Rd16.Pic) (sh:D) (kind i j:Nat),ds=[d0 S q (fR P ref) sh,.int kind,.int i,.int j]/\d= .bl (jI ref.isNone kind i j)
theorem jB (P:Addr) (ref:Option Rd16.Pic):Jk (fR P ref)=ref.isNone:=by cases ref<;>rfl
theorem Oe {W:dg} {P S:Addr} (hC:iS W.K S) (n1:aM W.K S "before") (g0:Gv W "AS_BEFORE" (.int 0)) (g1:Gv W "MOVED" (.int 1)) (g2:Gv W "FLAT" (.int 2)) (g3:Gv W "DOWN" (.int 3)) (g4:Gv W "ACROSS" (.int 4)) (T:dC W "may_be" "may_be" ER ["sheet","kind","i","j"]):ax W "may_be" 1 (dS (QJ P S)):=by
 refine aQ (N:=["sheet","kind","i","j"]) T (by walk_at "fs") (λds O k h=>?_) λX c ds O k h=>?_
 ·obtain⟨_,_,⟨_,_,_,_,_,_,rfl,_⟩,_⟩:=h;rfl
 ·obtain⟨rfl,xs,⟨q,ref,sh,kind,i,j,ji,gY⟩,hk⟩:=h
  subst ji
  rw[gY]at hk
  clear gY xs
  unfold jI at hk
  change SV X [some (d0 S q (fR P ref) sh),some (.int kind),some (.int i),some (.int j)] [] _ _ _
  refine' eQ ?hc ?h1 ?h2
  case hc=>walk_at "t"
  case h1=>
   intro hf
   have:kind=0\/kind=1:=by simp only[eP,decide_eq_true_eq]at hf;lia
   rw[if_pos this]at hk
   refine aT (bq.go (bq.cast (MT (d:=fR P ref) ?_) (by rw[jB])) hk)
   walk_at "e"
  case h2=>
   intro hf
   have:¬(kind=0\/kind=1):=by simp only[eh,decide_eq_false_iff_not]at hf;lia
   rw[if_neg this]at hk
   refine aL (Wk.refl _) ?_
   refine' eQ ?hc ?h1 ?h2
   case hc=>walk_at "t"
   case h1=>
    intro hf
    have:kind=3:=by have:=of_decide_eq_true hf;lia
    rw[if_pos this]at hk
    refine aT (bq.go ?_ hk)
    walk_at "ec"
    congr 1;simp
   case h2=>
    intro hf
    have:¬kind=3:=by have:=of_decide_eq_false hf;lia
    rw[if_neg this]at hk
    refine aL (Wk.refl _) ?_
    refine' eQ ?hc ?h1 ?h2
    case hc=>walk_at "t"
    case h1=>
     intro hf
     have:kind=4:=by have:=of_decide_eq_true hf;lia
     rw[if_pos this]at hk
     refine aT (bq.go ?_ hk)
     walk_at "ec"
     congr 1;simp
    case h2=>
     intro hf
     have:¬kind=4:=by have:=of_decide_eq_false hf;lia
     rw[if_neg this]at hk
     refine aL (Wk.refl _) ?_
     refine aT (bq.go ?_ hk)
     walk_at "ec"
     refine congrArg D.bl ?_
     rw[fB,decide_eq_true_eq,decide_eq_true_eq];lia
def kindOf (n:Nat) (v:Rd16.Vec):Rd16.Kind:=if n=0 then .same else if n=1 then .moved v.1 v.2 else if n=3 then .down else if n=4 then .across else .flat
theorem BY (p:Rd16.Pic) (i j:Nat):∀x∈p.square i j,x<=255:=λx hx=>by
 unfold xr at hx
 obtain⟨z,_,rfl⟩:=ay.mp hx
 unfold Rd16.Pic.at_
 have:=(p.points.getD ((fK 0 ((p.high:Int)-1) (16*j+z.2:Nat)).toNat*p.wide+(fK 0 ((p.wide:Int)-1) (16*i+z.1:Nat)).toNat) 0).toNat_lt
 omega
def Ut (P S:Addr) (ds:List D) (O:Os) (xs:List D):Prop:=∃(a:Addr) (q:Nat) (ref:Option Rd16.Pic) (cur rf:Rd16.Pic) (n i j:Nat) (v:Rd16.Vec),nJ cur i j/\(∀p,ref=some p->p=rf/\nJ p i j)/\(-15<=v.1/\v.1<=15/\-15<=v.2/\v.2<=15)/\n<=4/\jI ref.isNone n i j=true/\
 ds=[d0 S q (fR P ref) (jT P a cur),.int n,.int i,.int j,dH v]/\O=gb a cur/\xs=(aD (bA rf cur i j (kindOf n v))).map .int
theorem IC {α β:Type} (l:List α) (f:α->β) (b:β) (h:∀a∈l,f a=b):l.map f=aq l.length b:=by
 apply rX.mpr
 exact⟨ah _,λx hx=>by obtain⟨a,ha,rfl⟩:=ay.mp hx;exact h a ha⟩
theorem PK (rf cur:Rd16.Pic) (i j:Nat) (hj:j≠0):aD (bA rf cur i j .down)=(aq 16 (aD (iu cur i j))).flatten:=by
 have e:bA rf cur i j .down=Rd16.PLACES.map λz=>cur.at_ (16*i+z.1:Nat) (16*j-1:Nat):=rfl
 rw[e,M.oN]
 unfold aD iu
 rw[if_neg hj,pd,aF]
 refine congrArg List.flatten ?_
 exact IC (ar 16) _ _ (λk _=>rfl)
theorem Kt (rf cur:Rd16.Pic) (i j:Nat) (hi:i≠0):aD (bA rf cur i j .across)=((aD (kj cur i j)).map λz=>aq 16 z).flatten:=by
 have e:bA rf cur i j .across=Rd16.PLACES.map λz=>cur.at_ (16*i-1:Nat) (16*j+z.2:Nat):=rfl
 rw[e,M.oN]
 unfold aD kj
 rw[if_neg hi,pd,aF,aF,aF]
 refine congrArg List.flatten ?_
 refine aW λr _=>?_
 simp only[bP]
 rw[aF]
 exact IC (ar 16) _ _ (λk _=>rfl)
theorem vH {W:dg} {P S:Addr} (hC:iS W.K S) (n1:aM W.K S "before") (n2:aM W.K S "shown") (gS:Gv W "SIDE" (.int 16)) (g0:Gv W "AS_BEFORE" (.int 0)) (g1:Gv W "MOVED" (.int 1)) (g3:Gv W "DOWN" (.int 3)) (g4:Gv W "ACROSS" (.int 4)) (T:dC W "expected_square" "expected_square" mV ["sheet","kind","i","j","vector"])
  (c1:ax W "cut_square" 3 (cv (G4 P))) (c2:ax W "moved_square" 3 (cv (Hg P))) (c3:ax W "points_above" 1 (Bl (HP P))) (c4:ax W "points_left" 1 (Bl (GQ P))) (c5:ax W "spread_across" 1 (cv Jr)) (c6:ax W "flat_point" 2 (Hc (R1 P))):ax W "expected_square" 4 (Bl (Ut P S)):=by
 refine aQ (N:=["sheet","kind","i","j","vector"]) T (by walk_at "fs") (λds O k h=>?_) λX c ds O k h=>?_
 ·obtain⟨_,⟨_,_,_,_,_,_,_,_,_,_,_,_,_,_,rfl,_⟩,_⟩:=h;rfl
 ·obtain⟨xs,⟨a,q,ref,cur,rf,n,i,j,v,ip,hrf,hv,hn,p7,ji,hO,gY⟩,hk⟩:=h
  subst ji;subst hO
  rw[gY]at hk
  clear gY xs
  obtain⟨w1,w2,w3⟩:=ip.ok.w
  obtain⟨h1,h2,h3⟩:=ip.ok.h
  have ZL:=ip.hi
  have aaB:=ip.hj
  unfold jI at p7
  unfold kindOf at hk
  change SV X [some (d0 S q (fR P ref) (jT P a cur)),some (.int n),some (.int i),some (.int j),some (dH v)] (gb a cur) _ _ _
  refine' eQ ?hc ?h1 ?h2
  case hc=>walk_at "t"
  case h1=>
   intro hf
   have Pr:n=0:=by have:=of_decide_eq_true hf;lia
   subst Pr
   rw[if_pos rfl]at hk
   rw[if_pos (.inl rfl)]at p7
   cases ref with
   |none=>simp at p7
   |some p=>
    obtain⟨rfl,FK⟩:=hrf p rfl
    obtain⟨u1,u2,u3⟩:=FK.ok.w
    obtain⟨u4,u5,u6⟩:=FK.ok.h
    have yR:=FK.hi
    have hj2:=FK.hj
    have sqe:=M.Cn FK.ok i j (by lia) (by lia)
    refine' aT (EV.own_k (aV c c1 (by decide) ?zg ?qT ⟨p.wide,p.high,i,j,M.iT p,by lia,by lia,by lia,by lia,rfl,rfl⟩) (by rw[sqe];exact hk))
    case zg=>decide+kernel
    case qT=>walk_at "es"
  case h2=>
  intro hf
  have Pr:¬n=0:=by have:=of_decide_eq_false hf;lia
  rw[if_neg Pr]at hk
  refine aL (Wk.refl _) ?_
  refine' eQ ?hc ?h1 ?h2
  case hc=>walk_at "t"
  case h1=>
   intro hf
   have RC:n=1:=by have:=of_decide_eq_true hf;lia
   subst RC
   rw[if_pos rfl]at hk
   rw[if_pos (.inr rfl)]at p7
   cases ref with
   |none=>simp at p7
   |some p=>
    obtain⟨rfl,FK⟩:=hrf p rfl
    obtain⟨u1,u2,u3⟩:=FK.ok.w
    obtain⟨u4,u5,u6⟩:=FK.ok.h
    have yR:=FK.hi
    have hj2:=FK.hj
    refine' aT (EV.own_k (aV c c2 (by decide) ?zg ?qT ⟨p,cur,i,j,v,FK.ok,by lia,by lia,hv.1,hv.2.1,hv.2.2.1,hv.2.2.2,rfl,rfl⟩) hk)
    case zg=>decide+kernel
    case qT=>walk_at "es"
  case h2=>
  intro hf
  have RC:¬n=1:=by have:=of_decide_eq_false hf;lia
  rw[if_neg RC]at hk
  rw[if_neg (by lia)]at p7
  refine aL (Wk.refl _) ?_
  refine' eQ ?hc ?h1 ?h2
  case hc=>walk_at "t"
  case h1=>
   intro hf
   have hn3:n=3:=by have:=of_decide_eq_true hf;lia
   rw[if_pos hn3]at hk p7
   have NJ:j≠0:=by have:=of_decide_eq_true p7;lia
   rw[PK rf cur i j NJ]at hk
   have la:=BX cur i j
   refine' aT (EV.own_k (cD.cast (lL (i:=16) (cD.pev (lS (gb a cur) [] c c3 (by decide) ?zg ?qT ⟨a,cur,i,j,ip,rfl,rfl,rfl⟩)) ?Wu ?b1 ?b2 ?b3) ?qq) hk)
   case zg=>decide+kernel
   case qT=>walk_at "es"
   case Wu=>walk_at "e"
   case b1=>lia
   case b2=>lia
   case b3=>rw[bF,ib,af];show _*16<=_;lia
   case qq=>rw[pd,dU];rfl
  case h2=>
  intro hf
  have hn3:¬n=3:=by have:=of_decide_eq_false hf;lia
  rw[if_neg hn3]at hk p7
  refine aL (Wk.refl _) ?_
  refine' eQ ?hc ?h1 ?h2
  case hc=>walk_at "t"
  case h1=>
   intro hf
   have Y7:n=4:=by have:=of_decide_eq_true hf;lia
   rw[if_pos Y7]at hk p7
   have NJ:i≠0:=by have:=of_decide_eq_true p7;lia
   rw[Kt rf cur i j NJ]at hk
   have la:=EA cur i j
   refine' aT (EV.own_k (aV c c5 (by decide) ?zg (aa (cD.pev (lS (gb a cur) [] c c4 (by decide) ?wW ?qT ⟨a,cur,i,j,ip,rfl,rfl,rfl⟩)) az) ⟨_,by rw[ib];exact la,rfl,rfl⟩) hk)
   case zg=>decide+kernel
   case wW=>decide+kernel
   case qT=>walk_at "es"
  case h2=>
  intro hf
  have Y7:¬n=4:=by have:=of_decide_eq_false hf;lia
  rw[if_neg Y7]at hk
  refine aL (Wk.refl _) ?_
  refine' aT (EV.own_k (cD.cast (lL (i:=16*16) (cD.pev (dP (aa (w6 (gb a cur) [] c c6 (by decide) ?zg ?qT ⟨a,cur,i,j,ip,rfl,rfl,rfl⟩) az) ?z)) ?Wu ?b1 ?b2 ?b3) ?qq) hk)
  case zg=>decide+kernel
  case qT=>walk_at "es"
  case z=>show 1<=sizeLine;rw[af];decide
  case Wu=>walk_at "e"
  case b1=>lia
  case b2=>lia
  case b3=>show 1*256<=sizeLine;rw[af];decide
  case qq=>
   rw[l7]
   show aq 256 _=((aq 256 (zm cur i j)).map λ(x:Nat)=>(x:Int)).map D.int
   rw[dU,dU]
def Iy (ds:List D) (d:D):Prop:=∃z:Int,ds=[.int z]/\d= .bl (bp z)
def yL (ds:List D) (d:D):Prop:=∃z:Int,ds=[.int z]/\d= .bl (bD z)
def Gz (ds:List D) (d:D):Prop:=∃w h q:Int,ds=[.int w,.int h,.int q]/\d= .bl (bp w&&(bp h&&bD q))
theorem Kn {W:dg} (T:dC W "is_size" "is_size" CF ["number"]):ax W "is_size" 1 (dS Iy):=by
 refine aQ (N:=["number"]) T (by walk_at "fs") (λds O k h=>?_) λX c ds O k h=>?_
 ·obtain⟨_,_,⟨_,rfl,_⟩,_⟩:=h;rfl
 ·obtain⟨rfl,_,⟨z,rfl,rfl⟩,hk⟩:=h
  change SV X [some (.int z)] [] _ _ _
  refine' aT (bq.go (bq.cast (yP (r9 xB xB ?e1 ?e2 ?e3) λ_=>CZ ?e4) ?qq) hk)
  case e1=>walk_at "e"
  case e2=>walk_at "e"
  case e3=>walk_at "e"
  case e4=>walk_at "e"
  case qq=>rfl
theorem Kj {W:dg} (T:dC W "is_step" "is_step" BL ["number"]):ax W "is_step" 1 (dS yL):=by
 refine aQ (N:=["number"]) T (by walk_at "fs") (λds O k h=>?_) λX c ds O k h=>?_
 ·obtain⟨_,_,⟨_,rfl,_⟩,_⟩:=h;rfl
 ·obtain⟨rfl,_,⟨z,rfl,rfl⟩,hk⟩:=h
  change SV X [some (.int z)] [] _ _ _
  refine' aT (bq.go (bq.cast (r9 xB xB ?e1 ?e2 ?e3) ?qq) hk)
  case e1=>walk_at "e"
  case e2=>walk_at "e"
  case e3=>walk_at "e"
  case qq=>rfl
theorem Fj {W:dg} (T:dC W "are_sizes_and_step" "are_sizes_and_step" kT ["wide","high","step"]) (c1:ax W "is_size" 1 (dS Iy)) (c2:ax W "is_step" 1 (dS yL)):ax W "are_sizes_and_step" 2 (dS Gz):=by
 refine aQ (N:=["wide","high","step"]) T (by walk_at "fs") (λds O k h=>?_) λX c ds O k h=>?_
 ·obtain⟨_,_,⟨_,_,_,rfl,_⟩,_⟩:=h;rfl
 ·obtain⟨rfl,_,⟨w,h,q,rfl,rfl⟩,hk⟩:=h
  change SV X [some (.int w),some (.int h),some (.int q)] [] _ _ _
  refine' aT (bq.go (yP (cI c c1 (by decide) ?zg ?za ⟨w,rfl,rfl⟩) λ_=>yP (cI c c1 (by decide) ?wW ?Po ⟨h,rfl,rfl⟩) λ_=>CZ (cI c c2 (by decide) ?O9 ?za3 ⟨q,rfl,rfl⟩)) hk)
  case zg=>decide+kernel
  case za=>walk_at "es"
  case wW=>decide+kernel
  case Po=>walk_at "es"
  case O9=>decide+kernel
  case za3=>walk_at "es"
def Sh (ds:List D) (d:D):Prop:=∃(q:Nat) (p1 p0 q0 q1:Int),q<=64/\ds=[.int p1,.int p0,.int q0,.int q1,.int q]/\d= .int (M.jx q p1 p0 q0 q1)
theorem DE {W:dg} (B:Bn W) (T:dC W "edge_shift" "edge_shift" vb ["p1","p0","q0","q1","step"]):ax W "edge_shift" 1 (dS Sh):=by
 refine aQ (N:=["p1","p0","q0","q1","step","limit"]) T (by walk_at "fs") (λds O k h=>?_) λX c ds O k h=>?_
 ·obtain⟨_,_,⟨_,_,_,_,_,_,rfl,_⟩,_⟩:=h;rfl
 ·obtain⟨rfl,xs,⟨q,p1,p0,q0,q1,hq,ji,gY⟩,hk⟩:=h
  subst ji
  rw[gY]at hk
  clear gY xs
  unfold M.jx at hk
  change SV X [some (.int p1),some (.int p0),some (.int q0),some (.int q1),some (.int q),none] [] _ _ _
  refine' eQ ?hc ?h1 ?h2
  case hc=>walk_at "t"
  case h1=>
   intro hf
   simp only[eP,decide_eq_true_eq]at hf
   rw[if_pos hf]at hk
   exact aT (bq.go bI hk)
  case h2=>
   intro hf
   simp only[eh,decide_eq_false_iff_not]at hf
   rw[if_neg (by rintro(h|h|h);exact hf.1 h;exact hf.2.1 h;exact hf.2.2 h)]at hk
   refine aL (Wk.refl _) ?_
   refine' bK c ?hl ?he ?hp ?zh
   case hl=>decide+kernel
   case he=>walk_at "e"
   case hp=>walk_at "put"
   case zh=>
    refine aT (bq.go ?_ hk)
    walk_at "ec"
    rfl
def nH (row sh:List Int):List Int:=cS (λx d=>M.iK (x+d)) row sh
def EG (ds:List D) (xs:List D):Prop:=∃row sh:List Int,row.length<1000/\ds=[dl row,dl sh]/\xs=(nH row sh).map .int
theorem KO {W:dg} (B:Bn W) (T:dC W "shifted" "shifted" B2 ["row","shifts"]):ax W "shifted" 1 (cv EG):=by
 refine aQ (N:=["row","shifts","point","shift"]) T (by walk_at "fs") (λds O k h=>?_) λX c ds O k h=>?_
 ·obtain⟨_,_,⟨_,_,_,rfl,_⟩,_⟩:=h;rfl
 ·obtain⟨rfl,xs,⟨a,b,hl,ji,gY⟩,hk⟩:=h
  subst ji
  rw[gY]at hk
  clear gY xs
  change SV X [some (dl a),some (dl b),none,none] [] _ _ _
  refine aT (EV.own_k (ds:=(nH a b).map .int) ?_ hk)
  refine' cD.cast (ds:=?BS) ?eU ?qU
  case eU=>
   refine' fP ["point","shift"] [2,3] (l:=a.zip b) (enc:=λq=>D.tup [.int q.1,.int q.2]) (g:=λq=>D.int (M.iK (q.1+q.2))) c ?hi ?ok ?ho ?hz ?wp ?gU
   case hi=>
    refine' iN (e1:=D.int) (e2:=D.int) c ?zg B.zip ?ea ?eb
    case zg=>decide+kernel
    case ea=>walk_at "n"
    case eb=>walk_at "n"
   case ok=>decide+kernel
   case ho=>decide+kernel
   case hz=>rw[bZ,af];lia
   case wp=>walk_at "wp"
   case gU=>
    intro q hq
    refine⟨_,λY cY=>⟨by walk_at "tg2",?_⟩⟩
    walk_at "ec"
    rfl
  case qU=>exact oI (λx d=>M.iK (x+d)) D.int a b
def uU (q:Nat) (m:Nat) (a b c d:List Int):List Int:=(ar m).map λi=>M.jx q (a.getD i 0) (b.getD i 0) (c.getD i 0) (d.getD i 0)
def LV (ds:List D) (xs:List D):Prop:=∃(q m:Nat) (a b c d:List Int),q<=64/\m<1000/\a.length=m/\b.length=m/\c.length=m/\d.length=m/\ds=[dl a,dl b,dl c,dl d,.int q]/\xs=(uU q m a b c d).map .int
theorem Bq {W:dg} (B:Bn W) (T:dC W "edge_shifts" "edge_shifts" tI ["before_last","last","first","second","step"]) (c1:ax W "edge_shift" 1 (dS Sh)):ax W "edge_shifts" 2 (cv LV):=by
 refine aQ (N:=["before_last","last","first","second","step","p1","p0","q0","q1"]) T (by walk_at "fs") (λds O k h=>?_) λX c ds O k h=>?_
 ·obtain⟨_,_,⟨_,_,_,_,_,_,_,_,_,_,_,_,rfl,_⟩,_⟩:=h;rfl
 ·obtain⟨rfl,xs,⟨q,m,a,b,c4,d4,hq,hm,ha,hb,X8,hd4,ji,gY⟩,hk⟩:=h
  subst ji
  rw[gY]at hk
  clear gY xs
  change SV X [some (dl a),some (dl b),some (dl c4),some (dl d4),some (.int q),none,none,none,none] [] _ _ _
  refine aT (EV.own_k (ds:=(uU q m a b c4 d4).map .int) ?_ hk)
  refine' cD.cast (ds:=?BS) ?eU ?qU
  case eU=>
   refine' fP ["p1","p0","q0","q1"] [5,6,7,8] (l:=ar m) (enc:=λi=>D.tup [.int (a.getD i 0),.int (b.getD i 0),.int (c4.getD i 0),.int (d4.getD i 0)]) (g:=λi=>D.int (M.jx q (a.getD i 0) (b.getD i 0) (c4.getD i 0) (d4.getD i 0))) c (pF.cast (K4 (m:=m) c ?zg B.zip ?ea ?eb ?ec ?ed ?l1 ?l2 ?l3 ?l4) ?qz) ?ok ?ho ?hz ?wp ?gU
   case zg=>decide+kernel
   case ea=>walk_at "n"
   case eb=>walk_at "n"
   case ec=>walk_at "n"
   case ed=>walk_at "n"
   case l1=>rw[bF,ha]
   case l2=>rw[bF,hb]
   case l3=>rw[bF,X8]
   case l4=>rw[bF,hd4]
   case qz=>
    unfold vT
    refine aW λi hi=>?_
    have Ly:i<m:=by simpa using hi
    simp only[bg,fG]
    rw[M.iP D.int a i _ (by lia),M.iP D.int b i _ (by lia),M.iP D.int c4 i _ (by lia),M.iP D.int d4 i _ (by lia),M.dX a i 0 (by lia),M.dX b i 0 (by lia),M.dX c4 i 0 (by lia),M.dX d4 i 0 (by lia)]
   case ok=>decide+kernel
   case ho=>decide+kernel
   case hz=>rw[fv,af];lia
   case wp=>walk_at "wp"
   case gU=>
    intro i hi
    refine⟨_,λY cY=>⟨by walk_at "tg2",?_⟩⟩
    refine' cI cY c1 (by decide) ?wW ?za ⟨q,_,_,_,_,hq,rfl,rfl⟩
    case wW=>decide+kernel
    case za=>walk_at "es"
  case qU=>unfold uU;rw[aF];rfl
def VG (ds:List D) (xs:List D):Prop:=∃(q n m:Nat) (G:Nat->Nat->Nat),1<=q/\q<=64/\(∀r c,G r c<=255)/\n%8=0/\8<=n/\n<=256/\m<=256/\ds=[.lst ((M.cH n m G).map dl),.int q]/\xs=(M.cH n m (M.gZ q n G)).map dl
theorem FO (q m:Nat) (f1 f2 f3 f4:Nat->Nat):uU q m ((ar m).map λc=>((f1 c:Nat):Int)) ((ar m).map λc=>((f2 c:Nat):Int)) ((ar m).map λc=>((f3 c:Nat):Int)) ((ar m).map λc=>((f4 c:Nat):Int))=(ar m).map λc=>M.jx q (f1 c) (f2 c) (f3 c) (f4 c):=by
 unfold uU
 exact M.bx λc hc=>by rw[M.vV f1 hc,M.vV f2 hc,M.vV f3 hc,M.vV f4 hc]
theorem ya {W:dg} (B:Bn W) (T:dC W "smoothed_rows" "smoothed_rows" pJ ["rows","step"]) (c1:ax W "edge_shifts" 2 (cv LV)) (c2:ax W "shifted" 1 (cv EG)):ax W "smoothed_rows" 3 (cv VG):=by
 refine aQ (N:=["rows","step","result","k","shifts","shift"]) T (by walk_at "fs") (λds O k h=>?_) λX c ds O k h=>?_
 ·obtain⟨_,_,⟨_,_,_,_,_,_,_,_,_,_,_,rfl,_⟩,_⟩:=h;rfl
 ·obtain⟨rfl,xs,⟨q,n,m,G,q1,q2,hG,hn,hn8,Zx,hm,ji,gY⟩,hk⟩:=h
  subst ji
  rw[gY,<-M.Lg q n m G hn]at hk
  clear gY xs
  have gl:=M.kD n m G
  change SV X [some (.lst ((M.cH n m G).map dl)),some (.int q),none,none,none,none] [] _ _ _
  refine' gk (ds:=(M.cH n m G).map dl) (λa=>[some (.lst ((M.cH n m G).map dl)),some (.int q),some (.ptr a),none,none,none]) c ?hl (ME c B ?zg ?ze rfl) ?hx ?zh ?hs
  case hl=>decide+kernel
  case zg=>decide+kernel
  case ze=>walk_at "n"
  case hx=>intro q;walk_at "put"
  case hs=>rfl
  case zh=>
  intro a
  refine' gy (ds:=(ia 8 8 (n/8-1)).map .int) c ?hi (λi ρ1 O1=>ρ1=[some (.lst ((M.cH n m G).map dl)),some (.int q),some (.ptr a),none,none,none]/\O1=[(a,.lst ((M.cH n m (M.jv q n G i)).map dl))]) ?h0 ?step ?done
  case hi=>
   refine' kC (i:=8) (j:=8+8*((n/8-1:Nat):Int)) (m:=8) (l:=n/8-1) c ?zg B.range ?ea ?eb ?ec ?rg
   case zg=>decide+kernel
   case ea=>walk_at "e"
   case eb=>
    walk_at "ec"
    rw[ah,gl];exact congrArg D.int (by lia)
   case ec=>walk_at "e"
   case rg=>exact NA.mul (by lia) (by lia) (by lia) (by lia) (by lia)
  case h0=>rw[M.HW];exact⟨rfl,rfl⟩
  case done=>
   rintro ρ1 O1 ⟨rfl,rfl⟩
   rw[ah,ez]
   exact aT (bq.go (d:= .ptr a) (by walk_at "n") (hk a))
  case step=>
   rintro i d ρ1 O1 hd ⟨rfl,rfl⟩
   obtain⟨hi,rfl⟩:=gf hd
   have hk8:8+8*i<n:=by lia
   refine⟨_,by walk_at "tg1",?_⟩
   have e0:(8:Int)+(i:Int)*8=((8+8*i:Nat):Int):=by lia
   have e1:(8:Int)+(i:Int)*8-1=((8+8*i-1:Nat):Int):=by lia
   have e2:(8:Int)+(i:Int)*8-2=((8+8*i-2:Nat):Int):=by lia
   have e3:(8:Int)+(i:Int)*8+1=((8+8*i+1:Nat):Int):=by lia
   have r0:=M.lU (n:=n) (m:=m) (G:=G) (r:=8+8*i) hk8
   have r1:=M.lU (n:=n) (m:=m) (G:=G) (r:=8+8*i-1) (by lia)
   have r2:=M.lU (n:=n) (m:=m) (G:=G) (r:=8+8*i-2) (by lia)
   have r3:=M.lU (n:=n) (m:=m) (G:=G) (r:=8+8*i+1) (by lia)
   have sg:=FO q m (λc=>G (8+8*i-2) c) (λc=>G (8+8*i-1) c) (λc=>G (8+8*i) c) (λc=>G (8+8*i+1) c)
   generalize hS:(ar m).map (λc=>M.jx q (G (8+8*i-2) c) (G (8+8*i-1) c) (G (8+8*i) c) (G (8+8*i+1) c))=S at sg
   have ml:∀f:Nat->Nat,((ar m).map λc=>((f c:Nat):Int)).length=m:=λf=>by simp
   refine' bK (d:=dl S) c ?hl (cD.pev (aV c c1 (by decide) ?zg ?za ⟨q,m,_,_,_,_,q2,by lia,ml _,ml _,ml _,ml _,rfl,by rw[sg]⟩)) ?hp ?zh
   case hl=>decide+kernel
   case zg=>decide+kernel
   case za=>
    refine' aa (j7 (l:=M.cH n m G) (f:=dl) ?ea ?eb e2 r2 ?s1) (aa (j7 (l:=M.cH n m G) (f:=dl) ?O8 ?Qd e1 r1 ?s2) (aa (j7 (l:=M.cH n m G) (f:=dl) ?ea3 ?eb3 e0 r0 ?s3) (aa (j7 (l:=M.cH n m G) (f:=dl) ?ea4 ?eb4 e3 r3 ?s4) (aa ?zs az))))
    case ea=>walk_at "n"
    case eb=>walk_at "e"
    case s1=>intro _ _;rfl
    case O8=>walk_at "n"
    case Qd=>walk_at "e"
    case s2=>intro _ _;rfl
    case ea3=>walk_at "n"
    case eb3=>walk_at "e"
    case s3=>intro _ _;rfl
    case ea4=>walk_at "n"
    case eb4=>walk_at "e"
    case s4=>intro _ _;rfl
    case zs=>walk_at "n"
   case hp=>walk_at "put"
   case zh=>
   refine' eQ (t:=S.any λz=>z !=0) (fV (mf c B ?zg ?ze rfl) ?tv) ?h1 ?h2
   case zg=>decide+kernel
   case ze=>walk_at "n"
   case tv=>intro _;rfl
   case h2=>
    intro hf
    have h0:∀c,c<m->M.jx q (G (8+8*i-2) c) (G (8+8*i-1) c) (G (8+8*i) c) (G (8+8*i+1) c)=0:=λc hc=>by
     have:=M.Cz (l:=S) (by rw[hf];exact aw) c
     rw[<-hS,M.bO _ _ _ _ hc]at this
     exact this
    refine aL (Wk.refl _) ?_
    refine' aL ?w ⟨rfl,?qq⟩
    case w=>walk_at "wk"
    case qq=>rw[M.Hu q1 hG hn i hk8 h0]
   case h1=>
    intro hf
    have st:=M.AK (m:=m) q1 hG hn i hk8
    have sA:nH ((ar m).map λc=>((G (8+8*i-1) c:Nat):Int)) S=(ar m).map λc=>M.iK (((G (8+8*i-1) c:Nat):Int)+M.jx q (G (8+8*i-2) c) (G (8+8*i-1) c) (G (8+8*i) c) (G (8+8*i+1) c)):=by
     unfold nH;rw[<-hS,M.iI]
    have sB:nH ((ar m).map λc=>((G (8+8*i) c:Nat):Int)) (S.map λz=> -z)=(ar m).map λc=>M.iK (((G (8+8*i) c:Nat):Int)+ -M.jx q (G (8+8*i-2) c) (G (8+8*i-1) c) (G (8+8*i) c) (G (8+8*i+1) c)):=by
     unfold nH;rw[<-hS,M.Az,M.iI]
    rw[<-sA,<-sB]at st
    have sl:S.length=m:=by rw[<-hS];simp
    have gl2:=M.kD n m (M.jv q n G i)
    refine' kA (q:=a) (jj:=8+8*i-1) (cD.pev (aV c c2 (by decide) ?zg (aa (j7 (l:=M.cH n m G) (f:=dl) ?O8 ?Qd e1 r1 ?s2) (aa ?za az)) ⟨_,S,by rw[ml];lia,rfl,rfl⟩)) ?ho ?hi ?hj .here ?zh
    case zg=>decide+kernel
    case O8=>walk_at "n"
    case Qd=>walk_at "e"
    case s2=>intro _ _;rfl
    case za=>walk_at "n"
    case ho=>walk_at "n"
    case hi=>
     walk_at "ec"
     exact congrArg D.int e1
    case hj=>rw[ah,gl2];exact sy (by lia)
    case zh=>
    refine' kA (q:=a) (jj:=8+8*i) (cD.pev (aV c c2 (by decide) ?zg (aa (j7 (l:=M.cH n m G) (f:=dl) ?O8 ?Qd e0 r0 ?s2) (aa (cD.pev (cD.cast (ds:=?BS) ?eU ?qU)) az)) ⟨_,S.map λz=> -z,by rw[ml];lia,rfl,rfl⟩)) ?ho ?hi ?hj .here ?zh
    case zg=>decide+kernel
    case O8=>walk_at "n"
    case Qd=>walk_at "n"
    case s2=>intro _ _;rfl
    case eU=>
     refine' fP ["shift"] [5] (l:=S) (enc:=D.int) (g:=λz=>D.int (-z)) c (fe ?yR) ?Q3 ?AR ?Av ?Ud ?HQ
     case yR=>walk_at "n"
     case Q3=>decide+kernel
     case AR=>decide+kernel
     case Av=>rw[sl,af];lia
     case Ud=>walk_at "wp"
     case HQ=>
      intro z hz
      exact⟨_,λY cY=>⟨by walk_at "tg1",by walk_at "e"⟩⟩
    case qU=>rw[aF];rfl
    case ho=>walk_at "n"
    case hi=>
     walk_at "ec"
     exact congrArg D.int e0
    case hj=>rw[eL,ah,gl2];exact sy (by lia)
    case zh=>
     refine aL (Wk.refl _) ?_
     refine' aL ?w ⟨rfl,?qq⟩
     case w=>walk_at "wk"
     case qq=>rw[<-st,mj,mj]
structure pK (W:dg) (x:Str) (C:Addr) (qual:Str) (st:Stmt) (ps:List Str):Prop where
 ex:∃f fd,OO W.K "__init__" qual st f fd/\Mk W.K C f/\W.mg x=some (.ref C)/\iC W.K fd ps []
theorem rQ {W:dg} {x qual:Str} {C:Addr} {st:Stmt} {ps N:List Str} {m:Nat} {Ci:tw} (T:pK W x C qual st ps) (S:jS N ps (bQ st)) (len:∀ds O k,Ci ds O k->ds.length=ps.length)
  (body:∀X,eZ W X N (bQ st) m true->∀ds O k,Ci ds O k->SV X (pO N ds) O (fo st) (λ_ O'=>k .non O') k):jC W x C (m+1) Ci:=by
 obtain⟨f,fd,hF,hM,hx,hb⟩:=T.ex
 exact⟨f,fd,ps,Ju hF S len body,hM,hx,hb⟩
section
variable {W:dg} {X:Cx} {N:List Str} {sc:Scope} {n m:Nat} {tp:Bool} {ρ:dk} {O:Os} {x:Str} {e:aS} {es:List aS} {p pos:Pos} {ds:List D} {C:Addr} {ns:List Str} {xs:List D}
def E9 (C:Addr) (ns:List Str) (R:List D->List D->Prop):tw:=λds O k=>∃(q:Addr) (as xs:List D),ds= .ptr q::as/\R as xs/\O=[(q,.ins C [] [])]/\k .non [(q,.ins C ns xs)]
theorem wc {R:List D->List D->Prop} (c:eZ W X N sc n tp) (hc:jC W x C m (E9 C ns R)) (hm:m+1<=n) (hg:mr sc x) (ha:ir X ρ O (e::es) ds) (hR:R ds xs)
  (og:(x==("__debug__":Str))=false:=by decide) (he:ak (e::es) X.env=(false,eval e X.env)::ak es X.env:=by rfl) (hpl:(cw pos (ak es X.env)).any (·.1)=false:=by rfl):bq X ρ O (.Call (.Name x p) (e::es) [] pos) (.ins C ns xs):=
 EV.frzI (O0:=O) (v9 c hc hm hg (ha.go ⟨[],O,rfl,λq=>⟨q,ds,xs,rfl,hR,rfl,rfl,⟨q,C,ns,xs,rfl,rfl,rfl,rfl⟩⟩⟩) og he hpl)
end
def Mu (as xs:List D):Prop:=∃a b c:D,as=[a,b,c]/\xs=[a,b,c]
theorem JQ {W:dg} {P:Addr} (hC:iS W.K P) (n1:aM W.K P "wide") (n2:aM W.K P "high") (n3:aM W.K P "points") (T:pK W "Picture" P "Picture.__init__" rD ["self","wide","high","points"]):jC W "Picture" P 1 (E9 P ["wide","high","points"] Mu):=by
 refine rQ (N:=["self","wide","high","points"]) T (by walk_at "fs") (λds O k h=>?_) λX c ds O k h=>?_
 ·obtain⟨_,_,_,rfl,⟨_,_,_,rfl,_⟩,_⟩:=h;rfl
 ·obtain⟨q,_,_,rfl,⟨a,b,d,rfl,rfl⟩,rfl,hk⟩:=h
  change SV X [some (.ptr q),some a,some b,some d] _ _ _ _
  refine' gx (q:=q) c hC n1 ?e1 ?e2 .here .nil (by decide) ?zh
  case e1=>walk_at "n"
  case e2=>walk_at "n"
  case zh=>
  refine' gx (q:=q) c hC n2 ?e1 ?e2 .here (.there (by decide) .nil) (by decide) ?zh
  case e1=>walk_at "n"
  case e2=>walk_at "n"
  case zh=>
  refine' gx (q:=q) c hC n3 ?e1 ?e2 .here (.there (by decide) (.there (by decide) .nil)) (by decide) ?zh
  case e1=>walk_at "n"
  case e2=>walk_at "n"
  case zh=>exact aL (Wk.refl _) hk
def VW (as xs:List D):Prop:=∃a b c d:D,as=[a,b,c,d]/\xs=[a,b,c,d]
theorem Xe {W:dg} {P:Addr} (hC:iS W.K P) (n1:aM W.K P "vector") (n2:aM W.K P "bits") (n3:aM W.K P "square") (n4:aM W.K P "cost") (T:pK W "Way" P "Way.__init__" AI ["self","vector","bits","square","cost"]):jC W "Way" P 1 (E9 P ["vector","bits","square","cost"] VW):=by
 refine rQ (N:=["self","vector","bits","square","cost"]) T (by walk_at "fs") (λds O k h=>?_) λX c ds O k h=>?_
 ·obtain⟨_,_,_,rfl,⟨_,_,_,_,rfl,_⟩,_⟩:=h;rfl
 ·obtain⟨q,_,_,rfl,⟨a,b,d,d2,rfl,rfl⟩,rfl,hk⟩:=h
  change SV X [some (.ptr q),some a,some b,some d,some d2] _ _ _ _
  refine' gx (q:=q) c hC n1 ?e1 ?e2 .here .nil (by decide) ?zh
  case e1=>walk_at "n"
  case e2=>walk_at "n"
  case zh=>
  refine' gx (q:=q) c hC n2 ?e1 ?e2 .here (.there (by decide) .nil) (by decide) ?zh
  case e1=>walk_at "n"
  case e2=>walk_at "n"
  case zh=>
  refine' gx (q:=q) c hC n3 ?e1 ?e2 .here (.there (by decide) (.there (by decide) .nil)) (by decide) ?zh
  case e1=>walk_at "n"
  case e2=>walk_at "n"
  case zh=>
  refine' gx (q:=q) c hC n4 ?e1 ?e2 .here (.there (by decide) (.there (by decide) (.there (by decide) .nil))) (by decide) ?zh
  case e1=>walk_at "n"
  case e2=>walk_at "n"
  case zh=>exact aL (Wk.refl _) hk
def yS (P:Addr) (ds:List D) (d:D):Prop:=∃(q:Nat) (p:Rd16.Pic),1<=q/\q<=64/\M.fh p/\ds=[kx P p,.int q]/\d=kx P (i7 q p)
theorem G3 {W:dg} {P:Addr} (hC:iS W.K P) (n1:aM W.K P "wide") (n2:aM W.K P "high") (n3:aM W.K P "points") (T:dC W "smoothed" "smoothed" zz ["picture","step"]) (mP:jC W "Picture" P 1 (E9 P ["wide","high","points"] Mu)) (c1:ax W "rows_of" 1 (cv Fs)) (c2:ax W "joined" 1 (cv BK)) (c3:ax W "turned" 2 (cv Jp)) (c4:ax W "smoothed_rows" 3 (cv VG)):ax W "smoothed" 4 (dS (yS P)):=by
 refine aQ (N:=["picture","step","wide","high","columns","points"]) T (by walk_at "fs") (λds O k h=>?_) λX c ds O k h=>?_
 ·obtain⟨_,_,⟨_,_,_,_,_,rfl,_⟩,_⟩:=h;rfl
 ·obtain⟨rfl,xs,⟨q,p,q1,q2,ok,ji,gY⟩,hk⟩:=h
  subst ji
  rw[gY]at hk
  clear gY xs
  obtain⟨w1,w2,w3⟩:=ok.w
  obtain⟨h1,h2,h3⟩:=ok.h
  have Vl:p.wide*p.high<=256*256:=cX w2 h2
  have hpl:(M.iT p).length=p.wide*p.high:=by rw[M.jq,ok.len]
  change SV X [some (kx P p),some (.int q),none,none,none,none] [] _ _ _
  refine' eQ ?hc ?h1 ?h2
  case hc=>walk_at "t"
  case h1=>
   intro hf
   have:(q-1)/2=0:=by have:=of_decide_eq_true hf;lia
   rw[M.FC ok q this]at hk
   exact aT (bq.go (d:=kx P p) (by walk_at "n") hk)
  case h2=>
  intro hf
  refine aL (Wk.refl _) ?_
  refine' bK (d:= .int p.wide) c ?hl ?he ?hp ?zh
  case hl=>decide+kernel
  case he=>walk_at "e"
  case hp=>walk_at "put"
  case zh=>
  refine' bK (d:= .int p.high) c ?hl ?he ?hp ?zh
  case hl=>decide+kernel
  case he=>walk_at "e"
  case hp=>walk_at "put"
  case zh=>
  have tl:=M.iM (M.iT p) p.wide p.high
  refine' bK (d:= .lst ((M.cH p.wide p.high λx y=>p.at_ (x:Nat) (y:Nat)).map dl)) c ?hl (cD.pev (cD.cast (aV c c1 (by decide) ?zg (aa (cD.pev (aV c c3 (by decide) ?wW ?Po ⟨M.iT p,p.wide,p.high,by lia,by lia,hpl,by lia,rfl,rfl⟩)) (aa ?za3 az)) ⟨_,p.high,p.wide,by lia,by lia,by rw[tl,bE],by lia,rfl,rfl⟩) (by rw[M.Ow ok]))) ?hp ?zh
  case hl=>decide+kernel
  case zg=>decide+kernel
  case wW=>decide+kernel
  case Po=>walk_at "es"
  case za3=>walk_at "n"
  case hp=>walk_at "put"
  case zh=>
  generalize hG:(λx y:Nat=>p.at_ (x:Nat) (y:Nat))=G
  have RS:∀r c,G r c<=255:=by rw[<-hG];exact λr c=>M.jV p _ _
  generalize Z1:(λy x=>M.gZ q p.wide G x y)=G2
  have S5:∀r c,G2 r c<=255:=by rw[<-Z1];exact λr c=>M.vg RS _ _
  have Z6:=M.jX p.wide p.high (M.gZ q p.wide G)
  have Jt:=M.jX p.high p.wide G2
  have fl3:=M.jX p.high p.wide (M.gZ q p.high G2)
  have acY:p.high*p.wide=p.wide*p.high:=bE _ _
  refine' bK (d:=dl (M.cH p.high p.wide G2).flatten) c ?hl (cD.pev (cD.cast (aV c c3 (by decide) ?zg (aa (cD.pev (aV c c2 (by decide) ?wW (aa (cD.pev (aV c c4 (by decide) ?O9 ?za ⟨q,p.wide,p.high,G,q1,q2,RS,by lia,by lia,by lia,by lia,rfl,rfl⟩)) az) ⟨_,by rw[Z6];lia,rfl,rfl⟩)) (aa ?Po az)) ⟨_,p.high,p.wide,by lia,by lia,by rw[Z6],by rw[Z6];lia,rfl,rfl⟩) (by rw[M.Kk,Z1]))) ?hp ?zh
  case hl=>decide+kernel
  case zg=>decide+kernel
  case wW=>decide+kernel
  case O9=>decide+kernel
  case za=>walk_at "es"
  case Po=>walk_at "n"
  case hp=>walk_at "put"
  case zh=>
  have yV:k (l5 P p.wide p.high (dl (M.cH p.high p.wide (M.gZ q p.high G2)).flatten)) []:=by
   have e:=M.zI ok q
   rw[hG,Z1]at e
   rw[<-e]
   exact hk
  refine' aT (bq.go (wc c mP (by decide) ?zg (aa ?a1 (aa ?a2 (aa (cD.pev (aV c c2 (by decide) ?wW (aa (cD.pev (aV c c4 (by decide) ?O9 (aa (cD.pev (cD.cast (aV c c1 (by decide) ?zg4 ?za ⟨_,p.wide,p.high,by lia,by lia,Jt,by rw[Jt];lia,rfl,rfl⟩) (by rw[M.KZ]))) (aa ?Po az)) ⟨q,p.high,p.wide,G2,q1,q2,S5,by lia,by lia,by lia,by lia,rfl,rfl⟩)) az) ⟨_,by rw[fl3];lia,rfl,rfl⟩)) az))) ⟨_,_,_,rfl,rfl⟩) yV)
  case zg=>decide+kernel
  case wW=>decide+kernel
  case O9=>decide+kernel
  case zg4=>decide+kernel
  case za=>walk_at "es"
  case Po=>walk_at "n"
  case a1=>walk_at "n"
  case a2=>walk_at "n"
section
variable {X:Cx} {ρ:dk} {O:Os} {e:aS} {k:KD}
theorem EV.frzI2 (h:EV X ρ O e λd O'=>∃q C ns ds O0,d= .ptr q/\O'=(q,.ins C ns ds)::O0/\k (.ins C ns ds) O0):EV X ρ O e k:= .mk λσ F H Q s p=>h σ F H Q s λv d O' F' H' g su ow r q=>by
 obtain⟨a,C,ns,ds,O0,rfl,rfl,q⟩:=q
 obtain⟨_,dx,vs,hv,hl,hr⟩:=ow.at_ _ ae
 obtain⟨g2,sf,gX,gB⟩:=rp su ow hv
 obtain rfl:v=V.ref a:=r
 exact p _ (.ins C ns ds) O0 _ H' (g.trans g2) gX gB ⟨a,dx,vs,rfl,cp,hl,hr.mono sf⟩ q
end
def Hb (S P:Addr):tw:=λds O k=>∃(q:Addr) (w h st:Nat) (bf:D),w<=256/\h<=256/\ds=[.ptr q,.int w,.int h,.int st,bf]/\O=[(q,.ins S [] [])]/\
 ∀a,k .non [(a,.lst (aq (w*h) (.int 0))),(q,.ins S ["step","before","shown"] [.int st,bf,l5 P w h (.ptr a)])]
theorem Ro {W:dg} {S P:Addr} (hC:iS W.K S) (n1:aM W.K S "step") (n2:aM W.K S "before") (n3:aM W.K S "shown") (T:pK W "Sheet" S "Sheet.__init__" uX ["self","wide","high","step","before"]) (mP:jC W "Picture" P 1 (E9 P ["wide","high","points"] Mu)):jC W "Sheet" S 3 (Hb S P):=by
 refine rQ (N:=["self","wide","high","step","before"]) T (by walk_at "fs") (λds O k h=>?_) λX c ds O k h=>?_
 ·obtain⟨_,_,_,_,_,_,_,rfl,_⟩:=h;rfl
 ·obtain⟨q,w,h,st,bf,hw,hh,rfl,rfl,hk⟩:=h
  have Vl:w*h<=256*256:=cX hw hh
  have Ml:(w:Int)*(h:Int)=((w*h:Nat):Int):=by push_cast;rfl
  change SV X [some (.ptr q),some (.int w),some (.int h),some (.int st),some bf] _ _ _ _
  refine' gx (q:=q) c hC n1 ?e1 ?e2 .here .nil (by decide) ?zh
  case e1=>walk_at "n"
  case e2=>walk_at "n"
  case zh=>
  refine' gx (q:=q) c hC n2 ?e1 ?e2 .here (.there (by decide) .nil) (by decide) ?zh
  case e1=>walk_at "n"
  case e2=>walk_at "n"
  case zh=>
  refine' ey (Il c hC n3 ?hv ?hs)
  case hs=>rfl
  case hv=>
  refine EV.frzI2 ?_
  refine' v9 c mP (by decide) ?zg ?qT
  case zg=>decide+kernel
  case qT=>
  refine' qK (bq.go (d:= .int w) ?a1 (qK (bq.go (d:= .int h) ?a2 ?r2)))
  case a1=>walk_at "n"
  case a2=>walk_at "n"
  case r2=>
  refine' qK (EV.own_k (ds:=aq (w*h) (.int 0)) (cD.cast (lL (ds:=[.int 0]) (i:=(w:Int)*(h:Int)) (cD.pev (dP ?es ?z)) ?e3 ?b1 ?b2 ?b3) ?qv) ?hq)
  case es=>walk_at "es"
  case z=>show 1<=sizeLine;rw[af];decide
  case e3=>walk_at "e"
  case b1=>omega
  case b2=>omega
  case b3=>rw[Ml,bC,af];show 1*_<=_;omega
  case qv=>rw[Ml,bC];exact l7 _ _
  case hq=>
   intro a
   refine yM ⟨[],_,rfl,λq2=>⟨q2,_,_,rfl,⟨_,_,_,rfl,rfl⟩,rfl,rfl,⟨q2,P,_,_,_,rfl,rfl,q,_,_,_,_,_,?_,.there .here,.there (by decide) (.there (by decide) .nil),by decide,?_⟩⟩⟩
   ·walk_at "n"
   ·exact aL (Wk.refl _) (hk a)
def N0 (ds:List D) (d:D):Prop:=∃(q cnt:Nat) (o s:List Nat),q<=64/\o.length<=256/\(∀x∈o,x<=255)/\(∀x∈s,x<=255)/\ds=[.int q,dl (aD o),dl (aD s),.int cnt]/\d= .int (BH q (xt o s) cnt:Nat)
theorem Hs {W:dg} (B:Bn W) (T:dC W "way_cost" "way_cost" zT ["step","square","shown","count"]):ax W "way_cost" 1 (dS N0):=by
 refine aQ (N:=["step","square","shown","count","lost","a","b"]) T (by walk_at "fs") (λds O k h=>?_) λX c ds O k h=>?_
 ·obtain⟨_,_,⟨_,_,_,_,_,_,_,_,rfl,_⟩,_⟩:=h;rfl
 ·obtain⟨rfl,xs,⟨q,cnt,o,s,hq,ho,AR,yg,ji,gY⟩,hk⟩:=h
  subst ji
  rw[gY]at hk
  clear gY xs
  unfold BH at hk
  change SV X [some (.int q),some (dl (aD o)),some (dl (aD s)),some (.int cnt),none,none,none] [] _ _ _
  refine' bK (d:= .int (xt o s:Nat)) c ?hl ?he ?hp ?zh
  case hl=>decide+kernel
  case he=>
   refine' bq.cast (Dl (l:=cS (λ(x y:Int)=>(x-y)*(x-y)) (aD o) (aD s)) c B ?zg (cD.pev (cD.cast (ds:=?BS) ?eU ?qU)) rfl) (congrArg D.int (M.GL o s))
   case zg=>decide+kernel
   case eU=>
    refine' fP ["a","b"] [5,6] (l:=(aD o).zip (aD s)) (enc:=λq=>D.tup [.int q.1,.int q.2]) (g:=λq=>D.int ((q.1-q.2)*(q.1-q.2))) c ?hi ?ok ?ho ?hz ?wp ?gU
    case hi=>
     refine' iN (e1:=D.int) (e2:=D.int) c ?wW B.zip ?ea ?eb
     case wW=>decide+kernel
     case ea=>walk_at "n"
     case eb=>walk_at "n"
    case ok=>decide+kernel
    case ho=>decide+kernel
    case hz=>rw[bZ,ib,af];lia
    case wp=>walk_at "wp"
    case gU=>
     intro q hq
     have OT:0<=q.1/\q.1<=255:=by have:=(jG hq).1;unfold aD at this;obtain⟨x,hx,e⟩:=ay.mp this;have:=AR x hx;lia
     have hb2:0<=q.2/\q.2<=255:=by have:=(jG hq).2;unfold aD at this;obtain⟨x,hx,e⟩:=ay.mp this;have:=yg x hx;lia
     refine⟨_,λY cY=>⟨by walk_at "tg2",?_⟩⟩
     refine' lH ?e1 ?e2 ?cm
     case e1=>walk_at "e"
     case e2=>walk_at "e"
     case cm=>left;constructor<;>lia
   case qU=>exact oI (λ(x y:Int)=>(x-y)*(x-y)) D.int _ _
  case hp=>walk_at "put"
  case zh=>
  refine' eQ ?hc ?h1 ?h2
  case hc=>walk_at "t"
  case h1=>
   intro hf
   have h1:q=1:=by have:=of_decide_eq_true hf;lia
   rw[if_pos h1]at hk
   refine aT (bq.go ?_ hk)
   walk_at "ec"
   exact congrArg D.int (by rw[Int.natCast_add,Int.natCast_mul];rfl)
  case h2=>
   intro hf
   have h1:¬q=1:=by have:=of_decide_eq_false hf;lia
   rw[if_neg h1]at hk
   refine aL (Wk.refl _) ?_
   refine aT (bq.go ?_ hk)
   refine' bq.cast (jr ?e1 (lH (lH ?e2 ?e3 ?c1) ?e4 ?c2)) ?qq
   case e1=>walk_at "n"
   case e2=>walk_at "n"
   case e3=>walk_at "n"
   case e4=>walk_at "n"
   case c1=>left;constructor<;>lia
   case c2=>
    left
    have:q*q<=64*64:=cX hq hq
    have e:(q:Int)*(q:Int)=((q*q:Nat):Int):=by push_cast;rfl
    rw[e];constructor<;>lia
   case qq=>exact congrArg D.int (by push_cast;rfl)
theorem vp {a b:Nat} (ha:a<=255) (hb:b<=255):Rd16.mean a b<=255:=by unfold Rd16.mean;lia
theorem Rb (p:Rd16.Pic) (x y:Int):p.half x y<=255:=by
 unfold Rd16.Pic.half
 simp only[]
 split
 ·split
  ·exact M.jV _ _ _
  ·exact vp (M.jV _ _ _) (M.jV _ _ _)
 ·split
  ·exact vp (M.jV _ _ _) (M.jV _ _ _)
  ·exact vp (vp (M.jV _ _ _) (M.jV _ _ _)) (vp (M.jV _ _ _) (M.jV _ _ _))
theorem SW (l:List Nat) (h:∀x∈l,x<=255):l.sum<=255*l.length:=by
 induction l with
 |nil=>simp
 |cons x l ih=>
  have h1:=ih λy hy=>h y (ai _ hy)
  have h2:=h x ae
  rw[uL,aJ];lia
theorem Qt (cur:Rd16.Pic) (i j:Nat):zm cur i j<=255:=by
 rw[Ex]
 split
 ·lia
 ·rename_i hne
  have hle:∀x∈iu cur i j++kj cur i j,x<=255:=λx hx=>by
   rcases gq.mp hx with h|h
   ·unfold iu at h;split at h
    ·simp at h
    ·obtain⟨k,_,rfl⟩:=ay.mp h;exact M.jV _ _ _
   ·unfold kj at h;split at h
    ·simp at h
    ·obtain⟨k,_,rfl⟩:=ay.mp h;exact M.jV _ _ _
  generalize iu cur i j++kj cur i j=L at hne hle
  have hl:0<L.length:=by cases L with
   |nil=>exact absurd rfl hne
   |cons _ _=>simp
  have:=SW L hle
  rw[M.sv,ku]
  apply Nat.le_of_lt_succ
  apply ua
  rw[eJ,bE L.length]
  lia
theorem yQ (rf cur:Rd16.Pic) (i j:Nat) (K:Rd16.Kind):(bA rf cur i j K).length=256:=by
 cases K<;>simp[bA,xr,M.oS]
theorem MN (rf cur:Rd16.Pic) (i j:Nat) (K:Rd16.Kind):∀x∈bA rf cur i j K,x<=255:=λx hx=>by
 cases K with
 |same=>exact BY rf i j x hx
 |moved a b=>obtain⟨z,_,rfl⟩:=ay.mp hx;exact Rb _ _ _
 |flat=>rw[(mz.mp hx).2];exact Qt _ _ _
 |down=>obtain⟨z,_,rfl⟩:=ay.mp hx;exact M.jV _ _ _
 |across=>obtain⟨z,_,rfl⟩:=ay.mp hx;exact M.jV _ _ _
theorem Dw:Rd16.NONE.length=4/\(∀b∈Rd16.NONE,b.length=64)/\M.u7 Rd16.NONE:=by
 refine⟨rfl,λb hb=>?_,λb hb z hz=>?_⟩
 ·rw[(mz.mp hb).2];exact aP
 ·rw[(mz.mp hb).2]at hz;exact(mz.mp hz).2
theorem Ja {q:Nat} (L:List (List Int)) (hL:L.length=4) (Sf:∀l∈L,l.length=64/\∀z∈l,z.natAbs<=32767):((L.map λl=>cu l !=0)++(L.map bT).flatten).length<=20000:=by
 rw[aj,ah,hL]
 have:∀(M':List (List Int)),(∀l∈M',l.length=64/\∀z∈l,z.natAbs<=32767)->(M'.map bT).flatten.length<=M'.length*4000:=by
  intro M'
  induction M' with
  |nil=>intro _;simp
  |cons r M' ih=>
   intro h
   have h1:=ih λq hq=>h q (ai _ hq)
   have h2:=h r ae
   have h3:=oM h2.1 h2.2
   rw[bg,ck,aj,aJ,fk];lia
 have:=this L Sf
 rw[hL]at this
 lia
theorem lT {z:Int} (h1: -1000<z) (h2:z<1000):(eE z).length<=33:=by
 rw[M.o7]
 refine M.Hf _ ?_
 unfold M.Ou;split<;>lia
theorem AH (q:Nat) (hq:1<=q) (e o:List Nat):∀l∈cQ q e o,l.length=64/\∀z∈l,z.natAbs<=32767:=λl hl=>by
 obtain⟨h1,h2⟩:=(M.DC q e o).2 l hl
 refine⟨h1,λz hz=>dR (Nat.le_mul_of_pos_right _ hq) (h2 z hz)⟩
abbrev DV (C:Addr) (h:Rd16.Vec) (w:Rd16.Way):D:= .ins C ["vector","bits","square","cost"] [dH (dW w.square.kind),jk (w.square.bits h),dl (aD w.shows),.int (w.cost:Nat)]
def pE (rf:Rd16.Pic) (i j:Nat) (o:List Nat) (h:Rd16.Vec) (n:Nat):Rd16.Kind:=kindOf n (fL rf i j o h)
def iX (v:Rd16.Vec):Prop:= -15<=v.1/\v.1<=15/\-15<=v.2/\v.2<=15
def Wq (P S C:Addr) (ds:List D) (O:Os) (d:D):Prop:=∃(a:Addr) (q:Nat) (ref:Option Rd16.Pic) (cur rf:Rd16.Pic) (n i j:Nat) (h:Rd16.Vec) (o:List Nat),1<=q/\q<=64/\nJ cur i j/\(∀p,ref=some p->p=rf/\nJ p i j)/\n<=4/\jI ref.isNone n i j=true/\iX h/\o.length=256/\(∀x∈o,x<=255)/\
 ds=[d0 S q (fR P ref) (jT P a cur),dl (aD o),.int n,.int i,.int j,dH h]/\O=gb a cur/\d=DV C h (eF q rf cur i j h o (pE rf i j o h n))
theorem Pb (n:Nat) (s:Rd16.Vec):kindOf n s=kindOf n (if n=1 then s else (0,0)):=by
 by_cases e:n=1
 ·simp only[if_pos e]
 ·unfold kindOf;simp only[if_neg e]
theorem GU (n:Nat) (v:Rd16.Vec) (h:n≠1->v=(0,0)):dW (kindOf n v)=v:=by
 by_cases e:n=1
 ·subst e;rfl
 ·rw[h e];unfold kindOf;simp only[if_neg e];(repeat' split)<;>rfl
theorem NY (n:Nat) (v:Rd16.Vec) (h:n<=4):Rd16.number (kindOf n v)=n:=by
 have:n=0\/n=1\/n=2\/n=3\/n=4:=by lia
 rcases this with rfl|rfl|rfl|rfl|rfl<;>rfl
theorem Nz {W:dg} {P S C:Addr} (B:Bn W) (hS:iS W.K S) (n1:aM W.K S "before") (n2:aM W.K S "step") (g0:Gv W "AS_BEFORE" (.int 0)) (g1:Gv W "MOVED" (.int 1)) (T:dC W "way_of" "way_of" EB ["sheet","square","kind","i","j","hint"])
  (mW:jC W "Way" C 1 (E9 C ["vector","bits","square","cost"] VW)) (c1:ax W "number_bits" 2 (cv Qm)) (c2:ax W "find_vector" 5 (dS (NG P))) (c3:ax W "signed_bits" 3 (cv R7)) (c4:ax W "expected_square" 4 (Bl (Ut P S))) (c5:ax W "leftover_levels" 4 (cv R0)) (c6:ax W "shown_square" 4 (dS GC)) (c7:ax W "leftover_bits" 4 (cv B3)) (c8:ax W "way_cost" 1 (dS N0)):ax W "way_of" 6 (Hc (Wq P S C)):=by
 refine aQ (N:=["sheet","square","kind","i","j","hint","vector","bits","found","shown","levels"]) T (by walk_at "fs") (λds O k h=>?_) λX c ds O k h=>?_
 ·obtain⟨_,⟨_,_,_,_,_,_,_,_,_,_,_,_,_,_,_,_,_,_,_,rfl,_⟩,_⟩:=h;rfl
 ·obtain⟨xs,⟨a,q,ref,cur,rf,n,i,j,hv,o,q1,q2,ip,hrf,hn,p7,Pa,ho,AR,ji,hO,gY⟩,hk⟩:=h
  subst ji;subst hO
  rw[gY]at hk
  clear gY xs
  obtain⟨w1,w2,w3⟩:=ip.ok.w
  obtain⟨h1,h2,h3⟩:=ip.ok.h
  have ZL:=ip.hi
  have aaB:=ip.hj
  obtain⟨s1,s2,s3,s4⟩:=Pa
  generalize RO:(d0 S q (fR P ref) (jT P a cur))=sd
  generalize RZ:(if n=1 then fL rf i j o hv else (0,0))=v
  have W0:iX v:=by
   rw[<-RZ];split
   ·exact M.Ck rf i j o hv
   ·exact⟨by decide,by decide,by decide,by decide⟩
  obtain⟨v1,v2,v3,v4⟩:=W0
  have hK:pE rf i j o hv n=kindOf n v:=by
   unfold pE;rw[Pb,RZ]
  rw[hK]at hk
  have hvo:dW (kindOf n v)=v:=GU n v λe=>by rw[<-RZ,if_neg e]
  have WC:Rd16.number (kindOf n v)=n:=NY n v hn
  generalize OT:(dw n++(if n=1 then gI hv v else []))=b1
  have XA:=M.fD n (by lia)
  have ab6:b1.length<=100:=by
   rw[<-OT,aj]
   split
   ·unfold gI
    have:=lT (z:=v.1-hv.1) (by lia) (by lia)
    have:=lT (z:=v.2-hv.2) (by lia) (by lia)
    rw[aj];lia
   ·simp;lia
  change SV X [some sd,some (dl (aD o)),some (.int n),some (.int i),some (.int j),some (dH hv),none,none,none,none,none] (gb a cur) _ _ _
  refine' bK (d:=dH (0,0)) c ?hl ?he ?hp ?zh
  case hl=>decide+kernel
  case he=>
   walk_at "ec"
   rfl
  case hp=>walk_at "put"
  case zh=>
  refine' bK (d:=jk (dw n)) c ?hl (cD.pev (aV c c1 (by decide) ?zg ?za ⟨n,by lia,rfl,rfl⟩)) ?hp ?zh
  case hl=>decide+kernel
  case zg=>decide+kernel
  case za=>walk_at "es"
  case hp=>walk_at "put"
  case zh=>
  refine' wI (λρ1 O1=>ρ1=[some sd,some (dl (aD o)),some (.int n),some (.int i),some (.int j),some (dH hv),some (dH v),some (jk b1),none,none,none]/\O1=gb a cur) ?hc ?h1 ?h2 ?hj
  case hc=>walk_at "t"
  case h2=>
   intro hf
   have RC:¬n=1:=by have:=of_decide_eq_false hf;lia
   rw[if_neg RC]at RZ OT
   rw[br]at OT
   subst RZ;subst OT
   exact aL (Wk.refl _) ⟨rfl,rfl⟩
  case h1=>
   intro hf
   have RC:n=1:=by have:=of_decide_eq_true hf;lia
   rw[if_pos RC]at RZ OT
   have SS:=p7
   unfold jI at SS
   rw[if_pos (.inr RC)]at SS
   cases ref with
   |none=>simp at SS
   |some p=>
    obtain⟨rfl,FK⟩:=hrf p rfl
    subst RO
    obtain⟨u1,u2,u3⟩:=FK.ok.w
    obtain⟨u4,u5,u6⟩:=FK.ok.h
    have yR:=FK.hi
    have hj2:=FK.hj
    refine' bK (d:=tM (n9 p i j o hv v,v)) c ?hl (cI c c2 (by decide) ?zg ?za ⟨p,i,j,o,hv,FK.ok,by lia,by lia,by lia,rfl,by rw[RZ]⟩) ?hp ?zh
    case hl=>decide+kernel
    case zg=>decide+kernel
    case za=>
     refine' aa ?y1 (aa ?y2 (aa ?y3 (aa ?y4 (aa ?y5 az))))
     case y1=>
      clear RZ OT hk hK hvo WC
      refine' bq.cast (oQ c hS n1 ?nd ?en ?fl rfl) ?qe
      case en=>walk_at "n"
      case nd=>decide+kernel
      case fl=>walk_at "fl"
      case qe=>rfl
     case y2=>walk_at "n"
     case y3=>walk_at "n"
     case y4=>walk_at "n"
     case y5=>walk_at "n"
    case hp=>walk_at "put"
    case zh=>
    refine' bK (d:=dH v) c ?hl ?he ?hp ?zh
    case hl=>decide+kernel
    case he=>walk_at "e"
    case hp=>walk_at "put"
    case zh=>
    have YC:=lT (z:=v.1-hv.1) (by lia) (by lia)
    have RA:=lT (z:=v.2-hv.2) (by lia) (by lia)
    refine' bK (d:=jk b1) c ?hl (cD.pev (cD.cast (oV (cD.pev (oV ?e1 (cD.pev (aV c c3 (by decide) ?zg (aa ?za az) ⟨v.1-hv.1,by lia,by lia,rfl,rfl⟩)) ?hz)) (cD.pev (aV c c3 (by decide) ?wW (aa ?Po az) ⟨v.2-hv.2,by lia,by lia,rfl,rfl⟩)) ?Av) ?qq)) ?hp ?zh
    case hl=>decide+kernel
    case e1=>walk_at "n"
    case zg=>decide+kernel
    case za=>walk_at "e"
    case hz=>rw[bF,bF,M.bH,M.bH,af];lia
    case wW=>decide+kernel
    case Po=>walk_at "e"
    case Av=>rw[aj,bF,bF,bF,M.bH,M.bH,M.bH,af];lia
    case qq=>rw[<-OT];unfold gI;simp[M.gi,aY,bM]
    case hp=>walk_at "put"
    case zh=>
     refine' aL ?w ⟨rfl,rfl⟩
     case w=>walk_at "wk"
  case hj=>
  rintro ρ1 O1 ⟨rfl,rfl⟩
  subst RO
  generalize he:bA rf cur i j (kindOf n v)=e
  have gU:e.length=256:=by rw[<-he];exact yQ _ _ _ _ _
  have Jd:∀x∈e,x<=255:=by rw[<-he];exact MN _ _ _ _ _
  refine' bK (d:=dl (aD e)) c ?hl (cD.pev (lS (gb a cur) [] c c4 (by decide) ?zg ?za ⟨a,q,ref,cur,rf,n,i,j,v,ip,hrf,⟨v1,v2,v3,v4⟩,hn,p7,rfl,rfl,by rw[he]⟩)) ?hp ?zh
  case hl=>decide+kernel
  case zg=>decide+kernel
  case za=>walk_at "es"
  case hp=>walk_at "put"
  case zh=>
  generalize hw:eF q rf cur i j hv o (kindOf n v)=w at hk
  have XZ:w.square.kind=kindOf n v:=by rw[<-hw];rfl
  refine' wI (λρ1 O1=>ρ1=[some (d0 S q (fR P ref) (jT P a cur)),some (dl (aD o)),some (.int n),some (.int i),some (.int j),some (dH hv),some (dH v),some (jk (w.square.bits hv)),none,some (dl (aD w.shows)),none]/\O1=gb a cur/\w.cost=BH q (xt o w.shows) (w.square.bits hv).length/\(w.square.bits hv).length<=30000/\∀x∈w.shows,x<=255) ?hc ?h1 ?h2 ?hj
  case hc=>walk_at "t"
  case h2=>
   intro hf
   have Pr:n=0:=by simp at hf;lia
   have W6:kindOf n v= .same:=by unfold kindOf;rw[if_pos Pr]
   have hb:w.square.bits hv=b1:=by
    rw[<-OT,<-hw,W6,Pr];rfl
   have VA:w.shows=e:=by
    rw[W6]at he hw
    rw[<-hw]
    show gK q (bA rf cur i j .same) Rd16.NONE=e
    rw[he]
    exact M.ug q e Rd16.NONE gU Jd Dw.1 Dw.2.1 Dw.2.2
   rw[hb,VA]
   refine aL (Wk.refl _) ⟨rfl,rfl,?_,by lia,Jd⟩
   rw[<-hb,<-VA,<-hw];rfl
  case h1=>
   intro hf
   have Pr:¬n=0:=by simp at hf;lia
   have W6:kindOf n v≠.same:=by
    intro h;have:=WC;rw[h]at this;exact Pr this.symm
   have U9:w.square.levels=cQ q e o:=by
    rw[<-hw,<-he];unfold eF;simp only[W6,if_false]
   have VA:w.shows=gK q e (cQ q e o):=by
    rw[<-hw,<-he];unfold eF;simp only[W6,if_false]
   have lo:=M.DC q e o
   have ls:=AH q q1 e o
   have Nj:w.square.bits hv=b1++(((cQ q e o).map λl=>cu l !=0)++((cQ q e o).map bT).flatten):=by
    have hws:w.square=⟨kindOf n v,cQ q e o⟩:=by cases hq:w.square with|mk kd lv=>rw[hq]at XZ U9;cases XZ;cases U9;rfl
    rw[hws,<-OT]
    have:n=1\/n=2\/n=3\/n=4:=by lia
    rcases this with rfl|rfl|rfl|rfl
    ·rw[if_pos rfl,bM];rfl
    ·rw[if_neg (by decide),br];rfl
    ·rw[if_neg (by decide),br];rfl
    ·rw[if_neg (by decide),br];rfl
   have bl:=Ja (q:=q) (cQ q e o) lo.1 ls
   have LO:w.cost=BH q (xt o w.shows) (w.square.bits hv).length:=by rw[<-hw];rfl
   rw[LO]at*
   have IL:∀x∈w.shows,x<=255:=by rw[VA];exact M.Aa q e _
   rw[Nj,VA]
   rw[VA]at IL
   refine' bK (d:= .lst ((cQ q e o).map dl)) c ?hl (cD.pev (aV c c5 (by decide) ?zg ?za ⟨q,o,e,q1,q2,ho,gU,AR,Jd,rfl,rfl⟩)) ?hp ?zh
   case hl=>decide+kernel
   case zg=>decide+kernel
   case za=>walk_at "es"
   case hp=>walk_at "put"
   case zh=>
   refine' bK (d:=dl (aD (gK q e (cQ q e o)))) c ?hl (cI c c6 (by decide) ?zg ?za ⟨q,e,cQ q e o,q1,q2,gU,Jd,lo.1,lo.2,rfl,rfl⟩) ?hp ?zh
   case hl=>decide+kernel
   case zg=>decide+kernel
   case za=>walk_at "es"
   case hp=>walk_at "put"
   case zh=>
   refine' bK (d:=jk (b1++(((cQ q e o).map λl=>cu l !=0)++((cQ q e o).map bT).flatten))) c ?hl (cD.pev (cD.cast (oV ?e1 (cD.pev (aV c c7 (by decide) ?zg ?za ⟨cQ q e o,lo.1,ls,rfl,rfl⟩)) ?hz) ?qq)) ?hp ?zh
   case hl=>decide+kernel
   case e1=>walk_at "n"
   case zg=>decide+kernel
   case za=>walk_at "es"
   case hz=>rw[bF,bF,M.bH,M.bH,af];lia
   case qq=>rw[M.kB b1,aY]
   case hp=>walk_at "put"
   case zh=>
    refine' aL ?w ⟨rfl,rfl,rfl,?l,IL⟩
    case w=>walk_at "wk"
    case l=>rw[aj];lia
  case hj=>
  rintro ρ1 O1 ⟨rfl,rfl,LO,Lu,IL⟩
  have yV:k (.ins C ["vector","bits","square","cost"] [dH v,jk (w.square.bits hv),dl (aD w.shows),.int (w.cost:Nat)]) (gb a cur):=by
   have e:dW w.square.kind=v:=by rw[XZ,hvo]
   have this:k (.ins C ["vector","bits","square","cost"] [dH (dW w.square.kind),jk (w.square.bits hv),dl (aD w.shows),.int (w.cost:Nat)]) (gb a cur):=hk
   rw[e]at this
   exact this
  rw[LO]at yV
  refine' aT (bq.go (wc c mW (by decide) ?zg (aa ?a1 (aa ?a2 (aa ?a3 (aa (cI c c8 (by decide) ?wW (aa ?b1 (aa ?b2 (aa ?b3 (aa (bq.cast (kH c B ?O9 ?b4 rfl) ?qq) az)))) ⟨q,(w.square.bits hv).length,o,w.shows,q2,by lia,AR,IL,rfl,rfl⟩) az)))) ⟨_,_,_,_,rfl,rfl⟩) yV)
  case zg=>decide+kernel
  case wW=>decide+kernel
  case O9=>decide+kernel
  case a1=>walk_at "n"
  case a2=>walk_at "n"
  case a3=>walk_at "n"
  case b1=>walk_at "e"
  case b2=>walk_at "n"
  case b3=>walk_at "n"
  case b4=>walk_at "n"
  case qq=>rw[bF,M.bH]
def xD (b:Option Rd16.Way) (w:Rd16.Way):Option Rd16.Way:=match b with
 |none=>some w
 |some b=>if w.cost<b.cost then some w else some b
theorem HM (r:List Rd16.Way):∀b,r.foldl xD (some b)=some (Ee Rd16.Way.cost b r):=by
 induction r with
 |nil=>intro b;rfl
 |cons w r ih=>
  intro b
  rw[eM,Ee]
  show qd xD (if w.cost<b.cost then some w else some b) r=_
  split
  ·rw[ih]
  ·rw[ih]
section
variable (q:Nat) (key:Bool) (rf cur:Rd16.Pic) (i j:Nat) (h:Rd16.Vec) (o:List Nat)
def vv (n:Nat):List Rd16.Way:=((ar n).filter λn=>jI key n i j).map λn=>eF q rf cur i j h o (pE rf i j o h n)
theorem GS (n:Nat):vv q key rf cur i j h o (n+1)=vv q key rf cur i j h o n++(if jI key n i j=true then [eF q rf cur i j h o (pE rf i j o h n)]else []):=by
 unfold vv
 rw[qF,wq,aY]
 congr 1
 split
 ·rename_i e;rw[Ec (p:=λn=>jI key n i j) e];rfl
 ·rename_i e;rw[Ed (p:=λn=>jI key n i j) e];rfl
theorem G6:vv q key rf cur i j h o 5=(jK key rf i j h o).map (eF q rf cur i j h o):=by
 have e5:ar 5=[0,1,2,3,4]:=rfl
 unfold vv jK
 rw[e5]
 generalize hs:fL rf i j o h=s
 have k0:pE rf i j o h 0= .same:=rfl
 have k1:pE rf i j o h 1= .moved s.1 s.2:=by unfold pE;rw[hs];rfl
 have k2:pE rf i j o h 2= .flat:=rfl
 have k3:pE rf i j o h 3= .down:=rfl
 have k4:pE rf i j o h 4= .across:=rfl
 have m0:jI key 0 i j=!key:=rfl
 have m1:jI key 1 i j=!key:=rfl
 have m2:jI key 2 i j=true:=rfl
 have m3:jI key 3 i j=decide (0<j):=rfl
 have m4:jI key 4 i j=decide (0<i):=rfl
 simp only[OI,m0,m1,m2,m3,m4,List.filter_nil]
 have hj:(if j=0 then ([]:List Rd16.Kind)else [.down])=if decide (0<j)=true then [.down]else []:=by cases j<;>simp
 have hi:(if i=0 then ([]:List Rd16.Kind)else [.across])=if decide (0<i)=true then [.across]else []:=by cases i<;>simp
 rw[hj,hi]
 generalize decide (0<j)=bj
 generalize decide (0<i)=bi
 generalize eF q rf cur i j h o=f
 cases key<;>cases bj<;>cases bi<;>simp[k0,k1,k2,k3,k4]
theorem NR:(vv q key rf cur i j h o 5).foldl xD none=some (fj q key rf cur i j h o):=by
 rw[G6]
 unfold fj
 have hne:(jK key rf i j h o).map (eF q rf cur i j h o)≠[]:=by
  unfold jK;cases key<;>simp
 cases e:(jK key rf i j h o).map (eF q rf cur i j h o)with
 |nil=>exact absurd e hne
 |cons w r=>rw[eM];exact HM r w
end
def IP (P S C:Addr) (ds:List D) (O:Os) (d:D):Prop:=∃(a:Addr) (q:Nat) (ref:Option Rd16.Pic) (cur rf:Rd16.Pic) (i j:Nat) (h:Rd16.Vec) (o:List Nat),1<=q/\q<=64/\nJ cur i j/\(∀p,ref=some p->p=rf/\nJ p i j)/\iX h/\o.length=256/\(∀x∈o,x<=255)/\
 ds=[d0 S q (fR P ref) (jT P a cur),dl (aD o),.int i,.int j,dH h]/\O=gb a cur/\d=DV C h (fj q ref.isNone rf cur i j h o)
abbrev T5 (C:Addr) (h:Rd16.Vec):Option Rd16.Way->D
 |none=> .non
 |some w=>DV C h w
theorem Ah {W:dg} {P S C:Addr} (B:Bn W) (hC:iS W.K C) (n1:aM W.K C "cost") (T:dC W "cheapest_way" "cheapest_way" rV ["sheet","square","i","j","hint"]) (c1:ax W "may_be" 1 (dS (QJ P S))) (c2:ax W "way_of" 6 (Hc (Wq P S C))):ax W "cheapest_way" 7 (Hc (IP P S C)):=by
 refine aQ (N:=["sheet","square","i","j","hint","best","kind","way"]) T (by walk_at "fs") (λds O k h=>?_) λX c ds O k h=>?_
 ·obtain⟨_,⟨_,_,_,_,_,_,_,_,_,_,_,_,_,_,_,_,rfl,_⟩,_⟩:=h;rfl
 ·obtain⟨xs,⟨a,q,ref,cur,rf,i,j,hv,o,q1,q2,ip,hrf,Pa,ho,AR,ji,hO,gY⟩,hk⟩:=h
  subst ji;subst hO
  rw[gY]at hk
  clear gY xs
  have ce:=NR q ref.isNone rf cur i j hv o
  generalize fj q ref.isNone rf cur i j hv o=tH at ce hk
  change SV X [some (d0 S q (fR P ref) (jT P a cur)),some (dl (aD o)),some (.int i),some (.int j),some (dH hv),none,none,none] (gb a cur) _ _ _
  refine' bK (d:= .non) c ?hl se ?hp ?zh
  case hl=>decide+kernel
  case hp=>walk_at "put"
  case zh=>
  refine' gy (ds:=(ia 0 1 (5:Int).toNat).map .int) c ?hi (λn ρ1 O1=>ρ1=[some (d0 S q (fR P ref) (jT P a cur)),some (dl (aD o)),some (.int i),some (.int j),some (dH hv),some (T5 C hv ((vv q ref.isNone rf cur i j hv o n).foldl xD none)),none,none]/\O1=gb a cur) ⟨rfl,rfl⟩ ?step ?done
  case hi=>
   refine' iO (j:=5) c ?zg B.range bI (by lia) (by lia)
   case zg=>decide+kernel
  case done=>
   rintro ρ1 O1 ⟨rfl,rfl⟩
   rw[ah,ez]
   show SV X [_,_,_,_,_,some (T5 C hv ((vv q ref.isNone rf cur i j hv o 5).foldl xD none)),_,_] _ _ _ _
   rw[ce]
   refine aT (bq.go (d:=DV C hv tH) ?_ hk)
   walk_at "ec"
   rfl
  case step=>
   rintro n d ρ1 O1 hd ⟨rfl,rfl⟩
   obtain⟨hn,rfl⟩:=gf hd
   have hn5:n<5:=hn
   rw[GS,xq]
   generalize (vv q ref.isNone rf cur i j hv o n).foldl xD none=b
   refine⟨_,by walk_at "tg1",?_⟩
   have ek:D.int (0+(n:Int)*1)=D.int (n:Int):=congrArg D.int (by lia)
   rw[ek]
   refine' eQ (t:=jI ref.isNone n i j) (fV (cI c c1 (by decide) ?zg ?za ⟨q,ref,jT P a cur,n,i,j,rfl,rfl⟩) ?tv) ?h1 ?h2
   case zg=>decide+kernel
   case za=>walk_at "es"
   case tv=>intro _;rfl
   case h2=>
    intro hf
    rw[if_neg (by rw[hf];exact aw)]
    refine aL (Wk.refl _) ?_
    refine' aL ?w ⟨rfl,rfl⟩
    case w=>exact .same (.same (.same (.same (.same (.same (.drop (.drop .nil)))))))
   case h1=>
    intro hf
    rw[if_pos hf]
    generalize hw:eF q rf cur i j hv o (pE rf i j o hv n)=w
    refine' bK (d:=DV C hv w) c ?hl (w6 (gb a cur) [] c c2 (by decide) ?zg ?za ⟨a,q,ref,cur,rf,n,i,j,hv,o,q1,q2,ip,hrf,by lia,hf,Pa,ho,AR,rfl,rfl,by rw[hw]⟩) ?hp ?zh
    case hl=>decide+kernel
    case zg=>decide+kernel
    case za=>walk_at "es"
    case hp=>walk_at "put"
    case zh=>
    cases b with
    |none=>
     refine' eQ (t:=true) (FA.ptv (oH (x:=true) (y:=false) (nP.cast (lF ?e1) ?q1) (λh=>by cases h))) ?h1 ?h2
     case e1=>walk_at "n"
     case q1=>rfl
     case h2=>intro h;cases h
     case h1=>
      intro _
      refine' bK (d:=DV C hv w) c ?hl ?e1 ?hp ?zh
      case hl=>decide+kernel
      case e1=>walk_at "n"
      case hp=>walk_at "put"
      case zh=>
       refine aL (Wk.refl _) ?_
       refine aL (Wk.refl _) ?_
       refine' aL ?w ⟨rfl,rfl⟩
       case w=>exact .same (.same (.same (.same (.same (.same (.drop (.drop .nil)))))))
    |some b=>
     refine' eQ (t:=decide ((w.cost:Int)<(b.cost:Int))) (nP.cast (FA.ptv (oH (x:=false) (nP.cast (lF ?e1) ?q1) (λ_=>oK (Dh ?e2 ?e3)))) (Bool.false_or _)) ?h1 ?h2
     case e1=>walk_at "n"
     case q1=>rfl
     case e2=>walk_at "e"
     case e3=>
      refine' oQ c hC n1 ?nd (bq.cast (d:=T5 C hv (some b)) (d':=DV C hv b) ?en rfl) ?fl rfl
      case nd=>decide+kernel
      case en=>walk_at "n"
      case fl=>walk_at "fl"
     case h1=>
      intro jb
      have SQ:w.cost<b.cost:=by have:=of_decide_eq_true jb;lia
      refine' bK (d:=DV C hv w) c ?hl ?e1 ?hp ?zh
      case hl=>decide+kernel
      case e1=>walk_at "n"
      case hp=>walk_at "put"
      case zh=>
       refine aL (Wk.refl _) ?_
       refine aL (Wk.refl _) ?_
       have e:qd xD (some b) [w]=some w:=by show(if w.cost<b.cost then some w else some b)=_;rw[if_pos SQ]
       rw[e]
       refine' aL ?w ⟨rfl,rfl⟩
       case w=>exact .same (.same (.same (.same (.same (.same (.drop (.drop .nil)))))))
     case h2=>
      intro jb
      have SQ:¬w.cost<b.cost:=by have:=of_decide_eq_false jb;lia
      refine aL (Wk.refl _) ?_
      refine aL (Wk.refl _) ?_
      have e:qd xD (some b) [w]=some b:=by show(if w.cost<b.cost then some w else some b)=_;rw[if_neg SQ]
      rw[e]
      refine' aL ?w ⟨rfl,rfl⟩
      case w=>exact .same (.same (.same (.same (.same (.same (.drop (.drop .nil)))))))
structure R8 (h:Rd16.Vec) (w:Rd16.Way):Prop where
 bits:(w.square.bits h).length<=30000
 len:w.shows.length=256
 le:∀x∈w.shows,x<=255
 vec:iX (dW w.square.kind)
theorem MK {q:Nat} (hq:1<=q) (rf cur:Rd16.Pic) (i j:Nat) (h:Rd16.Vec) (o:List Nat) (hh:iX h) (K:Rd16.Kind) (hK:∀x y,K= .moved x y->iX (x,y)):R8 h (eF q rf cur i j h o K):=by
 have gU:=yQ rf cur i j K
 have bl:=Ja (q:=q) (cQ q (bA rf cur i j K) o) (M.DC q _ o).1 (AH q hq _ o)
 obtain⟨s1,s2,s3,s4⟩:=hh
 have U9:∀k:Rd16.Kind,k≠.same->(eF q rf cur i j h o k).square.levels=cQ q (bA rf cur i j k) o:=λk hk=>by unfold eF;simp only[hk,if_false]
 refine⟨?_,?_,?_,?_⟩
 ·cases K with
  |same=>show(dw 0++[]).length<=30000;decide
  |moved x y=>
   obtain⟨v1,v2,v3,v4⟩:=hK x y rfl
   have e:(eF q rf cur i j h o (.moved x y)).square.bits h=dw 1++(gI h (x,y)++(((cQ q (bA rf cur i j (.moved x y)) o).map λl=>cu l !=0)++((cQ q (bA rf cur i j (.moved x y)) o).map bT).flatten)):=by
    rw[<-U9 (.moved x y) (by simp)];rfl
   have a1:=lT (z:=x-h.1) (by simp only at v1 v2;lia) (by simp only at v1 v2;lia)
   have a2:=lT (z:=y-h.2) (by simp only at v3 v4;lia) (by simp only at v3 v4;lia)
   have a3:=M.fD 1 (by lia)
   have e2:(gI h (x,y)).length=(eE (x-h.1)).length+(eE (y-h.2)).length:=by unfold gI;rw[aj]
   rw[e,aj,aj,e2];lia
  |flat=>
   have e:(eF q rf cur i j h o .flat).square.bits h=dw 2++(((cQ q (bA rf cur i j .flat) o).map λl=>cu l !=0)++((cQ q (bA rf cur i j .flat) o).map bT).flatten):=by
    rw[<-U9 .flat (by simp)];rfl
   have a3:=M.fD 2 (by lia)
   rw[e,aj];lia
  |down=>
   have e:(eF q rf cur i j h o .down).square.bits h=dw 3++(((cQ q (bA rf cur i j .down) o).map λl=>cu l !=0)++((cQ q (bA rf cur i j .down) o).map bT).flatten):=by
    rw[<-U9 .down (by simp)];rfl
   have a3:=M.fD 3 (by lia)
   rw[e,aj];lia
  |across=>
   have e:(eF q rf cur i j h o .across).square.bits h=dw 4++(((cQ q (bA rf cur i j .across) o).map λl=>cu l !=0)++((cQ q (bA rf cur i j .across) o).map bT).flatten):=by
    rw[<-U9 .across (by simp)];rfl
   have a3:=M.fD 4 (by lia)
   rw[e,aj];lia
 ·exact M.B4 q _ _ gU
 ·exact M.Aa q _ _
 ·show iX (dW K)
  cases K with
  |moved x y=>exact hK x y rfl
  |same=>exact⟨by decide,by decide,by decide,by decide⟩
  |flat=>exact⟨by decide,by decide,by decide,by decide⟩
  |down=>exact⟨by decide,by decide,by decide,by decide⟩
  |across=>exact⟨by decide,by decide,by decide,by decide⟩
theorem ED (key:Bool) (rf:Rd16.Pic) (i j:Nat) (h:Rd16.Vec) (o:List Nat):∀K∈jK key rf i j h o,∀x y,K= .moved x y->iX (x,y):=λK hK x y e=>by
 subst e
 have si:=M.Ck rf i j o h
 unfold jK at hK
 generalize fL rf i j o h=s at hK si
 cases key
 ·simp only[cq,if_false,OL,lP,aB]at hK
  rcases hK with hK|hK|hK|hK
  ·cases hK
  ·cases hK;exact si
  ·cases hK
  ·rcases gq.mp hK with h'|h'
   ·split at h'<;>simp at h'
   ·split at h'<;>simp at h'
 ·simp only[if_true,lP,aB]at hK
  rcases hK with hK|hK
  ·cases hK
  ·rcases gq.mp hK with h'|h'
   ·split at h'<;>simp at h'
   ·split at h'<;>simp at h'
theorem xG {q:Nat} (hq:1<=q) (key:Bool) (rf cur:Rd16.Pic) (i j:Nat) (h:Rd16.Vec) (o:List Nat) (hh:iX h):R8 h (fj q key rf cur i j h o):=by
 have hmem:fj q key rf cur i j h o=eF q rf cur i j h o .flat\/fj q key rf cur i j h o∈(jK key rf i j h o).map (eF q rf cur i j h o):=by
  unfold fj
  cases e:(jK key rf i j h o).map (eF q rf cur i j h o)with
  |nil=>exact .inl rfl
  |cons w r=>
   rcases M.v7 Rd16.Way.cost r w with h'|h'
   ·right;simp only[h'];exact ae
   ·right;exact ai _ h'
 rcases hmem with e|e
 ·rw[e];exact MK hq rf cur i j h o hh .flat (λx y e=>by cases e)
 ·obtain⟨K,hK,e⟩:=ay.mp e
  rw[<-e];exact MK hq rf cur i j h o hh K (ED key rf i j h o K hK)
section
variable (q:Nat) (key:Bool) (rf op:Rd16.Pic) (e7:Rd16.Pic)
def Hh (k:Nat) (cur:Rd16.Pic) (p:Rd16.Vec):Rd16.Way:=fj q key rf cur (k%(op.wide/16)) (k/(op.wide/16)) (if k%(op.wide/16)=0 then (0,0)else p) (op.square (k%(op.wide/16)) (k/(op.wide/16)))
def tE:Nat->List Bool×Rd16.Pic×Rd16.Vec
 |0=>([],e7,(0,0))
 |k+1=>
  let s:=tE k
  let w:=Hh q key rf op k s.2.1 s.2.2
  (s.1++w.square.bits (if k%(op.wide/16)=0 then (0,0)else s.2.2),s.2.1.with_ (k%(op.wide/16)) (k/(op.wide/16)) w.shows,dW w.square.kind)
theorem uP:∀n k,(tE q key rf op e7 k).1++gW (op.wide/16) k (tE q key rf op e7 k).2.2 (gL q key rf op n k (tE q key rf op e7 k).2.2 (tE q key rf op e7 k).2.1).1=(tE q key rf op e7 (k+n)).1/\
  (gL q key rf op n k (tE q key rf op e7 k).2.2 (tE q key rf op e7 k).2.1).2=(tE q key rf op e7 (k+n)).2.1
 |0,k=>⟨by simp[gL,gW],rfl⟩
 |n+1,k=>by
  obtain⟨h1,h2⟩:=uP n (k+1)
  rw[show k+(n+1)=k+1+n by lia,<-h1,<-h2]
  refine⟨?_,rfl⟩
  rw[gL]
  simp only[gW]
  rw[<-bM]
  rfl
end
structure TOk (op:Rd16.Pic) (k:Nat) (s:List Bool×Rd16.Pic×Rd16.Vec):Prop where
 ok:M.fh s.2.1
 w:s.2.1.wide=op.wide
 h:s.2.1.high=op.high
 v:iX s.2.2
 b:s.1.length<=30000*k
theorem DM {q:Nat} (hq:1<=q) (key:Bool) (rf op e7:Rd16.Pic) (h0:M.fh e7) (hw:e7.wide=op.wide) (hh:e7.high=op.high):∀k,TOk op k (tE q key rf op e7 k)
 |0=>⟨h0,hw,hh,show iX (0,0)from ⟨by decide,by decide,by decide,by decide⟩,by simp[tE]⟩
 |k+1=>by
  obtain⟨o1,o2,o3,o4,o5⟩:=DM hq key rf op e7 h0 hw hh k
  have hv:iX (if k%(op.wide/16)=0 then (0,0)else (tE q key rf op e7 k).2.2):=by
   split
   ·exact⟨by decide,by decide,by decide,by decide⟩
   ·exact o4
  have wk:=xG hq key rf (tE q key rf op e7 k).2.1 (k%(op.wide/16)) (k/(op.wide/16)) _ (op.square (k%(op.wide/16)) (k/(op.wide/16))) hv
  refine⟨M.DU o1 _ _ _,o2,o3,wk.vec,?_⟩
  have:=wk.bits
  show((tE q key rf op e7 k).1++_).length<=_
  rw[aj]
  have e:((Hh q key rf op k (tE q key rf op e7 k).2.1 (tE q key rf op e7 k).2.2).square.bits (if k%(op.wide/16)=0 then (0,0)else (tE q key rf op e7 k).2.2)).length<=30000:=this
  lia
theorem NU {X:Cx} {ρ:dk} {x y:Addr×Ob} {m5:List Stmt} {kn:KR} {kr:KD} (h:SV X ρ [y,x] m5 kn kr):SV X ρ [x,y] m5 kn kr:=by
 refine SV.own h (λz hz=>?_) (λnd=>?_)
 ·rcases aB.mp hz with rfl|hz
  ·exact ai _ ae
  ·rcases aB.mp hz with rfl|hz
   ·exact ae
   ·cases hz
 ·have h1:x.1≠y.1:=λe=>(bc.mp nd).1 (by show x.1∈[y.1];rw[e];exact ae)
  refine bc.mpr ⟨λhm=>?_,bc.mpr ⟨by simp,List.nodup_nil⟩⟩
  rcases aB.mp hm with e|e
  ·exact h1 e.symm
  ·cases e
def MY (P S:Addr) (ds:List D) (O:Os) (k:KD):Prop:=∃(a:Addr) (q:Nat) (ref:Option Rd16.Pic) (rf op e7:Rd16.Pic),1<=q/\q<=64/\M.fh op/\M.fh e7/\e7.wide=op.wide/\e7.high=op.high/\(∀p,ref=some p->p=rf/\M.fh p/\p.wide=op.wide/\p.high=op.high)/\
 ds=[d0 S q (fR P ref) (jT P a e7),dl (M.iT op)]/\O=gb a e7/\
 ∀b,k (.ptr b) [(a,.lst ((M.iT (gL q ref.isNone rf op (op.wide/16*(op.high/16)) 0 (0,0) e7).2).map .int)),(b,.lst ((M.gi (ref.isNone::gW (op.wide/16) 0 (0,0) (gL q ref.isNone rf op (op.wide/16*(op.high/16)) 0 (0,0) e7).1)).map .int))]
theorem Ts {W:dg} {P S C:Addr} (B:Bn W) (hP:iS W.K P) (p1:aM W.K P "wide") (p2:aM W.K P "high") (hS:iS W.K S) (n1:aM W.K S "before") (n2:aM W.K S "shown") (hC:iS W.K C) (w1:aM W.K C "square") (w2:aM W.K C "bits") (w3:aM W.K C "vector") (gS:Gv W "SIDE" (.int 16)) (T:dC W "tell" "tell" Nl ["sheet","points"])
  (mP:jC W "Picture" P 1 (E9 P ["wide","high","points"] Mu)) (c1:ax W "cheapest_way" 7 (Hc (IP P S C))) (c2:ax W "cut_square" 3 (cv (G4 P))) (c3:ax W "lay_square" 3 (GV P)):ax W "tell" 8 (MY P S):=by
 refine aQ (N:=["sheet","points","picture","bits","j","hint","i","way"]) T (by walk_at "fs") (λds O k h=>?_) λX c ds O k h=>?_
 ·obtain⟨_,_,_,_,_,_,_,_,_,_,_,_,_,rfl,_⟩:=h;rfl
 ·obtain⟨a,q,ref,rf,op,e7,q1,q2,ok,ok0,Yz,hh0,hrf,ji,hO,hk⟩:=h
  subst ji;subst hO
  obtain⟨u1,u2,u3⟩:=ok.w
  obtain⟨u4,u5,u6⟩:=ok.h
  have ts:=uP q ref.isNone rf op e7 (op.wide/16*(op.high/16)) 0
  have tok:=DM q1 ref.isNone rf op e7 ok0 Yz hh0
  obtain⟨Zo,YL⟩:=ts
  have Ar:∀b,k (.ptr b) [(a,.lst ((M.iT (tE q ref.isNone rf op e7 (op.wide/16*(op.high/16))).2.1).map .int)),(b,.lst ((M.gi (ref.isNone::(tE q ref.isNone rf op e7 (op.wide/16*(op.high/16))).1)).map .int))]:=by
   intro b
   have:=hk b
   rw[ku]at Zo YL
   rw[<-Zo,<-YL]
   exact this
  clear hk Zo YL
  have D7:∀k,tE q ref.isNone rf op e7 (k+1)=((tE q ref.isNone rf op e7 k).1++(Hh q ref.isNone rf op k (tE q ref.isNone rf op e7 k).2.1 (tE q ref.isNone rf op e7 k).2.2).square.bits (if k%(op.wide/16)=0 then (0,0)else (tE q ref.isNone rf op e7 k).2.2),(tE q ref.isNone rf op e7 k).2.1.with_ (k%(op.wide/16)) (k/(op.wide/16)) (Hh q ref.isNone rf op k (tE q ref.isNone rf op e7 k).2.1 (tE q ref.isNone rf op e7 k).2.2).shows,dW (Hh q ref.isNone rf op k (tE q ref.isNone rf op e7 k).2.1 (tE q ref.isNone rf op e7 k).2.2).square.kind):=λk=>rfl
  have ZQ:(tE q ref.isNone rf op e7 0)=([],e7,(0,0)):=rfl
  generalize tE q ref.isNone rf op e7=st at Ar tok D7 ZQ
  generalize hA:op.wide/16=A at D7 Ar
  have Zk:0<A:=by lia
  have X3:A<=16:=by lia
  change SV X [some (d0 S q (fR P ref) (jT P a e7)),some (dl (M.iT op)),none,none,none,none,none,none] (gb a e7) _ _ _
  refine' bK (d:=kx P op) c ?hl (bq.cast (wc c mP (by decide) ?zg (aa ?y1 (aa ?y2 (aa ?y3 az))) ⟨.int op.wide,.int op.high,dl (M.iT op),rfl,rfl⟩) rfl) ?hp ?zh
  case hl=>decide+kernel
  case zg=>decide+kernel
  case y1=>
   walk_at "ec"
   rw[Yz]
  case y2=>
   walk_at "ec"
   rw[hh0]
  case y3=>walk_at "n"
  case hp=>walk_at "put"
  case zh=>
  refine' gk (ds:=(M.gi (ref.isNone::(st 0).1)).map .int) (λb=>[some (d0 S q (fR P ref) (jT P a e7)),some (dl (M.iT op)),some (kx P op),some (.ptr b),none,none,none,none]) c ?hl (cD.cast (dP (aa (wF (lF ?y1) (λ_=>bI) (λ_=>bI)) az) ?z) ?qq) ?hx ?zh ?hs
  case hl=>decide+kernel
  case y1=>walk_at "e"
  case z=>show 1<=sizeLine;rw[af];decide
  case qq=>rw[ZQ,jB];cases ref<;>rfl
  case hx=>intro q;walk_at "put"
  case hs=>rfl
  case zh=>
  intro b
  have Er:jT P a e7=l5 P op.wide op.high (.ptr a):=by show l5 P e7.wide e7.high (.ptr a)=_;rw[Yz,hh0]
  rw[Er]
  generalize RO:(d0 S q (fR P ref) (l5 P op.wide op.high (.ptr a)))=sd
  have fO:∀k,TOk op k (st k):=tok
  refine NU ?_
  have eo:(a,Ob.lst ((M.iT e7).map D.int))=(a,Ob.lst ((M.iT (st 0).2.1).map D.int)):=by rw[ZQ]
  rw[eo]
  have hB:∀j i,j<op.high/16->i<A->(A*j+i)%A=i/\(A*j+i)/A=j:=λj i _ hi=>⟨by rw[A3,zf hi],by rw[A0 Zk,pX hi,xW]⟩
  refine' gy (ds:=(ia 0 1 ((op.high:Int)/16).toNat).map .int) c ?hi (λj ρ1 O1=>ρ1=[some sd,some (dl (M.iT op)),some (kx P op),some (.ptr b),none,none,none,none]/\O1=[(a,.lst ((M.iT (st (A*j)).2.1).map .int)),(b,.lst ((M.gi (ref.isNone::(st (A*j)).1)).map .int))]) ?h0 ?step ?done
  case hi=>
   refine' iO (j:=(op.high:Int)/16) c ?zg B.range ?ye (by lia) (by lia)
   case zg=>decide+kernel
   case ye=>walk_at "e"
  case h0=>exact⟨rfl,rfl⟩
  case done=>
   rintro ρ1 O1 ⟨rfl,rfl⟩
   rw[ah,ez,show((op.high:Int)/16).toNat=op.high/16 by lia]
   exact aT (bq.go (d:= .ptr b) (by walk_at "n") (Ar b))
  case step=>
  rintro j d ρ1 O1 hd ⟨rfl,rfl⟩
  obtain⟨hj,rfl⟩:=gf hd
  have XJ:j<op.high/16:=by lia
  refine⟨_,by walk_at "tg1",?_⟩
  have ej:D.int (0+(j:Int)*1)=D.int (j:Int):=congrArg D.int (by lia)
  rw[ej]
  refine' bK (d:=dH (0,0)) c ?hl ?he ?hp ?zh
  case hl=>decide+kernel
  case he=>
   walk_at "ec"
   rfl
  case hp=>walk_at "put"
  case zh=>
  refine' gy (ds:=(ia 0 1 ((op.wide:Int)/16).toNat).map .int) c ?hi (λi ρ1 O1=>ρ1=[some sd,some (dl (M.iT op)),some (kx P op),some (.ptr b),some (.int j),some (dH (if i=0 then (0,0)else (st (A*j+i)).2.2)),none,none]/\O1=[(a,.lst ((M.iT (st (A*j+i)).2.1).map .int)),(b,.lst ((M.gi (ref.isNone::(st (A*j+i)).1)).map .int))]) ?h0 ?step ?done
  case hi=>
   refine' iO (j:=(op.wide:Int)/16) c ?zg B.range ?ye (by lia) (by lia)
   case zg=>decide+kernel
   case ye=>walk_at "e"
  case h0=>exact⟨rfl,rfl⟩
  case done=>
   rintro ρ1 O1 ⟨rfl,rfl⟩
   rw[ah,ez,show((op.wide:Int)/16).toNat=A by lia]
   refine' aL ?w ⟨rfl,by rw[eJ]⟩
   case w=>walk_at "wk"
  case step=>
  rintro i d ρ1 O1 hd ⟨rfl,rfl⟩
  obtain⟨hi,rfl⟩:=gf hd
  have Ly:i<A:=by lia
  obtain⟨m1,m2⟩:=hB j i XJ Ly
  have s1:=D7 (A*j+i)
  rw[m1,m2]at s1
  obtain⟨k1,k2,k3,k4,k5⟩:=tok (A*j+i)
  generalize Wx:(if i=0 then ((0:Int),(0:Int))else (st (A*j+i)).2.2)=hv at s1
  have W0:iX hv:=by rw[<-Wx];split;exact⟨by decide,by decide,by decide,by decide⟩;exact k4
  have hwq:Hh q ref.isNone rf op (A*j+i) (st (A*j+i)).2.1 (st (A*j+i)).2.2=fj q ref.isNone rf (st (A*j+i)).2.1 i j hv (op.square i j):=by
   unfold Hh;rw[hA,m1,m2,Wx]
  rw[hwq]at s1
  have XR:=xG q1 ref.isNone rf (st (A*j+i)).2.1 i j hv (op.square i j) W0
  generalize aap:fj q ref.isNone rf (st (A*j+i)).2.1 i j hv (op.square i j)=tH at s1 XR
  have e1:(st (A*j+i+1)).1=(st (A*j+i)).1++tH.square.bits hv:=by rw[s1]
  have e2:(st (A*j+i+1)).2.1=(st (A*j+i)).2.1.with_ i j tH.shows:=by rw[s1]
  have e3:(st (A*j+i+1)).2.2=dW tH.square.kind:=by rw[s1]
  rw[<-lA,e1,e2,e3]
  clear s1 e1 e2 e3 hwq
  generalize st (A*j+i)=sk at*
  have kb:A*j+i<=256:=by
   have:A*j<=16*15:=cX X3 (by lia)
   lia
  refine⟨_,by walk_at "tg1",?_⟩
  have ei:D.int (0+(i:Int)*1)=D.int (i:Int):=congrArg D.int (by lia)
  rw[ei]
  have sqe:=M.Cn ok i j (by lia) (by lia)
  have Yh:(op.square i j).length=256:=by simp[xr,M.oS]
  have Vc:sd=d0 S q (fR P ref) (jT P a sk.2.1):=by rw[<-RO,jT,k2,k3]
  have YV:nJ sk.2.1 i j:=⟨k1,by rw[k2];lia,by rw[k3];lia⟩
  refine' bK (d:=DV C hv tH) c ?hl (w6 (gb a sk.2.1) [(b,.lst ((M.gi (ref.isNone::sk.1)).map .int))] c c1 (by decide) ?zg (aa ?y1 (aa (bq.cast (cD.pev (aV c c2 (by decide) ?wW ?y2 ⟨op.wide,op.high,i,j,M.iT op,by lia,by lia,by lia,by lia,rfl,rfl⟩)) (by rw[sqe])) (aa ?y3 (aa ?y4 (aa ?y5 az))))) ⟨a,q,ref,sk.2.1,rf,i,j,hv,op.square i j,q1,q2,YV,(λp hp=>⟨(hrf p hp).1,(hrf p hp).2.1,by rw[(hrf p hp).2.2.1];lia,by rw[(hrf p hp).2.2.2];lia⟩),W0,Yh,BY op i j,rfl,rfl,by rw[aap]⟩) ?hp ?zh
  case hl=>decide+kernel
  case zg=>decide+kernel
  case y1=>
   rw[<-Vc]
   walk_at "n"
  case wW=>decide+kernel
  case y2=>walk_at "es"
  case y3=>walk_at "n"
  case y4=>walk_at "n"
  case y5=>walk_at "n"
  case hp=>walk_at "put"
  case zh=>
  have wl:(aD tH.shows).length=256:=by rw[ib];exact XR.len
  have pl:(M.iT sk.2.1).length=op.wide*op.high:=by rw[M.jq,k1.len,k2,k3]
  have we:=M.Jq k1 i j (by rw[k2];lia) (by rw[k3];lia) tH.shows XR.le
  rw[k2]at we
  refine' fE (jU c c3 (by decide) ?zg (ir.go (aa ?y1 (aa ?y2 (aa ?y3 (aa ?y4 az)))) ⟨[(a,.lst ((M.iT sk.2.1).map .int))],[(b,.lst ((M.gi (ref.isNone::sk.1)).map .int))],rfl,a,op.wide,op.high,i,j,M.iT sk.2.1,aD tH.shows,by lia,by lia,pl,by lia,by lia,wl,rfl,rfl,?zk⟩))
  case zg=>decide+kernel
  case y1=>
   subst RO
   walk_at "e"
  case y2=>walk_at "n"
  case y3=>walk_at "n"
  case y4=>walk_at "e"
  case zk=>
  show SV X _ [(a,.lst ((M.oa (M.iT sk.2.1) op.wide (16*i) (16*j) 16 (aD tH.shows) 16).map .int)),(b,.lst ((M.gi (ref.isNone::sk.1)).map .int))] _ _ _
  rw[we]
  have wb:=XR.bits
  refine' fE (gQ (q:=b) ?ho ⟨_,ai _ ae⟩ (bq.go (d:=jk (tH.square.bits hv)) ?he ⟨_,(M.gi (tH.square.bits hv)).map .int,_,rfl,.there .here,?hz,?hk⟩))
  case ho=>walk_at "n"
  case he=>walk_at "e"
  case hz=>
   rw[bF,bF,M.bH,M.bH,aJ,af]
   have:30000*(A*j+i)<=30000*256:=b6 _ kb
   lia
  case hk=>
  refine' bK (d:=dH (dW tH.square.kind)) c ?hl ?he ?hp ?zh
  case hl=>decide+kernel
  case he=>walk_at "e"
  case hp=>walk_at "put"
  case zh=>
   rw[if_neg (OY i)]
   refine' aL ?w ⟨rfl,?qq⟩
   case w=>walk_at "wk"
   case qq=>simp[M.gi,aY]
theorem Hj:(1:Nat)<=sizeLine:=by rw[af];decide
theorem pH {X:Cx} {ρ:dk} {O:Os} {p1 p2 p3:Pos} {j}:cD X ρ O (.List [.UnaryOp .USub (.Constant (.int 1) j p1) p2] p3) [.int (-1)]:=dP (aa (yK bI) az) Hj
theorem Hq {X:Cx} {ρ:dk} {O:Os} {p1 p3:Pos} {j}:cD X ρ O (.List [.Constant (.int 0) j p1] p3) [.int 0]:=dP (aa bI az) Hj
theorem xK {X:Cx} {ρ:dk} {O:Os} {p1 p3 p4:Pos} {j} {b:aS} {l:List Int} (hb:bq X ρ O b (dl l)) (hl:l.length<2^23):cD X ρ O (.BinOp (.List [.Constant (.int 0) j p1] p3) .Add b p4) (((0:Int)::l).map .int):=
 oV (cD.pev Hq) hb (by rw[bF,af];show 1+_<=_;lia)
def Ky (f:List Int->List Int) (ds:List D) (xs:List D):Prop:=∃b:List Int,b.length=64/\(∀z∈b,M.rH z)/\ds=[dl b]/\xs=(0::f b).map .int
theorem wG {W:dg} (T:dC W "answer_forward" "answer_forward" nY ["block"]) (c1:ax W "forward" 3 (cv (tG jg))):ax W "answer_forward" 4 (cv (Ky jg)):=by
 refine aQ (N:=["block"]) T (by walk_at "fs") (λds O k h=>?_) λX c ds O k h=>?_
 ·obtain⟨_,_,⟨_,_,_,rfl,_⟩,_⟩:=h;rfl
 ·obtain⟨rfl,xs,⟨b,hl,hb,ji,gY⟩,hk⟩:=h
  subst ji
  rw[gY]at hk
  clear gY xs
  have fw:=M.GW hl hb
  change SV X [some (dl b)] [] _ _ _
  refine' aT (EV.own_k (xK (cD.pev (aV c c1 (by decide) ?zg ?za ⟨b,hl,hb,rfl,rfl⟩)) (by rw[fw.2.1];decide)) hk)
  case zg=>decide+kernel
  case za=>walk_at "es"
theorem vn {W:dg} (T:dC W "answer_backward" "answer_backward" mU ["block"]) (c1:ax W "backward" 3 (cv (tG eD))):ax W "answer_backward" 4 (cv (Ky eD)):=by
 refine aQ (N:=["block"]) T (by walk_at "fs") (λds O k h=>?_) λX c ds O k h=>?_
 ·obtain⟨_,_,⟨_,_,_,rfl,_⟩,_⟩:=h;rfl
 ·obtain⟨rfl,xs,⟨b,hl,hb,ji,gY⟩,hk⟩:=h
  subst ji
  rw[gY]at hk
  clear gY xs
  have fw:=M.HF hl hb
  change SV X [some (dl b)] [] _ _ _
  refine' aT (EV.own_k (xK (cD.pev (aV c c1 (by decide) ?zg ?za ⟨b,hl,hb,rfl,rfl⟩)) (by rw[fw.2.1];decide)) hk)
  case zg=>decide+kernel
  case za=>walk_at "es"
def kS (ok:Bool) (l:List Int):List Int:=if ok=true then 0::l else [-1]
def LS (ds:List D) (xs:List D):Prop:=∃(q:Int) (b:List Int),b.length=64/\ds=[.int q,dl b]/\xs=(kS (bD q) (ny q.toNat b)).map .int
theorem lZ {q:Int} (h:bD q=true):∃n:Nat,q=n/\1<=n/\n<=64:=by
 unfold bD at h
 simp only[aH,decide_eq_true_eq]at h
 exact⟨q.toNat,by omega,by omega,by omega⟩
theorem o6 {q:Int} (h:bp q=true):∃n:Nat,q=n/\16<=n/\n<=256/\n%16=0:=by
 unfold bp at h
 simp only[aH,decide_eq_true_eq]at h
 exact⟨q.toNat,by omega,by omega,by omega,by omega⟩
theorem ym {W:dg} (T:dC W "answer_levels" "answer_levels" pD ["step","block"]) (c1:ax W "is_step" 1 (dS yL)) (c2:ax W "levels_of" 2 (cv Dm)):ax W "answer_levels" 3 (cv LS):=by
 refine aQ (N:=["step","block"]) T (by walk_at "fs") (λds O k h=>?_) λX c ds O k h=>?_
 ·obtain⟨_,_,⟨_,_,_,rfl,_⟩,_⟩:=h;rfl
 ·obtain⟨rfl,xs,⟨q,b,hl,ji,gY⟩,hk⟩:=h
  subst ji
  rw[gY]at hk
  clear gY xs
  change SV X [some (.int q),some (dl b)] [] _ _ _
  refine' eQ (t:=!bD q) (kO (fV (cI c c1 (by decide) ?zg ?za ⟨q,rfl,rfl⟩) ?tv)) ?h1 ?h2
  case zg=>decide+kernel
  case za=>walk_at "es"
  case tv=>intro _;rfl
  case h1=>
   intro hf
   have:bD q=false:=by simpa using hf
   unfold kS at hk
   rw[this,if_neg aw]at hk
   exact aT (EV.own_k pH hk)
  case h2=>
   intro hf
   have hs:bD q=true:=by simpa using hf
   unfold kS at hk
   rw[if_pos hs]at hk
   obtain⟨n,rfl,n1,n2⟩:=lZ hs
   refine aL (Wk.refl _) ?_
   refine' aT (EV.own_k (xK (cD.pev (aV c c2 (by decide) ?zg ?za ⟨n,b,n1,n2,hl,rfl,rfl⟩)) (by rw[M.zC];decide)) hk)
   case zg=>decide+kernel
   case za=>walk_at "es"
def w8 (q:Int) (l:List Int):Bool:=bD q&&l.all λx=>decide (x.natAbs*q.toNat<=32767)
def M3 (ds:List D) (xs:List D):Prop:=∃(q:Int) (l:List Int),l.length=64/\(∀z∈l,M.rH z)/\ds=[.int q,dl l]/\xs=(kS (w8 q l) (i6 q.toNat l)).map .int
theorem yf {W:dg} (B:Bn W) (gG:Gv W "GREATEST" (.int 32767)) (T:dC W "answer_values" "answer_values" pN ["step","levels"]) (c1:ax W "is_step" 1 (dS yL)) (c2:ax W "values_of" 1 (cv Di)):ax W "answer_values" 2 (cv M3):=by
 refine aQ (N:=["step","levels","level"]) T (by walk_at "fs") (λds O k h=>?_) λX c ds O k h=>?_
 ·obtain⟨_,_,⟨_,_,_,_,rfl,_⟩,_⟩:=h;rfl
 ·obtain⟨rfl,xs,⟨q,l,hl,hb,ji,gY⟩,hk⟩:=h
  subst ji
  rw[gY]at hk
  clear gY xs
  change SV X [some (.int q),some (dl l),none] [] _ _ _
  refine' eQ (t:=!bD q||(l.map λx=>decide (32767<(if x<0 then -x else x)*q)).any id) (FA.ptv (oH (kO (fV (cI c c1 (by decide) ?zg ?za ⟨q,rfl,rfl⟩) ?tv)) λ_=>oK (fV (E6 c B ?wW (cD.pev (cD.cast (ds:=?BS) ?eU ?qU)) rfl) ?tv2))) ?h1 ?h2
  case zg=>decide+kernel
  case za=>walk_at "es"
  case tv=>intro _;rfl
  case wW=>decide+kernel
  case tv2=>intro _;rfl
  case eU=>
   refine' fP ["level"] [2] (l:=l) (enc:=D.int) (g:=λx=>D.bl (decide (32767<(if x<0 then -x else x)*q))) c (fe ?hi) ?ok ?ho ?hz ?wp ?gU
   case hi=>walk_at "n"
   case ok=>decide+kernel
   case ho=>decide+kernel
   case hz=>rw[hl,af];decide
   case wp=>walk_at "wp"
   case gU=>
    intro x hx
    have:=hb x hx
    unfold M.rH at this
    refine⟨_,λY cY=>⟨by walk_at "tg1",?_⟩⟩
    refine' OC (lH ?e1 ?e2 ?cm) ?e3
    case e1=>walk_at "e"
    case e2=>walk_at "n"
    case cm=>left;split<;>constructor<;>lia
    case e3=>walk_at "e"
  case qU=>rw[aF];rfl
  case h1=>
   intro hf
   have:w8 q l=false:=by
    unfold w8
    cases hs:bD q with
    |false=>rfl
    |true=>
     obtain⟨n,rfl,n1,n2⟩:=lZ hs
     rw[hs,D3,Bool.false_or]at hf
     rw[fM]
     obtain⟨z,hz,Av⟩:=pb.mp hf
     obtain⟨x,hx,rfl⟩:=ay.mp hz
     rw[List.all_eq_false]
     refine⟨x,hx,?_⟩
     have h3:=of_decide_eq_true Av
     simp only[bC,decide_eq_true_eq]
     intro h4
     have e:(if x<0 then -x else x)=(x.natAbs:Int):=by split<;>lia
     rw[e]at h3
     have:((x.natAbs*n:Nat):Int)=(x.natAbs:Int)*(n:Int):=by push_cast;rfl
     lia
   unfold kS at hk
   rw[this,if_neg aw]at hk
   exact aT (EV.own_k pH hk)
  case h2=>
   intro hf
   rw[eh]at hf
   have hs:bD q=true:=by simpa using hf.1
   obtain⟨n,rfl,n1,n2⟩:=lZ hs
   have:w8 (n:Int) l=true:=by
    unfold w8
    rw[hs,fM,o9]
    intro x hx
    have h3:decide (32767<(if x<0 then -x else x)*(n:Int))=false:=by
     cases hd:decide (32767<(if x<0 then -x else x)*(n:Int))with
     |false=>rfl
     |true=>
      have:(l.map λx=>decide (32767<(if x<0 then -x else x)*(n:Int))).any id=true:=pb.mpr ⟨true,ay.mpr ⟨x,hx,hd⟩,rfl⟩
      rw[this]at hf;cases hf.2
    have h3:=of_decide_eq_false h3
    simp only[bC,decide_eq_true_eq]
    have e:(if x<0 then -x else x)=(x.natAbs:Int):=by split<;>lia
    rw[e]at h3
    have:((x.natAbs*n:Nat):Int)=(x.natAbs:Int)*(n:Int):=by push_cast;rfl
    lia
   unfold kS at hk
   rw[if_pos this]at hk
   refine aL (Wk.refl _) ?_
   refine' aT (EV.own_k (xK (cD.pev (aV c c2 (by decide) ?zg ?za ⟨n,l,n2,hl,rfl,rfl⟩)) (by rw[M.ue];decide)) hk)
   case zg=>decide+kernel
   case za=>walk_at "es"
def Uh (ds:List D) (xs:List D):Prop:=∃(w h q:Int) (b:df),(bp w=true->bp h=true->(b.length:Int)=w*h)/\ds=[.int w,.int h,.int q,dl (Rd16.ints b)]/\xs=(kS (bp w&&(bp h&&bD q)) (Rd16.ints (i7 q.toNat ⟨w.toNat,h.toNat,b⟩).points)).map .int
theorem yx {W:dg} {P:Addr} (hC:iS W.K P) (n1:aM W.K P "points") (T:dC W "answer_smooth" "answer_smooth" pP ["wide","high","step","points"]) (mP:jC W "Picture" P 1 (E9 P ["wide","high","points"] Mu)) (c1:ax W "are_sizes_and_step" 2 (dS Gz)) (c2:ax W "smoothed" 4 (dS (yS P))):ax W "answer_smooth" 5 (cv Uh):=by
 refine aQ (N:=["wide","high","step","points"]) T (by walk_at "fs") (λds O k h=>?_) λX c ds O k h=>?_
 ·obtain⟨_,_,⟨_,_,_,_,_,rfl,_⟩,_⟩:=h;rfl
 ·obtain⟨rfl,xs,⟨w,h,q,b,hl,ji,gY⟩,hk⟩:=h
  subst ji
  rw[gY]at hk
  clear gY xs
  unfold kS at hk
  change SV X [some (.int w),some (.int h),some (.int q),some (dl (Rd16.ints b))] [] _ _ _
  refine' eQ (t:=!(bp w&&(bp h&&bD q))) (kO (fV (cI c c1 (by decide) ?zg ?za ⟨w,h,q,rfl,rfl⟩) ?tv)) ?h1 ?h2
  case zg=>decide+kernel
  case za=>walk_at "es"
  case tv=>intro _;rfl
  case h1=>
   intro hf
   have:(bp w&&(bp h&&bD q))=false:=by revert hf;generalize (bp w&&(bp h&&bD q))=X;cases X<;>simp
   rw[this,if_neg aw]at hk
   exact aT (EV.own_k pH hk)
  case h2=>
   intro hf
   have hs:(bp w&&(bp h&&bD q))=true:=by revert hf;generalize (bp w&&(bp h&&bD q))=X;cases X<;>simp
   rw[if_pos hs]at hk
   simp only[aH]at hs
   obtain⟨h1,h2,h3⟩:=hs
   have Lu:=hl h1 h2
   obtain⟨w',rfl,a1,a2,a3⟩:=o6 h1
   obtain⟨h',rfl,b1,b2,b3⟩:=o6 h2
   obtain⟨q',rfl,d1,d2⟩:=lZ h3
   have YQ:b.length=w'*h':=by exact_mod_cast Lu
   simp only[bC]at hk
   have ok:M.fh ⟨w',h',b⟩:=⟨YQ,⟨a1,a2,a3⟩,⟨b1,b2,b3⟩⟩
   have Q3:=M.xf ok q'
   have Vl:w'*h'<=256*256:=cX a2 b2
   refine aL (Wk.refl _) ?_
   refine' aT (EV.own_k (xK (l:=M.iT (i7 q' ⟨w',h',b⟩)) (oQ c hC n1 ?nd (cI c c2 (by decide) ?zg (aa (wc c mP (by decide) ?wW (aa ?y1 (aa ?y2 (aa ?y3 az))) ⟨_,_,_,rfl,rfl⟩) (aa ?y4 az)) ⟨q',⟨w',h',b⟩,d1,d2,ok,rfl,rfl⟩) ?fl rfl) ?len) hk)
   case zg=>decide+kernel
   case wW=>decide+kernel
   case y1=>walk_at "n"
   case y2=>walk_at "n"
   case y3=>
    walk_at "ec"
    rfl
   case y4=>walk_at "n"
   case nd=>decide+kernel
   case fl=>exact .there (.there .here)
   case len=>rw[M.jq,Q3.len];show w'*h'<_;omega
theorem iH {W:dg} {C:Addr} {x qual:Str} {st:Stmt} {ps N:List Str} {m:Nat} {Ct:tw} (T:jH W C x qual st ps) (S:jS N ps (bQ st)) (len:∀ds O k,Ct ds O k->ds.length=ps.length)
  (body:∀X,eZ W X N (bQ st) m true->∀ds O k,Ct ds O k->SV X (pO N ds) O (fo st) (λ_ O'=>k .non O') k):dM W C x (m+1) Ct:=by
 obtain⟨f,fd,hF,hM,hb⟩:=T.ex
 exact⟨f,fd,ps,Ju hF S len body,hM,hb⟩
abbrev PU (CC P:Addr) (w h q:Nat) (pic:Option Rd16.Pic):Ob:= .ins CC ["wide","high","step","before"] [.int w,.int h,.int q,fR P pic]
abbrev eu (CC P a:Addr) (w h q:Nat) (pic:Option Rd16.Pic):Os:=[(a,PU CC P w h q pic)]
def Mj (CC:Addr):tw:=λds O k=>∃a,ds=[.ptr a]/\O=[(a,.ins CC [] [])]/\k .non [(a,.ins CC ["wide","high","step","before"] [.int 0,.int 0,.int 0,.non])]
theorem Qq {W:dg} {CC:Addr} (hC:iS W.K CC) (n1:aM W.K CC "wide") (n2:aM W.K CC "high") (n3:aM W.K CC "step") (n4:aM W.K CC "before") (T:pK W "Codec" CC "Codec.__init__" vA ["self"]):jC W "Codec" CC 1 (Mj CC):=by
 refine rQ (N:=["self"]) T (by walk_at "fs") (λds O k h=>?_) λX c ds O k h=>?_
 ·obtain⟨_,rfl,_⟩:=h;rfl
 ·obtain⟨q,rfl,rfl,hk⟩:=h
  change SV X [some (.ptr q)] _ _ _ _
  refine' gx (q:=q) c hC n1 bI ?e2 .here .nil (by decide) ?zh
  case e2=>walk_at "n"
  case zh=>
  refine' gx (q:=q) c hC n2 bI ?e2 .here (.there (by decide) .nil) (by decide) ?zh
  case e2=>walk_at "n"
  case zh=>
  refine' gx (q:=q) c hC n3 bI ?e2 .here (.there (by decide) (.there (by decide) .nil)) (by decide) ?zh
  case e2=>walk_at "n"
  case zh=>
  refine' gx (q:=q) c hC n4 se ?e2 .here (.there (by decide) (.there (by decide) (.there (by decide) .nil))) (by decide) ?zh
  case e2=>walk_at "n"
  case zh=>exact aL (Wk.refl _) hk
def DJ (CC P:Addr):tw:=λds O k=>∃(a:Addr) (w h q:Int) (w0 h0 q0:Nat) (pic:Option Rd16.Pic),ds=[.ptr a,.int w,.int h,.int q]/\O=eu CC P a w0 h0 q0 pic/\
 (if (bp w&&(bp h&&bD q))=true then ∀p,k (.ptr p) ((p,.lst [.int 0])::eu CC P a w.toNat h.toNat q.toNat none)else ∀p,k (.ptr p) ((p,.lst [.int (-1)])::O))
theorem Q7 {W:dg} {CC P:Addr} (hC:iS W.K CC) (n1:aM W.K CC "wide") (n2:aM W.K CC "high") (n3:aM W.K CC "step") (n4:aM W.K CC "before") (T:jH W CC "begin" "Codec.begin" tQ ["self","wide","high","step"]) (c1:ax W "are_sizes_and_step" 2 (dS Gz)):dM W CC "begin" 3 (DJ CC P):=by
 refine iH (N:=["self","wide","high","step"]) T (by walk_at "fs") (λds O k h=>?_) λX c ds O k h=>?_
 ·obtain⟨_,_,_,_,_,_,_,_,rfl,_⟩:=h;rfl
 ·obtain⟨a,w,h,q,w0,h0,q0,pic,rfl,rfl,hk⟩:=h
  change SV X [some (.ptr a),some (.int w),some (.int h),some (.int q)] (eu CC P a w0 h0 q0 pic) _ _ _
  refine' eQ (t:=!(bp w&&(bp h&&bD q))) (kO (fV (cI c c1 (by decide) ?zg ?za ⟨w,h,q,rfl,rfl⟩) ?tv)) ?h1 ?h2
  case zg=>decide+kernel
  case za=>walk_at "es"
  case tv=>intro _;rfl
  case h1=>
   intro hf
   have:(bp w&&(bp h&&bD q))=false:=by revert hf;generalize (bp w&&(bp h&&bD q))=X;cases X<;>simp
   rw[this,if_neg aw]at hk
   exact aT (EV.own_k pH hk)
  case h2=>
   intro hf
   have hs:(bp w&&(bp h&&bD q))=true:=by revert hf;generalize (bp w&&(bp h&&bD q))=X;cases X<;>simp
   rw[if_pos hs]at hk
   simp only[aH]at hs
   obtain⟨h1,h2,h3⟩:=hs
   obtain⟨w',rfl,_⟩:=o6 h1
   obtain⟨h',rfl,_⟩:=o6 h2
   obtain⟨q',rfl,_⟩:=lZ h3
   simp only[bC]at hk
   refine aL (Wk.refl _) ?_
   refine' gx (q:=a) (d:= .int w') c hC n1 ?e1 ?e2 .here .here (by decide) ?zh
   case e1=>walk_at "n"
   case e2=>walk_at "n"
   case zh=>
   refine' gx (q:=a) (d:= .int h') c hC n2 ?e1 ?e2 .here (.there (by decide) .here) (by decide) ?zh
   case e1=>walk_at "n"
   case e2=>walk_at "n"
   case zh=>
   refine' gx (q:=a) (d:= .int q') c hC n3 ?e1 ?e2 .here (.there (by decide) (.there (by decide) .here)) (by decide) ?zh
   case e1=>walk_at "n"
   case e2=>walk_at "n"
   case zh=>
   refine' gx (q:=a) c hC n4 se ?e2 .here (.there (by decide) (.there (by decide) (.there (by decide) .here))) (by decide) ?zh
   case e2=>walk_at "n"
   case zh=>exact aT (EV.own_k Hq hk)
section
variable {W:dg} {X:Cx} {N:List Str} {sc:Scope} {n:Nat} {tp:Bool} {ρ:dk} {O':Os} {f:Str} {e:aS} {pos:Pos} {CC P a:Addr} {w h q:Nat} {pic:Option Rd16.Pic}
theorem cV {d:D} (c:eZ W X N sc n tp) (hC:iS W.K CC) (hN:aM W.K CC f) (he:bq X ρ ((a,PU CC P w h q pic)::O') e (.ptr a)) (hl:Fl ["wide","high","step","before"] [.int w,.int h,.int q,fR P pic] f d) (hb:fu e f X.env (eval e X.env)=eval e X.env:=by rfl):bq X ρ ((a,PU CC P w h q pic)::O') (.Attribute e f pos) d:=
 md c hC hN (by decide+kernel) he ae hl hb
end
def Df (CC P:Addr):tw:=λds O k=>∃(a:Addr) (w h q:Nat) (pic:Option Rd16.Pic),ds=[.ptr a]/\O=eu CC P a w h q pic/\∀p,k (.ptr p) ((p,.lst [.int 0,.int w,.int h,.int q,.int (if pic=none then 0 else 1)])::O)
theorem PH {W:dg} {CC P:Addr} (hC:iS W.K CC) (n1:aM W.K CC "wide") (n2:aM W.K CC "high") (n3:aM W.K CC "step") (n4:aM W.K CC "before") (T:jH W CC "about" "Codec.about" tK ["self"]):dM W CC "about" 1 (Df CC P):=by
 refine iH (N:=["self"]) T (by walk_at "fs") (λds O k h=>?_) λX c ds O k h=>?_
 ·obtain⟨_,_,_,_,_,rfl,_⟩:=h;rfl
 ·obtain⟨a,w,h,q,pic,rfl,rfl,hk⟩:=h
  change SV X [some (.ptr a)] (eu CC P a w h q pic) _ _ _
  refine' aT (EV.own_k (dP (aa bI (aa (cV c hC n1 ?e1 .here) (aa (cV c hC n2 ?e2 (.there .here)) (aa (cV c hC n3 ?e3 (.there (.there .here))) (aa (bq.cast (wF (lF (cV c hC n4 ?e4 (.there (.there (.there .here))))) (λ_=>bI) (λ_=>bI)) ?qq) az))))) ?z) hk)
  case e1=>walk_at "n"
  case e2=>walk_at "n"
  case e3=>walk_at "n"
  case e4=>walk_at "n"
  case qq=>rw[jB];cases pic<;>rfl
  case z=>rw[af];show 5<=_;decide
def sO (w h:Nat) (pic:Option Rd16.Pic) (i j x y:Int):Bool:=!pic.isNone&&(iz (x,y)&&ij ⟨w,h,0,pic⟩ i j)
def U7 (CC P:Addr):tw:=λds O k=>∃(a:Addr) (w h q:Nat) (pic:Option Rd16.Pic) (i j x y:Int),ds=[.ptr a,.int i,.int j,.int x,.int y]/\O=eu CC P a w h q pic/\k (.bl (sO w h pic i j x y)) O
theorem Ri (x y:Int):iz (x,y)=(!(decide (15<(if x<0 then -x else x))||decide (15<(if y<0 then -y else y)))):=by
 unfold iz
 rw[Bool.not_or]
 have:∀z:Int,decide (z.natAbs<=15)=!decide (15<(if z<0 then -z else z)):=λz=>by
  rw[fB];simp only[decide_eq_true_eq,nz,decide_eq_false_iff_not];split<;>omega
 rw[this,this]
theorem GI {W:dg} {CC P:Addr} (B:Bn W) (hC:iS W.K CC) (n1:aM W.K CC "wide") (n2:aM W.K CC "high") (n4:aM W.K CC "before") (gF:Gv W "FARTHEST" (.int 15)) (gS:Gv W "SIDE" (.int 16)) (T:jH W CC "can_move" "Codec.can_move" nO ["self","i","j","x","y"]):dM W CC "can_move" 1 (U7 CC P):=by
 refine iH (N:=["self","i","j","x","y"]) T (by walk_at "fs") (λds O k h=>?_) λX c ds O k h=>?_
 ·obtain⟨_,_,_,_,_,_,_,_,_,rfl,_⟩:=h;rfl
 ·obtain⟨a,w,h,q,pic,i,j,x,y,rfl,rfl,hk⟩:=h
  change SV X [some (.ptr a),some (.int i),some (.int j),some (.int x),some (.int y)] (eu CC P a w h q pic) _ _ _
  unfold sO at hk
  rw[Ri]at hk
  refine' eQ (t:=(pic.isNone||(decide (15<(if x<0 then -x else x))||decide (15<(if y<0 then -y else y))))) (FA.ptv (oH (nP.cast (lF (cV c hC n4 ?e1 (.there (.there (.there .here))))) (jB P pic)) λ_=>oH ?t1 λ_=>oK ?t2)) ?h1 ?h2
  case e1=>walk_at "n"
  case t1=>walk_at "t"
  case t2=>walk_at "t"
  case h1=>
   intro hf
   have:(!pic.isNone&&(!(decide (15<(if x<0 then -x else x))||decide (15<(if y<0 then -y else y)))&&ij ⟨w,h,0,pic⟩ i j))=false:=by
    revert hf
    generalize pic.isNone=b1
    generalize (decide (15<(if x<0 then -x else x))||decide (15<(if y<0 then -y else y)))=b2
    cases b1<;>cases b2<;>simp
   rw[this]at hk
   exact aT (bq.go Uk hk)
  case h2=>
   intro hf
   rw[eh]at hf
   rw[hf.1,hf.2,i8,fM,fM]at hk
   refine aL (Wk.refl _) ?_
   refine' aT (bq.go (bq.cast (yP (r9 xB NB bI ?e1 (rK (cV c hC n1 ?e2 .here) ?e3 ?c1)) λ_=>CZ (r9 xB NB bI ?e4 (rK (cV c hC n2 ?e5 (.there .here)) ?e6 ?c2))) ?qq) hk)
   case e1=>walk_at "n"
   case e2=>walk_at "n"
   case e3=>walk_at "e"
   case c1=>constructor<;>lia
   case e4=>walk_at "n"
   case e5=>walk_at "n"
   case e6=>walk_at "e"
   case c2=>constructor<;>lia
   case qq=>unfold ij;refine congrArg D.bl ?_;simp only[Bool.and_assoc];rfl
def pM (w h:Nat) (pic:Option Rd16.Pic):Prop:=∀p,pic=some p->M.fh p/\p.wide=w/\p.high=h
theorem Oj {w h:Nat} {pic:Option Rd16.Pic} {i j x y:Int} (hb:sO w h pic i j x y=true):∃p,pic=some p/\iz (x,y)=true/\ij ⟨w,h,0,pic⟩ i j=true/\∃i' j':Nat,i=i'/\j=j'/\i'<w/16/\j'<h/16/\-15<=x/\x<=15/\-15<=y/\y<=15:=by
 unfold sO at hb
 simp only[aH]at hb
 obtain⟨h1,h2,h3⟩:=hb
 cases pic with
 |none=>simp at h1
 |some p=>
  refine⟨p,rfl,h2,h3,i.toNat,j.toNat,?_⟩
  unfold iz at h2
  unfold ij at h3
  simp only[aH,decide_eq_true_eq]at h2 h3
  omega
def DD (CC P:Addr):tw:=λds O k=>∃(a:Addr) (w h q:Nat) (pic:Option Rd16.Pic) (i j x y:Int),pM w h pic/\w<=256/\h<=256/\ds=[.ptr a,.int i,.int j,.int x,.int y]/\O=eu CC P a w h q pic/\
 ∀p,k (.ptr p) ((p,.lst ((kS (sO w h pic i j x y) (aD (bA (pic.getD (aZ w h)) (pic.getD (aZ w h)) i.toNat j.toNat (.moved x y)))).map .int))::O)
theorem Rl {W:dg} {CC P:Addr} (hC:iS W.K CC) (n4:aM W.K CC "before") (T:jH W CC "moved" "Codec.moved" tX ["self","i","j","x","y"]) (k1:dM W CC "can_move" 1 (U7 CC P)) (c1:ax W "moved_square" 3 (cv (Hg P))):dM W CC "moved" 4 (DD CC P):=by
 refine iH (N:=["self","i","j","x","y"]) T (by walk_at "fs") (λds O k h=>?_) λX c ds O k h=>?_
 ·obtain⟨_,_,_,_,_,_,_,_,_,_,_,_,rfl,_⟩:=h;rfl
 ·obtain⟨a,w,h,q,pic,i,j,x,y,co,hw,hh,rfl,rfl,hk⟩:=h
  change SV X [some (.ptr a),some (.int i),some (.int j),some (.int x),some (.int y)] (eu CC P a w h q pic) _ _ _
  refine' eQ (t:=!sO w h pic i j x y) (kO (fV (lI c hC k1 (by decide) ?e1 ae (by decide+kernel) (ir.go ?za ⟨_,[],rfl,a,w,h,q,pic,i,j,x,y,rfl,rfl,rfl,rfl⟩) rfl rfl rfl) ?tv)) ?h1 ?h2
  case e1=>walk_at "n"
  case za=>walk_at "es"
  case tv=>intro _;rfl
  case h1=>
   intro hf
   have:sO w h pic i j x y=false:=by simpa using hf
   unfold kS at hk
   rw[this,if_neg aw]at hk
   exact aT (EV.own_k pH hk)
  case h2=>
   intro hf
   have hb:sO w h pic i j x y=true:=by simpa using hf
   unfold kS at hk
   rw[if_pos hb]at hk
   obtain⟨p,rfl,_,_,i',j',rfl,rfl,hi,hj,x1,x2,y1,y2⟩:=Oj hb
   obtain⟨ok,e1,e2⟩:=co p rfl
   simp only[eT,bC]at hk
   have gU:=yQ p p i' j' (.moved x y)
   refine aL (Wk.refl _) ?_
   refine' aT (EV.own_k (xK (cD.pev (aV c c1 (by decide) ?zg (aa (bq.cast (cV c hC n4 ?y1 (.there (.there (.there .here)))) rfl) (aa ?y2 (aa ?y3 (aa ?y4 (aa ?y5 az))))) ⟨p,p,i',j',(x,y),ok,by lia,by lia,x1,x2,y1,y2,rfl,rfl⟩)) (by rw[ib,gU];decide)) hk)
   case zg=>decide+kernel
   case y1=>walk_at "n"
   case y2=>walk_at "n"
   case y3=>walk_at "n"
   case y4=>walk_at "n"
   case y5=>walk_at "n"
def vK (CC P:Addr):tw:=λds O k=>∃(a:Addr) (w h q:Nat) (pic:Option Rd16.Pic) (m:Int),pM w h pic/\w<=256/\h<=256/\ds=[.ptr a,.int m]/\O=eu CC P a w h q pic/\
 ∀p,k (.ptr p) ((p,.lst ((kS (!pic.isNone&&decide (m=((w*h:Nat):Int))) (M.iT (pic.getD (aZ w h)))).map .int))::O)
theorem JP {W:dg} {CC P:Addr} (hC:iS W.K CC) (n1:aM W.K CC "wide") (n2:aM W.K CC "high") (n4:aM W.K CC "before") (hP:iS W.K P) (p1:aM W.K P "points") (T:jH W CC "picture" "Codec.picture" pU ["self","most"]):dM W CC "picture" 1 (vK CC P):=by
 refine iH (N:=["self","most"]) T (by walk_at "fs") (λds O k h=>?_) λX c ds O k h=>?_
 ·obtain⟨_,_,_,_,_,_,_,_,_,rfl,_⟩:=h;rfl
 ·obtain⟨a,w,h,q,pic,m,co,hw,hh,rfl,rfl,hk⟩:=h
  have Ml:(w:Int)*(h:Int)=((w*h:Nat):Int):=by push_cast;rfl
  have Vl:w*h<=256*256:=cX hw hh
  change SV X [some (.ptr a),some (.int m)] (eu CC P a w h q pic) _ _ _
  refine' eQ (t:=(!decide (m=(w:Int)*(h:Int))||pic.isNone)) (FA.ptv (oH (Ac ?e1 (lH (cV c hC n1 ?e2 .here) (cV c hC n2 ?e3 (.there .here)) ?cm)) λ_=>oK (nP.cast (lF (cV c hC n4 ?e4 (.there (.there (.there .here))))) (jB P pic)))) ?h1 ?h2
  case e1=>walk_at "n"
  case e2=>walk_at "n"
  case e3=>walk_at "n"
  case e4=>walk_at "n"
  case cm=>left;constructor<;>omega
  case h1=>
   intro hf
   rw[Ml]at hf
   have:(!pic.isNone&&decide (m=((w*h:Nat):Int)))=false:=by
    revert hf
    generalize pic.isNone=b1
    generalize decide (m=((w*h:Nat):Int))=b2
    cases b1<;>cases b2<;>simp
   unfold kS at hk
   rw[this,if_neg aw]at hk
   exact aT (EV.own_k pH hk)
  case h2=>
   intro hf
   rw[Ml,eh]at hf
   have:(!pic.isNone&&decide (m=((w*h:Nat):Int)))=true:=by
    revert hf
    generalize pic.isNone=b1
    generalize decide (m=((w*h:Nat):Int))=b2
    cases b1<;>cases b2<;>simp
   unfold kS at hk
   rw[if_pos this]at hk
   cases pic with
   |none=>cases hf.2
   |some p=>
    obtain⟨ok,e1,e2⟩:=co p rfl
    simp only[eT]at hk
    refine aL (Wk.refl _) ?_
    refine' aT (EV.own_k (xK (oQ c hP p1 (by decide+kernel) (bq.cast (d':=kx P p) (cV c hC n4 ?y1 (.there (.there (.there .here)))) rfl) (.there (.there .here)) rfl) (by rw[M.jq,ok.len,e1,e2];omega)) hk)
    case y1=>walk_at "n"
def yN (CC P:Addr):tw:=λds O k=>∃(a:Addr) (w h q:Nat) (pic:Option Rd16.Pic) (i j x y:Int) (o:List Nat),pM w h pic/\w<=256/\h<=256/\o.length=256/\ds=[.ptr a,.int i,.int j,.int x,.int y,dl (aD o)]/\O=eu CC P a w h q pic/\
 ∀p,k (.ptr p) ((p,.lst ((if sO w h pic i j x y=true then [n9 (pic.getD (aZ w h)) i.toNat j.toNat o (x,y) (fL (pic.getD (aZ w h)) i.toNat j.toNat o (x,y)),(fL (pic.getD (aZ w h)) i.toNat j.toNat o (x,y)).1,(fL (pic.getD (aZ w h)) i.toNat j.toNat o (x,y)).2]else [-1]).map .int))::O)
theorem N6 {W:dg} {CC P:Addr} (B:Bn W) (hC:iS W.K CC) (n4:aM W.K CC "before") (T:jH W CC "search" "Codec.search" rG ["self","i","j","x","y","square"]) (k1:dM W CC "can_move" 1 (U7 CC P)) (c1:ax W "find_vector" 5 (dS (NG P))):dM W CC "search" 6 (yN CC P):=by
 refine iH (N:=["self","i","j","x","y","square"]) T (by walk_at "fs") (λds O k h=>?_) λX c ds O k h=>?_
 ·obtain⟨_,_,_,_,_,_,_,_,_,_,_,_,_,_,rfl,_⟩:=h;rfl
 ·obtain⟨a,w,h,q,pic,i,j,x,y,o,co,hw,hh,ho,ji,hO,hk⟩:=h
  subst ji;subst hO
  change SV X [some (.ptr a),some (.int i),some (.int j),some (.int x),some (.int y),some (dl (aD o))] (eu CC P a w h q pic) _ _ _
  refine' eQ (t:=!sO w h pic i j x y) (kO (fV (lI c hC k1 (by decide) ?e1 ae (by decide+kernel) (ir.go ?za ⟨_,[],rfl,a,w,h,q,pic,i,j,x,y,rfl,rfl,rfl,rfl⟩) rfl rfl rfl) ?tv)) ?h1 ?h2
  case e1=>walk_at "n"
  case za=>walk_at "es"
  case tv=>intro _;rfl
  case h1=>
   intro hf
   have:sO w h pic i j x y=false:=by simpa using hf
   rw[this,if_neg aw]at hk
   exact aT (EV.own_k pH hk)
  case h2=>
   intro hf
   have hb:sO w h pic i j x y=true:=by simpa using hf
   rw[if_pos hb]at hk
   obtain⟨p,e0,_,_,i',j',e1,e2,hi,hj,x1,x2,y1,y2⟩:=Oj hb
   subst e0;subst e1;subst e2
   obtain⟨ok,e1,e2⟩:=co p rfl
   simp only[eT,bC]at hk
   refine aL (Wk.refl _) ?_
   refine' aT (EV.own_k (JN c B ?zg (cI c c1 (by decide) ?wW (aa (bq.cast (cV c hC n4 ?y1 (.there (.there (.there .here)))) rfl) (aa ?y2 (aa ?y3 (aa ?y4 (aa ?y5 az))))) ⟨p,i',j',o,(x,y),ok,by lia,by lia,by lia,rfl,rfl⟩) rfl) hk)
   case zg=>decide+kernel
   case wW=>decide+kernel
   case y1=>walk_at "n"
   case y2=>walk_at "n"
   case y3=>walk_at "n"
   case y4=>walk_at "n"
   case y5=>walk_at "e"
def Du (p:Rd16.Pic) (m:df):List Int:=((p.points.zip m).filter λ(x:UInt8×UInt8)=>decide (128<=x.2.toNat)).map λ(x:UInt8×UInt8)=>(x.1.toNat:Int)
def IU (CC P:Addr):tw:=λds O k=>∃(a:Addr) (w h q:Nat) (pic:Option Rd16.Pic) (m:df),pM w h pic/\w<=256/\h<=256/\ds=[.ptr a,dl (Rd16.ints m)]/\O=eu CC P a w h q pic/\
 ∀p,k (.ptr p) ((p,.lst ((kS (!pic.isNone&&decide (m.length=w*h)) (Du (pic.getD (aZ w h)) m)).map .int))::O)
theorem Us {W:dg} {CC P:Addr} (B:Bn W) (hC:iS W.K CC) (n1:aM W.K CC "wide") (n2:aM W.K CC "high") (n4:aM W.K CC "before") (hP:iS W.K P) (p1:aM W.K P "points") (T:jH W CC "show" "Codec.show" u0 ["self","mask"]):dM W CC "show" 1 (IU CC P):=by
 refine iH (N:=["self","mask","point","told"]) T (by walk_at "fs") (λds O k h=>?_) λX c ds O k h=>?_
 ·obtain⟨_,_,_,_,_,_,_,_,_,rfl,_⟩:=h;rfl
 ·obtain⟨a,w,h,q,pic,m,co,hw,hh,ji,hO,hk⟩:=h
  subst ji;subst hO
  have Ml:(w:Int)*(h:Int)=((w*h:Nat):Int):=by push_cast;rfl
  have Vl:w*h<=256*256:=cX hw hh
  have ml:(Rd16.ints m).length=m.length:=by simp[Rd16.ints]
  change SV X [some (.ptr a),some (dl (Rd16.ints m)),none,none] (eu CC P a w h q pic) _ _ _
  refine' eQ (t:=(!decide (((m.length:Nat):Int)=(w:Int)*(h:Int))||pic.isNone)) (FA.ptv (oH (Ac (bq.cast (d':= .int (m.length:Nat)) (kH c B ?zg ?e1 rfl) ?q1) (lH (cV c hC n1 ?e2 .here) (cV c hC n2 ?e3 (.there .here)) ?cm)) λ_=>oK (nP.cast (lF (cV c hC n4 ?e4 (.there (.there (.there .here))))) (jB P pic)))) ?h1 ?h2
  case zg=>decide+kernel
  case e1=>walk_at "n"
  case q1=>rw[bF,ml]
  case e2=>walk_at "n"
  case e3=>walk_at "n"
  case e4=>walk_at "n"
  case cm=>left;constructor<;>omega
  case h1=>
   intro hf
   rw[Ml]at hf
   have:(!pic.isNone&&decide (m.length=w*h))=false:=by
    have e:decide (((m.length:Nat):Int)=((w*h:Nat):Int))=decide (m.length=w*h):=by rw[fB];simp only[decide_eq_true_eq];omega
    rw[e]at hf
    revert hf
    generalize pic.isNone=b1
    generalize decide (m.length=w*h)=b2
    cases b1<;>cases b2<;>simp
   unfold kS at hk
   rw[this,if_neg aw]at hk
   exact aT (EV.own_k pH hk)
  case h2=>
   intro hf
   rw[Ml,eh]at hf
   have e:decide (((m.length:Nat):Int)=((w*h:Nat):Int))=decide (m.length=w*h):=by rw[fB];simp only[decide_eq_true_eq];omega
   have:(!pic.isNone&&decide (m.length=w*h))=true:=by
    rw[e]at hf
    revert hf
    generalize pic.isNone=b1
    generalize decide (m.length=w*h)=b2
    cases b1<;>cases b2<;>simp
   unfold kS at hk
   rw[if_pos this]at hk
   cases pic with
   |none=>cases hf.2
   |some p=>
    obtain⟨ok,e1,e2⟩:=co p rfl
    simp only[eT]at hk
    have pl:p.points.length<=65536:=by rw[ok.len,e1,e2];omega
    refine aL (Wk.refl _) ?_
    refine' aT (EV.own_k (xK (l:=Du p m) (cD.pev (cD.cast (ds:=?BS) ?eU ?qU)) ?ll) hk)
    case ll=>
     unfold Du
     rw[ah]
     have:=kR (λ(x:UInt8×UInt8)=>decide (128<=x.2.toNat)) (p.points.zip m)
     rw[bZ]at this
     omega
    case eU=>
     refine' Nf ["point","told"] [2,3] (l:=p.points.zip m) (enc:=λx=>D.tup [.int ((x.1.toNat:Nat):Int),.int ((x.2.toNat:Nat):Int)]) (p:=λx=>decide (128<=x.2.toNat)) (g:=λx=>D.int ((x.1.toNat:Nat):Int)) c (pF.cast (iN (l1:=p.points) (l2:=m) (e1:=λx=>D.int ((x.toNat:Nat):Int)) (e2:=λx=>D.int ((x.toNat:Nat):Int)) c ?zg B.zip ?ea ?eb) rfl) ?ok ?ho ?hz ?wp ?gU
     case zg=>decide+kernel
     case ea=>
      refine' bq.cast (oQ c hP p1 (by decide+kernel) (bq.cast (d':=kx P p) (cV c hC n4 ?y1 (.there (.there (.there .here)))) rfl) (.there (.there .here)) rfl) ?qq
      case y1=>walk_at "n"
      case qq=>unfold dl M.iT Rd16.ints;rw[aF];rfl
     case eb=>
      walk_at "ec"
      unfold dl Rd16.ints;rw[aF];rfl
     case ok=>decide+kernel
     case ho=>decide+kernel
     case hz=>rw[bZ,af];omega
     case wp=>walk_at "wp"
     case gU=>
      intro x hx
      refine⟨_,λY cY=>⟨by walk_at "tg2",?_,λ_=>by walk_at "n"⟩⟩
      refine' nP.cast (DT ?y1 bI) ?qq
      case y1=>walk_at "n"
      case qq=>rw[fB];simp only[decide_eq_true_eq];omega
    case qU=>unfold Du;rw[aF];rfl
section
variable {X:Cx} {ρ:dk} {O:Os} {e:aS} {k:KD}
theorem EV.sub (h:EV X ρ O e λd O'=>∃V3:Os,(∀q∈V3,q∈O')/\((cU O').Nodup->(cU V3).Nodup)/\k d V3):EV X ρ O e k:= .mk λσ F H Q s p=>h σ F H Q s λv d O' F' H' g su ow r q=>by
 obtain⟨V3,h1,h2,q⟩:=q
 refine p v d V3 F' H' ⟨g.ff,g.keep,g.back,g.there,λx hx=>?_⟩ su (ow.sub h1 (h2 ow.nd)) r q
 obtain⟨y,hy,rfl⟩:=ay.mp hx
 exact g.new _ (ay.mpr ⟨y,h1 y hy,rfl⟩)
theorem EV.frz2 (h:EV X ρ O e λd O'=>∃p ds O0,d= .ptr p/\O'=(p,.lst ds)::O0/\k (.lst ds) O0):EV X ρ O e k:= .mk λσ F H Q s p=>h σ F H Q s λv d O' F' H' g su ow r q=>by
 obtain⟨a,ds,O0,rfl,rfl,q⟩:=q
 obtain⟨_,vs,hv,hr⟩:=ow.at_ _ ae
 obtain⟨g2,sf,gX,gB⟩:=rp su ow hv
 obtain rfl:v=V.ref a:=r
 exact p _ (.lst ds) O0 _ H' (g.trans g2) gX gB ⟨a,vs,rfl,cp,hr.mono sf⟩ q
end
theorem gg {x y:Addr×Ob} {O:Os}:(∀q∈y::x::O,q∈x::y::O)/\((cU (x::y::O)).Nodup->(cU (y::x::O)).Nodup):=by
 refine⟨λq hq=>?_,λnd=>?_⟩
 ·rcases aB.mp hq with rfl|hq
  ·exact ai _ ae
  ·rcases aB.mp hq with rfl|hq
   ·exact ae
   ·exact ai _ (ai _ hq)
 ·have h1:=bc.mp nd
  have h2:=bc.mp h1.2
  refine bc.mpr ⟨λhm=>?_,bc.mpr ⟨λhm=>h1.1 (ai _ hm),h2.2⟩⟩
  rcases aB.mp hm with e|e
  ·exact h1.1 (by rw[<-e];exact ae)
  ·exact h2.1 e
inductive Fd (q:Addr) (ds:List D):D->D->Prop where
 |here:Fd q ds (.ptr q) (.lst ds)
 |same {d:D}:Fd q ds d d
 |ins1 {C:Addr} {ns:List Str} {x x':D} {xs:List D}:Fd q ds x x'->Fd q ds (.ins C ns (x::xs)) (.ins C ns (x'::xs))
 |ins3 {C:Addr} {ns:List Str} {a b x x':D} {xs:List D}:Fd q ds x x'->Fd q ds (.ins C ns (a::b::x::xs)) (.ins C ns (a::b::x'::xs))
theorem Fd.rep {K:ag} {F F':Hp} {q:Addr} {ds:List D} {vs:List V} (e:bX F F') (h1:F' q=some (.lst vs)) (h2:cg K F' ds vs):∀{d d':D},Fd q ds d d'->∀{v:V},sP K F d v->sP K F' d' v:=by
 intro d d' h
 induction h with
 |here=>intro v r;obtain rfl:v=V.ref q:=r;exact⟨q,vs,rfl,h1,h2⟩
 |same=>intro v r;exact r.mono e
 |ins1 _ ih=>
  intro v r
  obtain⟨a,dx,us,rfl,ha,hl,hr⟩:=r
  obtain⟨u,us',rfl,ru,rr⟩:=hr
  exact⟨a,dx,_,rfl,e _ _ ha,hl,⟨u,us',rfl,ih ru,rr.mono e⟩⟩
 |ins3 _ ih=>
  intro v r
  obtain⟨a,dx,us,rfl,ha,hl,hr⟩:=r
  obtain⟨u1,Km,rfl,ru1,u2,MV,rfl,YZ,u3,XO,rfl,ru3,rr⟩:=hr
  exact⟨a,dx,_,rfl,e _ _ ha,hl,⟨u1,_,rfl,ru1.mono e,u2,_,rfl,YZ.mono e,u3,XO,rfl,ih ru3,rr.mono e⟩⟩
inductive Fe (q:Addr) (ds:List D):dk->dk->Prop where
 |nil:Fe q ds [] []
 |non {ρ ρ':dk}:Fe q ds ρ ρ'->Fe q ds (none::ρ) (none::ρ')
 |cons {d d':D} {ρ ρ':dk}:Fd q ds d d'->Fe q ds ρ ρ'->Fe q ds (some d::ρ) (some d'::ρ')
theorem Fe.at {q:Addr} {ds:List D}:∀{ρ ρ':dk},Fe q ds ρ ρ'->ρ'.length=ρ.length/\∀(i:Nat) (d':D),ρ'[i]? =some (some d')->∃d,ρ[i]? =some (some d)/\Fd q ds d d'
 |_,_,.nil=>⟨rfl,λi d' h=>by simp at h⟩
 |_,_,.non h=>by
  obtain⟨h1,h2⟩:=h.at
  refine⟨by simp[h1],λi d' hi=>?_⟩
  cases i with
  |zero=>simp at hi
  |succ i=>simpa using h2 i d' (by simpa using hi)
 |_,_,.cons hd h=>by
  obtain⟨h1,h2⟩:=h.at
  refine⟨by simp[h1],λi d' hi=>?_⟩
  cases i with
  |zero=>simp at hi;subst hi;exact⟨_,rfl,hd⟩
  |succ i=>simpa using h2 i d' (by simpa using hi)
theorem Oi {X:Cx} {ρ ρ':dk} {O:Os} {q:Addr} {ds:List D} {m5:List Stmt} {kn:KR} {kr:KD} (hf:Fe q ds ρ ρ') (h:SV X ρ' O m5 kn kr):SV X ρ ((q,.lst ds)::O) m5 kn kr:= .mk λσ F H E s pn p=>by
 obtain⟨_,vs,hv,hr⟩:=s.own.at_ _ ae
 obtain⟨g,sf,su,ow⟩:=rp s.sub s.own hv
 obtain⟨hl,ha⟩:=hf.at
 refine h σ (fC F q (.lst vs)) H E ⟨su,λi d' hi=>?_,ow,by rw[s.len,hl]⟩ (pn.after g) (p.after g)
 obtain⟨d,hd,fd⟩:=ha i d' hi
 obtain⟨v,h1,h2⟩:=s.env i d hd
 exact⟨v,h1,fd.rep sf cp (hr.mono sf) h2⟩
structure Dy (w h q:Nat):Prop where
 w:16<=w/\w<=256/\w%16=0
 h:16<=h/\h<=256/\h%16=0
 q:1<=q/\q<=64
def An (w h:Nat) (pic:Option Rd16.Pic) (b:df) (key most:Int):Bool:=decide (b.length≠w*h)||(decide (most<1)||(decide (1048576<most)||(decide (key=0)&&pic.isNone)))
def IB (CC P:Addr):tw:=λds O k=>∃(a:Addr) (w h q:Nat) (pic:Option Rd16.Pic) (key most:Int) (b:df),pM w h pic/\Dy w h q/\b.length<=65536/\ds=[.ptr a,.int key,.int most,dl (Rd16.ints b)]/\O=eu CC P a w h q pic/\
 (if An w h pic b key most=true then ∀p,k (.ptr p) ((p,.lst [.int (-1)])::O)
  else if most<(((pv ⟨w,h,q,pic⟩ b (key !=0)).1.length:Nat):Int)then ∀p,k (.ptr p) ((p,.lst [.int (-1)])::O)
  else ∀p,k (.ptr p) ((p,.lst (((((pv ⟨w,h,q,pic⟩ b (key !=0)).1.length:Nat):Int)::Rd16.ints (pv ⟨w,h,q,pic⟩ b (key !=0)).1).map .int))::eu CC P a w h q (some (pv ⟨w,h,q,pic⟩ b (key !=0)).2)))
theorem vD {w h q:Nat} (s:Dy w h q):M.fh (aZ w h):=⟨by simp[aZ],s.w,s.h⟩
theorem Cj (w h:Nat):(M.iT (aZ w h)).map D.int=aq (w*h) (.int 0):=by
 unfold M.iT Rd16.ints aZ
 simp only[dU]
 rfl
theorem S2 {W:dg} {CC P S:Addr} (B:Bn W) (hC:iS W.K CC) (n1:aM W.K CC "wide") (n2:aM W.K CC "high") (n3:aM W.K CC "step") (n4:aM W.K CC "before") (hS:iS W.K S) (s1:aM W.K S "shown") (gM:Gv W "MOST_BYTES" (.int 1048576)) (T:jH W CC "code" "Codec.code" vZ ["self","key","most","points"])
  (mS:jC W "Sheet" S 3 (Hb S P)) (c1:ax W "tell" 8 (MY P S)) (c2:ax W "packed" 1 (cv Sj)) (c3:ax W "smoothed" 4 (dS (yS P))):dM W CC "code" 9 (IB CC P):=by
 refine iH (N:=["self","key","most","points","sheet","row"]) T (by walk_at "fs") (λds O k h=>?_) λX c ds O k h=>?_
 ·obtain⟨_,_,_,_,_,_,_,_,_,_,_,rfl,_⟩:=h;rfl
 ·obtain⟨a,w,h,q,pic,key,most,b,co,sz,Lu,ji,hO,hk⟩:=h
  subst ji;subst hO
  obtain⟨w1,w2,w3⟩:=sz.w
  obtain⟨h1,h2,h3⟩:=sz.h
  obtain⟨q1,q2⟩:=sz.q
  have Ml:(w:Int)*(h:Int)=((w*h:Nat):Int):=by push_cast;rfl
  have Vl:w*h<=256*256:=cX w2 h2
  have ml:(Rd16.ints b).length=b.length:=by simp[Rd16.ints]
  unfold An at hk
  change SV X [some (.ptr a),some (.int key),some (.int most),some (dl (Rd16.ints b)),none,none] (eu CC P a w h q pic) _ _ _
  refine' eQ (t:=(!decide (((b.length:Nat):Int)=(w:Int)*(h:Int))||!(decide (1<=most)&&decide (most<=1048576)))) (FA.ptv (oH (Ac (bq.cast (d':= .int (b.length:Nat)) (kH c B ?zg ?e1 rfl) ?q1) (lH (cV c hC n1 ?e2 .here) (cV c hC n2 ?e3 (.there .here)) ?cm)) λ_=>oK (kO (K1 xB xB bI ?e4 ?e5)))) ?h1 ?h2
  case zg=>decide+kernel
  case e1=>walk_at "n"
  case q1=>rw[bF,ml]
  case e2=>walk_at "n"
  case e3=>walk_at "n"
  case cm=>left;constructor<;>lia
  case e4=>walk_at "n"
  case e5=>walk_at "e"
  case h1=>
   intro hf
   rw[if_pos (by
    rw[Ml]at hf
    simp only[eP,nz,decide_eq_true_eq,decide_eq_false_iff_not,Bool.and_eq_false_iff]at hf⊢
    lia)]at hk
   exact aT (EV.own_k pH hk)
  case h2=>
  intro hf
  rw[Ml]at hf
  simp only[eh,Bool.not_eq_false',decide_eq_true_eq,aH]at hf
  obtain⟨f1,f2,f3⟩:=hf
  have Zz:b.length=w*h:=by lia
  refine aL (Wk.refl _) ?_
  refine' eQ (t:=(decide (key=0)&&pic.isNone)) (FA.ptv (Io (rA ?e1 bI) λ_=>FI (nP.cast (lF (cV c hC n4 ?e2 (.there (.there (.there .here))))) (jB P pic)))) ?h1 ?h2
  case e1=>walk_at "n"
  case e2=>walk_at "n"
  case h1=>
   intro hf
   rw[if_pos (by rw[hf];simp)]at hk
   exact aT (EV.own_k pH hk)
  case h2=>
  intro hf
  rw[if_neg (by rw[hf];simp;lia)]at hk
  refine aL (Wk.refl _) ?_
  generalize hrf:(if key=0 then pic else none)=ref
  have Ki:(key !=0)=ref.isNone:=by
   rw[<-hrf]
   by_cases e:key=0
   ·rw[if_pos e];subst e;simp at hf;cases pic with
    |none=>simp at hf
    |some _=>rfl
   ·rw[if_neg e];simpa using e
  rw[Ki]at hk
  have hrs:∀p,ref=some p->p=pic.getD (aZ w h)/\M.fh p/\p.wide=w/\p.high=h:=λp hp=>by
   rw[<-hrf]at hp
   split at hp
   ·subst hp;exact⟨rfl,co p rfl⟩
   ·cases hp
  have VM:M.fh ⟨w,h,b⟩:=⟨Zz,sz.w,sz.h⟩
  have IM:=vD sz
  
  refine ey (lM (x:="sheet") c (by decide+kernel) ⟨4,rfl⟩ ?_ rfl)
  refine EV.frzI2 (EV.sub ?_)
  refine' v9 c mS (by decide) ?zg (ir.go (ds:=[.int w,.int h,.int q,fR P ref]) ?za ⟨[],eu CC P a w h q pic,rfl,λsq=>⟨sq,w,h,q,fR P ref,w2,h2,rfl,rfl,λa2=>⟨rfl,_,(gg (O:=eu CC P a w h q pic)).1,(gg (O:=eu CC P a w h q pic)).2,sq,S,_,_,_,rfl,rfl,_,.there (.there (.there (.there .here))),?rest⟩⟩⟩)
  case zg=>decide+kernel
  case za=>
   refine' aa (cV c hC n1 ?y1 .here) (aa (cV c hC n2 ?y2 (.there .here)) (aa (cV c hC n3 ?y3 (.there (.there .here))) (aa (bq.cast (wF (rA ?y4 bI) (λ_=>cV c hC n4 ?y5 (.there (.there (.there .here)))) (λ_=>se)) ?qq) az)))
   case y1=>walk_at "n"
   case y2=>walk_at "n"
   case y3=>walk_at "n"
   case y4=>walk_at "n"
   case y5=>walk_at "n"
   case qq=>rw[<-hrf];by_cases e:key=0<;>simp[e]
  case rest=>
  change SV X [some (.ptr a),some (.int key),some (.int most),some (dl (Rd16.ints b)),some (d0 S q (fR P ref) (l5 P w h (.ptr a2))),none] ((a2,.lst (aq (w*h) (.int 0)))::eu CC P a w h q pic) _ _ _
  rw[<-Cj w h]
  
  have Ir:∀s:fW,s=⟨w,h,q,pic⟩->pv s b ref.isNone=(Rd16.told w ref.isNone (gL q ref.isNone (pic.getD (aZ w h)) ⟨w,h,b⟩ (w/16*(h/16)) 0 (0,0) (aZ w h)).1,i7 q (gL q ref.isNone (pic.getD (aZ w h)) ⟨w,h,b⟩ (w/16*(h/16)) 0 (0,0) (aZ w h)).2):=λs e=>by subst e;rfl
  rw[Ir _ rfl]at hk
  clear Ir
  have X9:=uP q ref.isNone (pic.getD (aZ w h)) ⟨w,h,b⟩ (aZ w h) (w/16*(h/16)) 0
  have tok:=DM q1 ref.isNone (pic.getD (aZ w h)) ⟨w,h,b⟩ (aZ w h) IM rfl rfl (0+w/16*(h/16))
  have tl:=X9.1
  have tp:=X9.2
  have VU:=tok.b
  have XX:=tok.ok
  have Xl:=tok.w
  have XW:=tok.h
  rw[<-tl]at VU
  rw[<-tp]at XX Xl XW
  clear X9 tok tl tp
  have e00:(tE q ref.isNone (pic.getD (aZ w h)) ⟨w,h,b⟩ (aZ w h) 0)=([],aZ w h,(0,0)):=rfl
  rw[e00]at VU XX Xl XW
  simp only[lP]at VU
  clear e00
  unfold Rd16.told at hk
  have mk:∀kk:KD,(∀b2,kk (.ptr b2) [(a2,.lst ((M.iT (gL q ref.isNone (pic.getD (aZ w h)) ⟨w,h,b⟩ (w/16*(h/16)) 0 (0,0) (aZ w h)).2).map .int)),(b2,.lst ((M.gi (ref.isNone::gW (w/16) 0 (0,0) (gL q ref.isNone (pic.getD (aZ w h)) ⟨w,h,b⟩ (w/16*(h/16)) 0 (0,0) (aZ w h)).1)).map .int))])->MY P S [d0 S q (fR P ref) (jT P a2 (aZ w h)),dl (M.iT ⟨w,h,b⟩)] (gb a2 (aZ w h)) kk:=
   λkk yV=>⟨a2,q,ref,pic.getD (aZ w h),⟨w,h,b⟩,aZ w h,q1,q2,VM,IM,rfl,rfl,hrs,rfl,rfl,yV⟩
  generalize (gL q ref.isNone (pic.getD (aZ w h)) ⟨w,h,b⟩ (w/16*(h/16)) 0 (0,0) (aZ w h))=x at hk VU XX Xl XW mk
  generalize Nj:(ref.isNone::gW (w/16) 0 (0,0) x.1)=bits at hk mk
  have hA:w/16<=16:=by lia
  have hB:h/16<=16:=by lia
  have hAB:w/16*(h/16)<=16*16:=cX hA hB
  have UP:bits.length<2^23:=by
   rw[<-Nj,aJ]
   have:(gW (w/16) 0 (0,0) x.1).length<=30000*(0+w/16*(h/16)):=VU
   have:30000*(0+w/16*(h/16))<=30000*256:=b6 _ (by lia)
   lia
  have hpl:=M.Ho (bits.length+1) bits (by lia)
  simp only at hk
  generalize oY:Rd16.packed (bits.length+1) bits=row at hk hpl
  have rl:(Rd16.ints row).length=row.length:=by simp[Rd16.ints]
  refine ey (lM (x:="row") c (by decide+kernel) ⟨5,rfl⟩ ?_ rfl)
  refine' jU c c2 (by decide) ?zg (qK ?et)
  case zg=>decide+kernel
  case et=>
  refine EV.frz2 (EV.sub ?_)
  refine' jU c c1 (by decide) ?zg (ir.go (ds:=[d0 S q (fR P ref) (jT P a2 (aZ w h)),dl (M.iT ⟨w,h,b⟩)]) ?za ⟨gb a2 (aZ w h),eu CC P a w h q pic,rfl,mk _ λb2=>⟨_,(gg (O:=eu CC P a w h q pic)).1,(gg (O:=eu CC P a w h q pic)).2,b2,_,_,rfl,rfl,yM ⟨[],_,rfl,rfl,_,⟨bits,UP,rfl,rfl⟩,λr=>⟨_,.there (.there (.there (.there (.there .here)))),?WK⟩⟩⟩⟩)
  case zg=>decide+kernel
  case za=>
   refine' aa ?y1 (aa ?y2 az)
   case y1=>
    walk_at "ec"
    rfl
   case y2=>
    walk_at "ec"
    rfl
  case WK=>
  rw[oY]
  change SV X [some (.ptr a),some (.int key),some (.int most),some (dl (Rd16.ints b)),some (d0 S q (fR P ref) (l5 P w h (.ptr a2))),some (.ptr r)] [(r,.lst ((Rd16.ints row).map .int)),(a2,.lst ((M.iT x.2).map .int)),(a,PU CC P w h q pic)] _ _ _
  refine' eQ (t:=decide (most<((row.length:Nat):Int))) (C6 (bq.cast (FJ c B ?zg ?y1 ae rfl) ?qq) ?y2) ?h1 ?h2
  case zg=>decide+kernel
  case y1=>walk_at "n"
  case qq=>rw[bF,rl]
  case y2=>walk_at "n"
  case h1=>
   intro hf
   rw[if_pos (of_decide_eq_true hf)]at hk
   refine aT (EV.sub (EV.own_k pH λp=>⟨(p,.lst [.int (-1)])::eu CC P a w h q pic,λz hz=>?_,λnd=>?_,hk p⟩))
   ·rcases aB.mp hz with rfl|hz
    ·exact ae
    ·exact ai _ (ai _ (ai _ hz))
   ·have h1:=bc.mp nd
    refine bc.mpr ⟨λhm=>h1.1 (ai _ (ai _ hm)),?_⟩
    exact(bc.mp (bc.mp h1.2).2).2
  case h2=>
  intro hf
  rw[if_neg (of_decide_eq_false hf)]at hk
  refine aL (Wk.refl _) ?_
  refine Oi (ρ':=[some (.ptr a),some (.int key),some (.int most),some (dl (Rd16.ints b)),some (d0 S q (fR P ref) (l5 P w h (.ptr a2))),some (dl (Rd16.ints row))]) (.cons .same (.cons .same (.cons .same (.cons .same (.cons .same (.cons .here .nil)))))) ?_
  refine Oi (ρ':=[some (.ptr a),some (.int key),some (.int most),some (dl (Rd16.ints b)),some (d0 S q (fR P ref) (l5 P w h (dl (M.iT x.2)))),some (dl (Rd16.ints row))]) (.cons .same (.cons .same (.cons .same (.cons .same (.cons (.ins3 (.ins3 .here)) (.cons .same .nil)))))) ?_
  have aay:l5 P w h (dl (M.iT x.2))=kx P x.2:=by show _=l5 P x.2.wide x.2.high (dl (M.iT x.2));rw[Xl,XW]
  rw[aay]
  refine' gx (q:=a) (d:=kx P (i7 q x.2)) c hC n4 (cI c c3 (by decide) ?zg (aa (oQ (ns:=["step","before","shown"]) (xs:=[.int q,fR P ref,kx P x.2]) c hS s1 (by decide+kernel) ?y1 (.there (.there .here)) rfl) (aa (cV c hC n3 ?y2 (.there (.there .here))) az)) ⟨q,x.2,q1,q2,XX,rfl,rfl⟩) ?y3 .here (.there (by decide) (.there (by decide) (.there (by decide) .here))) (by decide) ?zh
  case zg=>decide+kernel
  case y1=>walk_at "n"
  case y2=>walk_at "n"
  case y3=>walk_at "n"
  case zh=>
  refine' aT (EV.own_k (oV (ds:=[.int (row.length:Nat)]) (cD.pev (dP (aa (bq.cast (kH c B ?zg ?y1 rfl) ?qq) az) Hj)) ?y2 ?hz) hk)
  case zg=>decide+kernel
  case y1=>walk_at "n"
  case qq=>rw[bF,rl]
  case y2=>walk_at "n"
  case hz=>rw[bF,rl,af];show 1+_<=_;lia
inductive RT:List D->List D->Prop where
 |f {w:List Int} {b:List Int} {xs:List D}:Ky jg [dl b] xs->RT [.int 8,dl w,dl b] xs
 |b {w:List Int} {b:List Int} {xs:List D}:Ky eD [dl b] xs->RT [.int 9,dl w,dl b] xs
 |l {q:Int} {b:List Int} {xs:List D}:LS [.int q,dl b] xs->RT [.int 10,dl [q],dl b] xs
 |v {q:Int} {b:List Int} {xs:List D}:M3 [.int q,dl b] xs->RT [.int 11,dl [q],dl b] xs
 |s {w h q:Int} {b:List Int} {xs:List D}:Uh [.int w,.int h,.int q,dl b] xs->RT [.int 12,dl [w,h,q],dl b] xs
theorem oZ {W:dg} (T:dC W "answer_without_codec" "answer_without_codec" jW ["number","whole","row"]) (c1:ax W "answer_forward" 4 (cv (Ky jg))) (c2:ax W "answer_backward" 4 (cv (Ky eD))) (c3:ax W "answer_levels" 3 (cv LS)) (c4:ax W "answer_values" 2 (cv M3)) (c5:ax W "answer_smooth" 5 (cv Uh)):ax W "answer_without_codec" 6 (cv RT):=by
 refine aQ (N:=["number","whole","row"]) T (by walk_at "fs") (λds O k h=>?_) λX c ds O k h=>?_
 ·obtain⟨_,_,h,_⟩:=h;cases h<;>rfl
 ·obtain⟨rfl,xs,hR,hk⟩:=h
  have step:∀{n m:Int} {w b:List Int} {e:aS} {p1 p2 p3 p4 p5:Pos} {jj} {rest:List Stmt} {kn:KR},(n=m->EV X [some (.int n),some (dl w),some (dl b)] [] e k)->(n≠m->SV X [some (.int n),some (dl w),some (dl b)] [] rest kn k)->SV X [some (.int n),some (dl w),some (dl b)] [] (.If (.Compare (.Name "number" p1) [.Eq] [.Constant (.int m) jj p2] p3) [.Return (some e) p4] [] p5::rest) kn k:=by
   intro n m w b e p1 p2 p3 p4 p5 jj rest kn h1 h2
   refine' eQ (t:=decide (n=m)) (rA ?y1 bI) ?h1 ?h2
   case y1=>walk_at "n"
   case h1=>intro hf;exact aT (h1 (of_decide_eq_true hf))
   case h2=>intro hf;exact aL (Wk.refl _) (h2 (of_decide_eq_false hf))
  have ix:∀{n:Int} {w b:List Int} {p1 p2 p3:Pos} {jj} {i:Nat} {z:Int},w[i]? =some z->bq X [some (.int n),some (dl w),some (dl b)] [] (.Subscript (.Name "whole" p1) (.Constant (.int i) jj p2) p3) (.int z):=by
   intro n w b p1 p2 p3 jj i z hz
   refine' j7 (l:=w) (f:=D.int) ?y1 bI rfl hz ?y2
   case y1=>walk_at "n"
   case y2=>intro _ _;rfl
  cases hR with
  |f h=>
   rename_i w b
   change SV X [some (.int 8),some (dl w),some (dl b)] [] _ _ _
   refine step (λ_=>?_) (λhn=>absurd rfl hn)
   refine' EV.own_k (aV c c1 (by decide) ?zg (aa ?y1 az) h) hk
   case zg=>decide+kernel
   case y1=>walk_at "n"
  |b h=>
   rename_i w b
   change SV X [some (.int 9),some (dl w),some (dl b)] [] _ _ _
   refine step (λe=>absurd e (by decide)) (λ_=>?_)
   refine step (λ_=>?_) (λhn=>absurd rfl hn)
   refine' EV.own_k (aV c c2 (by decide) ?zg (aa ?y1 az) h) hk
   case zg=>decide+kernel
   case y1=>walk_at "n"
  |l h=>
   rename_i q b
   change SV X [some (.int 10),some (dl [q]),some (dl b)] [] _ _ _
   refine step (λe=>absurd e (by decide)) (λ_=>?_)
   refine step (λe=>absurd e (by decide)) (λ_=>?_)
   refine step (λ_=>?_) (λhn=>absurd rfl hn)
   refine' EV.own_k (aV c c3 (by decide) ?zg (aa (ix (i:=0) rfl) (aa ?y1 az)) h) hk
   case zg=>decide+kernel
   case y1=>walk_at "n"
  |v h=>
   rename_i q b
   change SV X [some (.int 11),some (dl [q]),some (dl b)] [] _ _ _
   refine step (λe=>absurd e (by decide)) (λ_=>?_)
   refine step (λe=>absurd e (by decide)) (λ_=>?_)
   refine step (λe=>absurd e (by decide)) (λ_=>?_)
   refine step (λ_=>?_) (λhn=>absurd rfl hn)
   refine' EV.own_k (aV c c4 (by decide) ?zg (aa (ix (i:=0) rfl) (aa ?y1 az)) h) hk
   case zg=>decide+kernel
   case y1=>walk_at "n"
  |s h=>
   rename_i w h0 q b
   change SV X [some (.int 12),some (dl [w,h0,q]),some (dl b)] [] _ _ _
   refine step (λe=>absurd e (by decide)) (λ_=>?_)
   refine step (λe=>absurd e (by decide)) (λ_=>?_)
   refine step (λe=>absurd e (by decide)) (λ_=>?_)
   refine step (λe=>absurd e (by decide)) (λ_=>?_)
   refine' aT (EV.own_k (aV c c5 (by decide) ?zg (aa (ix (i:=0) rfl) (aa (ix (i:=1) rfl) (aa (ix (i:=2) rfl) (aa ?y1 az)))) h) hk)
   case zg=>decide+kernel
   case y1=>walk_at "n"
def Iu (CC P:Addr):tw:=λds O k=>∃(a:Addr) (w h q:Nat) (pic:Option Rd16.Pic) (b:df),pM w h pic/\Dy w h q/\b.length<=65536/\ds=[.ptr a,dl (Rd16.ints b)]/\O=eu CC P a w h q pic/\
 (match pz ⟨w,h,q,pic⟩ b with
  |none=>∀p,k (.ptr p) ((p,.lst [.int (-1)])::O)
  |some p'=>∀p,k (.ptr p) ((p,.lst [.int 0])::eu CC P a w h q (some p')))
inductive Bs (CC P a:Addr) (O:Os) (k:KD):List D->Prop where
 |begin {w h q:Int} {r:List Int}:DJ CC P [.ptr a,.int w,.int h,.int q] O k->Bs CC P a O k [.ptr a,.int 0,dl [w,h,q],dl r]
 |code {x y:Int} {r:List Int}:IB CC P [.ptr a,.int x,.int y,dl r] O k->Bs CC P a O k [.ptr a,.int 1,dl [x,y],dl r]
 |read {w r:List Int}:Iu CC P [.ptr a,dl r] O k->Bs CC P a O k [.ptr a,.int 2,dl w,dl r]
 |picture {x:Int} {r:List Int}:vK CC P [.ptr a,.int x] O k->Bs CC P a O k [.ptr a,.int 3,dl [x],dl r]
 |show_ {w r:List Int}:IU CC P [.ptr a,dl r] O k->Bs CC P a O k [.ptr a,.int 4,dl w,dl r]
 |search {i j x y:Int} {r:List Int}:yN CC P [.ptr a,.int i,.int j,.int x,.int y,dl r] O k->Bs CC P a O k [.ptr a,.int 5,dl [i,j,x,y],dl r]
 |moved {i j x y:Int} {r:List Int}:DD CC P [.ptr a,.int i,.int j,.int x,.int y] O k->Bs CC P a O k [.ptr a,.int 6,dl [i,j,x,y],dl r]
 |about {w r:List Int}:Df CC P [.ptr a] O k->Bs CC P a O k [.ptr a,.int 7,dl w,dl r]
def LOf (CC P:Addr):tw:=λds O k=>∃(a:Addr) (w h q:Nat) (pic:Option Rd16.Pic),O=eu CC P a w h q pic/\Bs CC P a O k ds
theorem vL {W:dg} {CC P:Addr} (hC:iS W.K CC) (T:dC W "answer_of_codec" "answer_of_codec" mM ["codec","number","whole","row"]) (k0:dM W CC "begin" 3 (DJ CC P)) (k1:dM W CC "code" 9 (IB CC P)) (k2:dM W CC "read" 9 (Iu CC P)) (k3:dM W CC "picture" 1 (vK CC P)) (k4:dM W CC "show" 1 (IU CC P)) (k5:dM W CC "search" 6 (yN CC P)) (k6:dM W CC "moved" 4 (DD CC P)) (k7:dM W CC "about" 1 (Df CC P)):ax W "answer_of_codec" 10 (LOf CC P):=by
 refine aQ (N:=["codec","number","whole","row"]) T (by walk_at "fs") (λds O k h=>?_) λX c ds O k h=>?_
 ·obtain⟨_,_,_,_,_,_,h⟩:=h;cases h<;>rfl
 ·obtain⟨a,w0,h0,q0,PJ,rfl,hR⟩:=h
  have ek:(λ(d:D) (O':Os)=>k d (O'++[]))=k:=by funext d O';rw[br]
  have step:∀{n m:Int} {w b:List Int} {e:aS} {p1 p2 p3 p4 p5:Pos} {jj} {rest:List Stmt} {kn:KR},(n=m->EV X [some (.ptr a),some (.int n),some (dl w),some (dl b)] (eu CC P a w0 h0 q0 PJ) e k)->(n≠m->SV X [some (.ptr a),some (.int n),some (dl w),some (dl b)] (eu CC P a w0 h0 q0 PJ) rest kn k)->SV X [some (.ptr a),some (.int n),some (dl w),some (dl b)] (eu CC P a w0 h0 q0 PJ) (.If (.Compare (.Name "number" p1) [.Eq] [.Constant (.int m) jj p2] p3) [.Return (some e) p4] [] p5::rest) kn k:=by
   intro n m w b e p1 p2 p3 p4 p5 jj rest kn h1 h2
   refine' eQ (t:=decide (n=m)) (rA ?y1 bI) ?h1 ?h2
   case y1=>walk_at "n"
   case h1=>intro hf;exact aT (h1 (of_decide_eq_true hf))
   case h2=>intro hf;exact aL (Wk.refl _) (h2 (of_decide_eq_false hf))
  have ix:∀{n:Int} {w b:List Int} {p1 p2 p3:Pos} {jj} {i:Nat} {z:Int},w[i]? =some z->bq X [some (.ptr a),some (.int n),some (dl w),some (dl b)] (eu CC P a w0 h0 q0 PJ) (.Subscript (.Name "whole" p1) (.Constant (.int i) jj p2) p3) (.int z):=by
   intro n w b p1 p2 p3 jj i z hz
   refine' j7 (l:=w) (f:=D.int) ?y1 bI rfl hz ?y2
   case y1=>walk_at "n"
   case y2=>intro _ _;rfl
  have nx:∀{n m:Int} {P:Prop},n≠m->n=m->P:=λh e=>absurd e h
  cases hR with
  |begin h=>
   rename_i w h0' q r
   change SV X [some (.ptr a),some (.int 0),some (dl [w,h0',q]),some (dl r)] _ _ _ _
   refine step (λ_=>?_) (λhn=>absurd rfl hn)
   refine' lI c hC k0 (by decide) ?y1 ae (by decide+kernel) (ir.go (aa (ix (i:=0) rfl) (aa (ix (i:=1) rfl) (aa (ix (i:=2) rfl) az))) ⟨_,[],rfl,by rw[ek];exact h⟩) rfl rfl rfl
   case y1=>walk_at "n"
  |code h=>
   rename_i x y r
   change SV X [some (.ptr a),some (.int 1),some (dl [x,y]),some (dl r)] _ _ _ _
   refine step (λe=>absurd e (by decide)) (λ_=>?_)
   refine step (λ_=>?_) (λhn=>absurd rfl hn)
   refine' lI c hC k1 (by decide) ?y1 ae (by decide+kernel) (ir.go (aa (ix (i:=0) rfl) (aa (ix (i:=1) rfl) (aa ?y2 az))) ⟨_,[],rfl,by rw[ek];exact h⟩) rfl rfl rfl
   case y1=>walk_at "n"
   case y2=>walk_at "n"
  |read h=>
   rename_i w r
   change SV X [some (.ptr a),some (.int 2),some (dl w),some (dl r)] _ _ _ _
   refine step (λe=>absurd e (by decide)) (λ_=>?_)
   refine step (λe=>absurd e (by decide)) (λ_=>?_)
   refine step (λ_=>?_) (λhn=>absurd rfl hn)
   refine' lI c hC k2 (by decide) ?y1 ae (by decide+kernel) (ir.go (aa ?y2 az) ⟨_,[],rfl,by rw[ek];exact h⟩) rfl rfl rfl
   case y1=>walk_at "n"
   case y2=>walk_at "n"
  |picture h=>
   rename_i x r
   change SV X [some (.ptr a),some (.int 3),some (dl [x]),some (dl r)] _ _ _ _
   refine step (λe=>absurd e (by decide)) (λ_=>?_)
   refine step (λe=>absurd e (by decide)) (λ_=>?_)
   refine step (λe=>absurd e (by decide)) (λ_=>?_)
   refine step (λ_=>?_) (λhn=>absurd rfl hn)
   refine' lI c hC k3 (by decide) ?y1 ae (by decide+kernel) (ir.go (aa (ix (i:=0) rfl) az) ⟨_,[],rfl,by rw[ek];exact h⟩) rfl rfl rfl
   case y1=>walk_at "n"
  |show_ h=>
   rename_i w r
   change SV X [some (.ptr a),some (.int 4),some (dl w),some (dl r)] _ _ _ _
   refine step (λe=>absurd e (by decide)) (λ_=>?_)
   refine step (λe=>absurd e (by decide)) (λ_=>?_)
   refine step (λe=>absurd e (by decide)) (λ_=>?_)
   refine step (λe=>absurd e (by decide)) (λ_=>?_)
   refine step (λ_=>?_) (λhn=>absurd rfl hn)
   refine' lI c hC k4 (by decide) ?y1 ae (by decide+kernel) (ir.go (aa ?y2 az) ⟨_,[],rfl,by rw[ek];exact h⟩) rfl rfl rfl
   case y1=>walk_at "n"
   case y2=>walk_at "n"
  |search h=>
   rename_i i j x y r
   change SV X [some (.ptr a),some (.int 5),some (dl [i,j,x,y]),some (dl r)] _ _ _ _
   refine step (λe=>absurd e (by decide)) (λ_=>?_)
   refine step (λe=>absurd e (by decide)) (λ_=>?_)
   refine step (λe=>absurd e (by decide)) (λ_=>?_)
   refine step (λe=>absurd e (by decide)) (λ_=>?_)
   refine step (λe=>absurd e (by decide)) (λ_=>?_)
   refine step (λ_=>?_) (λhn=>absurd rfl hn)
   refine' lI c hC k5 (by decide) ?y1 ae (by decide+kernel) (ir.go (aa (ix (i:=0) rfl) (aa (ix (i:=1) rfl) (aa (ix (i:=2) rfl) (aa (ix (i:=3) rfl) (aa ?y2 az))))) ⟨_,[],rfl,by rw[ek];exact h⟩) rfl rfl rfl
   case y1=>walk_at "n"
   case y2=>walk_at "n"
  |moved h=>
   rename_i i j x y r
   change SV X [some (.ptr a),some (.int 6),some (dl [i,j,x,y]),some (dl r)] _ _ _ _
   refine step (λe=>absurd e (by decide)) (λ_=>?_)
   refine step (λe=>absurd e (by decide)) (λ_=>?_)
   refine step (λe=>absurd e (by decide)) (λ_=>?_)
   refine step (λe=>absurd e (by decide)) (λ_=>?_)
   refine step (λe=>absurd e (by decide)) (λ_=>?_)
   refine step (λe=>absurd e (by decide)) (λ_=>?_)
   refine step (λ_=>?_) (λhn=>absurd rfl hn)
   refine' lI c hC k6 (by decide) ?y1 ae (by decide+kernel) (ir.go (aa (ix (i:=0) rfl) (aa (ix (i:=1) rfl) (aa (ix (i:=2) rfl) (aa (ix (i:=3) rfl) az)))) ⟨_,[],rfl,by rw[ek];exact h⟩) rfl rfl rfl
   case y1=>walk_at "n"
  |about h=>
   rename_i w r
   change SV X [some (.ptr a),some (.int 7),some (dl w),some (dl r)] _ _ _ _
   refine step (λe=>absurd e (by decide)) (λ_=>?_)
   refine step (λe=>absurd e (by decide)) (λ_=>?_)
   refine step (λe=>absurd e (by decide)) (λ_=>?_)
   refine step (λe=>absurd e (by decide)) (λ_=>?_)
   refine step (λe=>absurd e (by decide)) (λ_=>?_)
   refine step (λe=>absurd e (by decide)) (λ_=>?_)
   refine step (λe=>absurd e (by decide)) (λ_=>?_)
   refine' aT (LU (Ob:=[]) c hC k7 (by decide) ?y1 ae (by decide+kernel) (by rw[br]) (by rw[ek];exact h) rfl)
   case y1=>walk_at "n"
def Jz (W:dg):Prop:=∀{X:Cx} {N:List Str} {sc:Scope} {n:Nat} {tp:Bool} {ρ:dk} {O:Os} {tg e:aS} {ds:List D} {p pos:Pos},eZ W X N sc n tp->mr sc "reversed"->bq X ρ O e (.tup ds)->ak [e] X.env=[(false,eval e X.env)]->pF X ρ O tg (.Call (.Name "reversed" p) [e] [] pos) ds.reverse
theorem uB {W:dg} (B:Bn W) (rv:Jz W) (gT:Gv W "STEPS" Gx) (T:dC W "columns_backward" "columns_backward" l8 ["block"]) (c1:ax W "rows_of" 1 (cv Fs)) (c2:ax W "joined" 1 (cv BK)):ax W "columns_backward" 2 (cv (tG M.rR)):=by
 refine aQ (N:=["block","rows","t","s","c","a","b"]) T (by walk_at "fs") (λds O k h=>?_) λX c ds O k h=>?_
 ·obtain⟨_,_,⟨_,_,_,rfl,_⟩,_⟩:=h;rfl
 ·obtain⟨rfl,xs,⟨b,hl,hb,ji,gY⟩,hk⟩:=h
  subst ji
  rw[gY]at hk
  clear gY xs
  change SV X [some (dl b),none,none,none,none,none,none] [] _ _ _
  refine' gk (ds:=(M.cN b 8 8).map dl) (λa=>[some (dl b),some (.ptr a),none,none,none,none,none]) c ?hl ?he ?hx ?zh ?hs
  case hl=>decide+kernel
  case he=>
   refine' aV c c1 (by decide) ?g ?args ⟨b,8,8,by lia,by lia,by lia,by lia,rfl,rfl⟩
   case g=>decide+kernel
   case args=>
    refine' aa ?a1 (aa ?a2 az)
    case a1=>walk_at "n"
    case a2=>
     walk_at "ec"
     rfl
  case hx=>intro q;walk_at "put"
  case hs=>rfl
  case zh=>
  intro q
  have sq:∀i,M.KU ((dF.reverse.take i).foldl (M.dq M.tj) (M.cN b 8 8)):=λi=>
   (M.lK (f:=Rd16.unstep) (λa b=>a-b) M.EH (λx s=>rfl) (λa=>by simp) (dF.reverse.take i) _ (λs hs=>M.n6 s (OM.mp (i5 hs))) (M.Hv hl hb)).1
  refine' gy (ds:=dF.reverse.map Nu) c (pF.cast (rv c ?zgr ?hi rfl) ?qr) (λi ρ1 O1=>ρ1=[some (dl b),some (.ptr q),none,none,none,none,none]/\O1=[(q,.lst (((dF.reverse.take i).foldl (M.dq M.tj) (M.cN b 8 8)).map dl))]) ⟨rfl,rfl⟩ ?step ?done
  case zgr=>decide+kernel
  case hi=>walk_at "e"
  case qr=>rw[List.map_reverse]
  case done=>
   rintro ρ1 O1 ⟨rfl,rfl⟩
   rw[ah,dB]
   have s8:=sq dF.reverse.length
   rw[dB]at s8
   have yV:∀q,k (.ptr q) [(q,.lst ((dF.reverse.foldl (M.dq M.tj) (M.cN b 8 8)).flatten.map .int))]:=hk
   generalize dF.reverse.foldl (M.dq M.tj) (M.cN b 8 8)=R at s8 yV
   refine' IE (ρ':=[some (dl b),some (.lst (R.map dl)),none,none,none,none,none]) ?fz (aT (EV.own_k (aV c c2 (by decide) ?g ?args ⟨R,by rw[Fg s8];lia,rfl,rfl⟩) yV))
   case fz=>walk_at "fz"
   case g=>decide+kernel
   case args=>walk_at "es"
  case step=>
   rintro i d ρ1 O1 hd ⟨rfl,rfl⟩
   rw[aE]at hd
   obtain⟨s,hs,rfl⟩:=bU.mp hd
   have Pa:=OM.mp (bJ hs)
   obtain⟨t8,s8⟩:=M.n6 s Pa
   obtain⟨k1,k2⟩:=Jf s Pa
   have q8:=sq i
   rw[cW hs,xq,eM,BC]
   generalize (dF.reverse.take i).foldl (M.dq M.tj) (M.cN b 8 8)=R at q8
   have T7:R[s.2.1]? =some (R.getD s.2.1 []):=kY (by rw[q8.len];exact s8)
   have RX:R[s.1]? =some (R.getD s.1 []):=kY (by rw[q8.len];exact t8)
   have rl:=q8.rowLen t8
   refine⟨_,by walk_at "tg2",?_⟩
   have SY:∀{Y:Cx} {ρ2:dk} {e:aS} {i2:aS} {pos:Pos} {j:Nat},bq Y ρ2 [(q,.lst (R.map dl))] e (.ptr q)->bq Y ρ2 [(q,.lst (R.map dl))] i2 (.int (j:Nat))->R[j]? =some (R.getD j [])->lG i2->bq Y ρ2 [(q,.lst (R.map dl))] (.Subscript e i2 pos) (dl (R.getD j [])):=
    λ{Y ρ2 e i2 pos j} h1 h2 h3 h4=>IT h1 ae h2 (vG (by rw[aE,h3];rfl)) h4
   refine' eQ (t:=(R.getD s.2.1 []).any λz=>z !=0) (fV (mf c B ?g (SY ?e1 ?e2 T7 ?pl) rfl) ?tv) ?h1 ?h2
   case g=>decide+kernel
   case e1=>walk_at "n"
   case e2=>walk_at "n"
   case pl=>intro _ _;rfl
   case tv=>intro _;rfl
   case h2=>
    intro hf
    refine aL (Wk.refl _) ?_
    refine' aL ?w ⟨rfl,?qq⟩
    case w=>walk_at "wk"
    case qq=>unfold M.dq;rw[hf];rfl
   case h1=>
    intro hf
    refine' kA (q:=q) (d:=dl (((R.getD s.1 []).zip (R.getD s.2.1 [])).map λp=>M.tj p.1 p.2 s.2.2)) (jj:=s.1) (cD.pev (cD.cast (ds:=?BS) ?eU ?qU)) ?ho ?hi ?hj .here ?zh
    case ho=>walk_at "n"
    case hi=>walk_at "n"
    case hj=>rw[ah,q8.len];exact sy t8
    case eU=>
     refine' fP ["a","b"] [5,6] (l:=(R.getD s.1 []).zip (R.getD s.2.1 [])) (enc:=λp=>D.tup [.int p.1,.int p.2]) (g:=λp=>D.int (M.tj p.1 p.2 s.2.2)) c ?yR ?Q3 ?AR ?Av ?Ud ?HQ
     case yR=>
      refine' iN (e1:=D.int) (e2:=D.int) c ?g2 B.zip (SY ?e1 ?e2 RX ?pl) (SY ?e3 ?e4 T7 ?Y1)
      case g2=>decide+kernel
      case e1=>walk_at "n"
      case e2=>walk_at "n"
      case pl=>intro _ _;rfl
      case e3=>walk_at "n"
      case e4=>walk_at "n"
      case Y1=>intro _ _;rfl
     case Q3=>decide+kernel
     case AR=>decide+kernel
     case Av=>rw[bZ,rl,af];lia
     case Ud=>walk_at "wp"
     case HQ=>
      intro p hp
      refine⟨_,λY cY=>⟨by walk_at "tg2",?_⟩⟩
      walk_at "ec"
      rfl
    case qU=>rw[aF];rfl
    case zh=>
     refine aL (Wk.refl _) ?_
     refine' aL ?w ⟨rfl,?qq⟩
     case w=>walk_at "wk"
     case qq=>unfold M.dq;rw[if_pos hf,mj]
theorem G1 {W:dg} (T:dC W "backward" "backward" Ay ["block"]) (c1:ax W "columns_backward" 2 (cv (tG M.rR))) (c2:ax W "turned" 2 (cv Jp)):ax W "backward" 3 (cv (tG eD)):=by
 refine aQ (N:=["block","rows_done"]) T (by walk_at "fs") (λds O k h=>?_) λX c ds O k h=>?_
 ·obtain⟨_,_,⟨_,_,_,rfl,_⟩,_⟩:=h;rfl
 ·obtain⟨rfl,xs,⟨b,hl,hb,ji,gY⟩,hk⟩:=h
  subst ji
  rw[gY]at hk
  clear gY xs
  rw[<-(M.HF hl hb).1]at hk
  have l0:=M.cZ b
  have b0:=M.jw hb
  obtain⟨e1,b1⟩:=M.zB l0 b0
  have l1:(M.rR (sX b)).length=64:=by rw[e1,M.cZ]
  have b2:=M.jw b1
  have l2:=M.cZ (M.rR (sX b))
  change SV X [some (dl b),none] [] _ _ _
  refine' bK (d:=dl (sX (M.rR (sX b)))) c ?hl (bq.cast (cD.pev (aV c c2 (by decide) ?zg (aa (cD.pev (aV c c1 (by decide) ?wW (aa (bq.cast (cD.pev (aV c c2 (by decide) ?O9 (aa ?y1 (aa ?y2 az)) ⟨_,8,8,by lia,by lia,hl,by lia,rfl,rfl⟩)) (by rw[M.nV])) az) ⟨_,l0,b0,rfl,rfl⟩)) (aa ?y3 az)) ⟨_,8,8,by lia,by lia,l1,by lia,rfl,rfl⟩)) (by rw[M.nV])) ?hp ?zh
  case hl=>decide+kernel
  case zg=>decide+kernel
  case wW=>decide+kernel
  case O9=>decide+kernel
  case y1=>walk_at "n"
  case y2=>
   walk_at "ec"
   rfl
  case y3=>
   walk_at "ec"
   rfl
  case hp=>walk_at "put"
  case zh=>
   refine' aT (EV.own_k (aV c c1 (by decide) ?zg ?za ⟨_,l2,b2,rfl,rfl⟩) hk)
   case zg=>decide+kernel
   case za=>walk_at "es"
theorem Q8 {W:dg} (B:Bn W):Jz W:=λc hg h hs=>PV c hg B.rev h hs
def wJ (B:Heap) (l:List Env) (a:Addr) (cls:Value) (h:Heap):Prop:=B.StaysIn h/\B.get? a=none/\h.FunFrames B l/\∃a0 fl,h.TracedAtW B a cls a0 fl
section
variable {M:Model} {A:cG} {E:Value->ao->Prop} {s:ao} {B:Heap} {env:Env} {outer l:List Env} {L a:Addr} {cls:Value}
theorem Qo {a0:Value} {h:Heap} (f:Heap.FlyingW B l a cls a0 h):wJ B l a cls h:=⟨f.1,f.2.1,f.2.2.1,a0,_,f.2.2.2⟩
theorem uT {Q:Unit->ao->Prop} (fr:Option Addr) (f:wJ B l a cls s.heap) (hQ:∀h',wJ B l a cls h'->s.heap.UpToSlots h'->Q () {s with heap:=h'}):wpAny M A (setFlight (.ref a) fr) Q E s:=by
 obtain⟨f1,f2,f3,a0,fl,oe,vs,T,oT,ts,he,Bp,hd,h1,R3,Vw,hT,OR,h3⟩:=f
 have z3:3<ts.size:=(iW.mp h3).1
 have Q0:∀b,b≠T->(s.heap.update T (oA (·.setIfInBounds 3 (fr.elim cK λf=>rawInt f)))).get? b=s.heap.get? b:=λb hb=>kg _ _ (iy hb)
 have N2:∀b o,s.heap.get? b=some o->(∀vs,o.data≠.fields vs)->b≠T:=λb o hb hn q=>by
  rw[q,hT]at hb;cases hb;exact hn ts OR
 unfold setFlight
 refine wpAny_bind (b9 he hd h1 ?_)
 rw[if_pos (by simp:(bt T !=cK)=true)]
 refine ju hT OR z3 (hQ _ ⟨λb o hb=>(Q0 b λq=>by rw[q,R3]at hb;cases hb).trans (f1 b o hb),f2,f3.of_keeps λb o hb hn=>⟨o,(Q0 b (N2 b o hb hn)).trans hb,rfl⟩,a0,fr.elim cK λf=>rawInt f,?_⟩ λb o hb hn=>⟨o.slots,(Q0 b (N2 b o hb hn)).trans hb⟩)
 exact⟨oe,vs,T,_,_,(Q0 a (iy Vw)).trans he,Bp,hd,h1,R3,Vw,fX _ hT (k9 (fc OR _)),fc OR _,by simp[z3]⟩
theorem AA {Q:Unit->ao->Prop} (Lv:A.frames=some (env::outer)) (hf:env.frame=some L) (f:wJ B (env::outer) a cls s.heap)
  (hQ:∀h',wJ B (env::outer) a cls h'->s.heap.UpToSlots h'->Q () {s with heap:=h'}):wpAny M A (oq (.ref a) env) Q E s:=by
 obtain⟨f1,f2,f3,a0,fl,f4⟩:=f
 by_cases e:fl=rawInt L
 ·subst e
  exact wpAny_noteFrame_againW hf f4 (hQ s.heap ⟨f1,f2,f3,a0,_,f4⟩ (.refl _))
 ·obtain⟨oe,vs,T,oT,ts,he,⟨Bp,h0⟩,hd,h1,R3,Vw,hT,OR,h3⟩:=f4
  subst Bp
  have Q0:∀b,b≠T->(s.heap.update T (oA (·.setIfInBounds 3 cK))).get? b=s.heap.get? b:=λb hb=>kg _ _ (iy hb)
  have N2:∀b o,s.heap.get? b=some o->(∀vs,o.data≠.fields vs)->b≠T:=λb o hb hn q=>by
   rw[q,hT]at hb;cases hb;exact hn ts OR
  unfold oq
  simp only[hf]
  refine wpAny_bind (b9 he hd h1 ?_)
  rw[if_pos (by simp:(bt T !=cK)=true)]
  refine wpAny_bind (b9 hT OR h3 ?_)
  rw[if_neg (by simpa using e:¬((fl==rawInt L)=true))]
  refine wpAny_bind (ju hT OR (iW.mp h3).1 ?_)
  exact wpAny_entryW Lv (f3.of_keeps λb o hb hn=>⟨o,(Q0 b (N2 b o hb hn)).trans hb,rfl⟩) hf ((Q0 a (iy Vw)).trans he) (λb o hb=>(Q0 b λq=>by rw[q,R3]at hb;cases hb).trans (f1 b o hb)) f2 hd
   (iW.mp h1).1 h0 λh' ⟨x1,x2,x3,x4⟩=>hQ h' ⟨x1,f2,x2,a0,_,x3⟩ λb o hb hn=>x4 b o ((Q0 b (N2 b o hb hn)).trans hb) hn
theorem Lj {Q:Unit->ao->Prop} (Lv:A.frames=some (env::outer)) (hf:env.frame=some L) (f:wJ B (env::outer) a cls s.heap)
  (hQ:∀h',wJ B outer a cls h'->s.heap.UpToSlots h'->Q () {s with heap:=h'}):wpAny M A (leaving env (.ref a)) Q E s:=by
 unfold leaving
 refine wpAny_bind (AA Lv hf f λh1 f1 u1=>?_)
 exact uT none f1 λh2 ⟨x1,x2,⟨_,_,x3⟩,x4⟩ u2=>hQ h2 ⟨x1,x2,x3,x4⟩ (u1.trans u2)
theorem Nt {α:Type} {Q:α->ao->Prop} {ZH:String} (f:wJ B l a cls s.heap) (hQ:∀h',wJ B l a cls h'->s.heap.UpToSlots h'->E (.ref a) {s with heap:=h'}):wpAny M A (passOn ZH (.ref a) env:Sem α) Q E s:=by
 obtain⟨f1,f2,f3,a0,fl,oe,vs,T,oT,ts,he,Bp,hd,h1,hr⟩:=id f
 unfold passOn
 refine wpAny_bind (b9 he hd h1 ?_)
 rw[if_neg (by simp:¬((bt T==cK)=true))]
 first
  |exact wpAny_bind (wpAny_pure (wpAny_bind (uT _ f λh' x y=>wpAny_throw (hQ h' x y))))
  |exact wpAny_bind (uT _ f λh' x y=>wpAny_throw (hQ h' x y))
end
theorem Ij {h h' B B':Heap}:∀{l:List Env},h.FunFrames B l->(∀b o,B.get? b=none->h.get? b=some o->b∈yi l->h'.get? b=some o/\B'.get? b=none)->h'.FunFrames B' l
 |[],_,_=>trivial
 |env::rest,⟨hk,⟨L,o,hf,hn,ho,hd⟩,hr⟩,k=>by
  have hm:L∈yi (env::rest):=cR.mpr ⟨env,ae,hf⟩
  obtain⟨e1,e2⟩:=k L o hn ho hm
  exact⟨hk,⟨L,o,hf,e2,e1,hd⟩,Ij hr λb o h1 h2 h3=>k b o h1 h2 (by
   obtain⟨e,he,hf⟩:=cR.mp h3
   exact cR.mpr ⟨e,ai _ he,hf⟩)⟩
structure OS (P:bR) (w:du) (R:Addr) (fs ex:List Addr) (l:List Env) (H:Hp) (h B:Heap) (a:Addr) (H':Hp) (h':Heap):Prop where
 fly:wJ B l a (.ref R) h'
 hok:yn P w H' B
 keep:∀b o,h.get? b=some o->H b=none->b∉fs->b∉ex->B.get? b=some o
 slot:∀b o,h.get? b=some o->H b=none->b∈fs->b∉ex->∃sl,h'.get? b=some {o with slots:=sl}
 free:∀b o,h.get? b=some o->H b=none->b∉ex->H' b=none
 there:∀b o,h.get? b=some o->b∉fs->b∉ex->∃o',B.get? b=some o'
 tups:∀b xs,H b=some (.tup xs)->H' b=some (.tup xs)
 frzs:∀b o u,H b=some (.frz o u)->H' b=some (.frz o u)
 tbls:∀b ps,H b=some (.tbl ps)->∃more,H' b=some (.tbl (ps++more))
section
variable {P:bR} {w:du} {R:Addr} {fs ex:List Addr} {l:List Env} {H H':Hp} {h h' h2 B:Heap} {a:Addr}
theorem OS.un (f:OS P w R fs ex l H h B a H' h') (frf:∀b∈fs,H b=none):Un fs ex H H' h h' where
 keep:=λb o q n hf hx=>f.fly.1 b o (f.keep b o q n hf hx)
 slot:=f.slot
 free:=f.free
 there:=λb o q hx=>by
  by_cases hb:b∈fs
  ·obtain⟨sl,e⟩:=f.slot b o q (frf b hb) hb hx
   exact⟨_,e⟩
  ·obtain⟨o',e⟩:=f.there b o q hb hx
   exact⟨o',f.fly.1 b o' e⟩
 tups:=f.tups
 frzs:=f.frzs
 tbls:=f.tbls
theorem OS.on (f:OS P w R fs ex l H h B a H' h') {l2:List Env} (g:wJ B l2 a (.ref R) h2) (hd:∀b∈fs,∀o,h.get? b=some o->∀vs,o.data≠.fields vs) (u:h'.UpToSlots h2):OS P w R fs ex l2 H h B a H' h2:=
 ⟨g,f.hok,f.keep,λb o q n hf hx=>by
  obtain⟨sl,e⟩:=f.slot b o q n hf hx
  obtain⟨RA,e2⟩:=u b _ e (hd b hf o q)
  exact⟨RA,e2⟩,f.free,f.there,f.tups,f.frzs,f.tbls⟩
end
def Gs (P:bR) (w:du) (R:Addr):Qi:=λouter H s E e s'=>∃a B H',e= .ref a/\s'.os=s.os/\ot s'.gens/\OS P w R (yi outer) [] outer H s.heap B a H' s'.heap/\E .none none H'
def XL (X:Cx) (R a:Addr) (H':Hp) (s':ao):Prop:=∃pins σ H s B ch,bG X pins σ H s/\(∀b∈ch,qL X pins H b)/\s'.os=s.os/\ot s'.gens/\OS X.prog X.w R (yi X.stack) ch X.stack H s.heap B a H' s'.heap
structure XI (X:Cx) (R a:Addr) (H':Hp) (s':ao):Prop where
 ok:X.Ok
 os:s'.os=X.s_0.os
 bare:ot s'.gens
 ex:∃B,OS X.prog X.w R X.fs X.ex X.stack X.H_0 X.s_0.heap B a H' s'.heap/\H' X.env.locals=none/\(X.env.locals∉yi X.stack->∃m,B.Ns X.env.locals m)
def uR (X:Cx):Prop:=X.stack=X.env::X.outer/\X.env.frame=some X.env.locals
section
variable {X:Cx} {R a:Addr} {H H':Hp} {s s':ao} {pins:List (Addr×Obj)} {σ:St} {B:Heap}
theorem bG.fsStk (I:bG X pins σ H s):∀b∈X.fs,b∈yi X.stack:=λb hb=>by
 rcases I.ok.stk with e|⟨e,_⟩
 ·rw[e];exact hb
 ·rw[e]
  obtain⟨v,hv,hf⟩:=cR.mp hb
  exact cR.mpr ⟨v,ai _ hv,hf⟩
theorem bG.notStk (I:bG X pins σ H s) {b:Addr} {o:Obj} (q:X.s_0.heap.get? b=some o) (hf:b∉X.fs):b∉yi X.stack:=λz=>by
 rcases aB.mp (I.stkSub b z)with e|e
 ·have:=aN q
  rw[e]at this
  exact absurd (aX this I.ok.above) (c9 _)
 ·exact hf e
theorem XL.xi (x:XL X R a H' s'):XI X R a H' s':=by
 obtain⟨pins,σ,H,s,B,ch,I,wu,ho,hg,f⟩:=x
 have nc:∀b o,X.s_0.heap.get? b=some o->b∉X.ex->b∉ch:=λb o q hx hb=>by
  rcases(wu b hb).2.2.2.1 with z|z
  ·exact hx z
  ·exact absurd (aX (aN q) z) (c9 _)
 have nl:X.env.locals∉ch:=λz=>(wu _ z).2.1 rfl
 obtain⟨m,⟨oL,es,ep,hL,hr⟩,_⟩:=id I.loc
 refine⟨I.ok,ho.trans I.os,hg,B,⟨f.fly,f.hok,λb o q n hf hx=>f.keep b o (I.base.keep b o q n hf hx) (I.base.free b o q n hx) (bG.notStk I q hf) (nc b o q hx),λb o q n hf hx=>?_,λb o q n hx=>?_,λb o q hf hx=>?_,λb xs q=>f.tups b xs (I.base.tups b xs q),
  λb o u q=>f.frzs b o u (I.base.frzs b o u q),λb ps q=>?_⟩,f.free _ _ hL I.free nl,λhn=>⟨m,oL,es,ep,f.keep _ _ hL I.free hn nl,hr⟩⟩
 ·obtain⟨sl,e⟩:=I.base.slot b o q n hf hx
  obtain⟨RA,e2⟩:=f.slot b _ e (I.base.free b o q n hx) (bG.fsStk I b hf) (nc b o q hx)
  exact⟨RA,e2⟩
 ·obtain⟨o',e⟩:=I.base.there b o q hx
  exact f.free b o' e (I.base.free b o q n hx) (nc b o q hx)
 ·obtain⟨o',e⟩:=I.base.there b o q hx
  exact f.there b o' e (bG.notStk I q hf) (nc b o q hx)
 ·obtain⟨m1,e1⟩:=I.base.tbls b ps q
  obtain⟨m2,e2⟩:=f.tbls b _ e1
  exact⟨m1++m2,by rw[e2,JA]⟩
theorem XI.data (x:XI X R a H' s'):∀b∈X.fs,∀o,X.s_0.heap.get? b=some o->∀vs,o.data≠.fields vs:=λb hb o q=>by
 obtain⟨_,o',ho',hd⟩:=x.ok.funs.mem hb
 rw[q]at ho';cases ho'
 exact hd
end
theorem Oh {P:bR} {w:du} {K:ag} {mg:Str->Option Value} {base:Heap} {N:List Str} {qual:Str} {scope:Scope} {f a R:Addr} {cd:Value} {A:cG} {outer:List Env} {s s':ao} {H H':Hp} {E:XK}
  (x:XI (oF (Gs P w R) P w K mg base N qual scope f cd A outer s H E) R a H' s') (hE:E .none none H'):(oF (Gs P w R) P w K mg base N qual scope f cd A outer s H E).xe (.ref a) s':=by
 obtain⟨B,fl,_,_⟩:=x.ex
 exact Lj x.ok.frames rfl fl.fly λh2 f2 u2=>⟨a,B,H',rfl,x.os,x.bare,fl.on f2 x.data u2,hE⟩
theorem Gq {P:bR} {w:du} {K:ag} {mg:Str->Option Value} {base:Heap} {N:List Str} {qual:Str} {scope:Scope} {f e R:Addr} {cd:Value} {A:cG} {outer:List Env} {s s1:ao} {H H':Hp} {E:XK} {pins:List (Addr×Obj)} {σ:St} {h':Heap} {vs:List Value}
  (I:bG (oF (Gs P w R) P w K mg base N qual scope f cd A outer s H E) pins σ H' s1) (hx:Heap.MadeExcOf s1.heap h' e (.ref R) vs) (hE:E .none none H'):(oF (Gs P w R) P w K mg base N qual scope f cd A outer s H E).xe (.ref e) {s1 with heap:=h'}:=by
 generalize hX:oF (Gs P w R) P w K mg base N qual scope f cd A outer s H E=X at I
 have e1:X.stack=X.env::X.outer:=by rw[<-hX];rfl
 have e2:X.env.frame=some X.env.locals:=by rw[<-hX];rfl
 have ff:=I.stack
 have fr:=I.ok.frames
 rw[e1]at ff fr
 have Rq:∀env∈X.env::X.outer,∀b,env.frame=some b->b∈yi X.stack:=λenv he b hb=>by rw[e1];exact cR.mpr ⟨env,he,hb⟩
 have key:wpAny (aU X.prog X.w) X.A (leaving X.env (.ref e)) (λ_ S6=>Gs X.prog X.w R X.outer X.H_0 X.s_0 E (.ref e) S6) (λe' S6=>Gs X.prog X.w R X.outer X.H_0 X.s_0 E e' S6) {s1 with heap:=h'}:=by
  refine wpAny_leaves_madeW (base:=lg s1.heap (yi X.stack)) fr e2 (λb o q=>lV _ q) (PySem.W.funFrames_hide ff Rq) hx λh2 t f2 _ _ u2=>⟨e,_,H',rfl,I.os,I.bare,⟨Qo f2,λb o q=>?_,λb o q n hf hx=>?_,λb o q n hf hx'=>?_,λb o q n _=>I.base.free b o q n (by rw[<-hX];simp[oF]),λb o q hf hx=>?_,I.base.tups,I.base.frzs,I.base.tbls⟩,hE⟩
  ·refine(I.hok b o q).stay (λc v hc r=>fq _ r λz=>?_) (λ_ q=>q) λ_ _ q=>q
   have hn:=I.stkFree c z
   rcases hc with rfl|hc
   ·rw[q]at hn;cases hn
   ·rw[hc]at hn;cases hn
  ·have nx:b∉X.ex:=by rw[<-hX];simp[oF]
   exact fq _ (I.base.keep b o q n hf nx) (bG.notStk I q hf)
  ·have nx:b∉X.ex:=by rw[<-hX];simp[oF]
   obtain⟨sl,e⟩:=I.base.slot b o q n hf nx
   obtain⟨_,o',ho',hd⟩:=I.ok.funs.mem hf
   rw[q]at ho';cases ho'
   obtain⟨RA,e2⟩:=u2 b _ (hx.keeps _ _ e) hd
   exact⟨RA,e2⟩
  ·have nx:b∉X.ex:=by rw[<-hX];simp[oF]
   obtain⟨o',e⟩:=I.base.there b o q nx
   exact⟨o',fq _ e (bG.notStk I q hf)⟩
 subst hX
 exact key
def Xa (X:Cx) (R:Addr) (H':Hp):Prop:=(∀a s',XL X R a H' s'->X.xe (.ref a) s')/\(uR X->∀pins σ s,bG X pins σ H' s->∀h' e vs,Heap.MadeExcOf s.heap h' e (.ref R) vs->X.xe (.ref e) {s with heap:=h'})
def PX (X:Cx) (R:Addr) (rx:Prop) (F H:Hp) (O:Os):Prop:=rx->∀O' F' H',dI (cU O) F H (cU O') F' H'->bX F' H'->cB X.K F' O' H'->Xa X R H'
theorem PX.after {X:Cx} {R:Addr} {rx:Prop} {F H F1 H1:Hp} {O O1:Os} (p:PX X R rx F H O) (g:dI (cU O) F H (cU O1) F1 H1):PX X R rx F1 H1 O1:=λr O' F' H' g'=>p r O' F' H' (g.trans g')
section
variable (R:Addr) (rx:Prop) (X:Cx) (ρ:dk) (O:Os)
structure mq (e:aS) (k:KD):Prop where
 run:∀σ F H Q,jE X.K F ρ O σ H->jo X.K F H O k Q->PX X R rx F H O->tW X e σ H Q
structure KL (es:List aS) (k:QM):Prop where
 run:∀σ F H Q,jE X.K F ρ O σ H->NM X.K F H O k Q->PX X R rx F H O->Wo X es σ H Q
structure Zh (e:aS) (k:KB):Prop where
 run:∀σ F H Q,jE X.K F ρ O σ H->Co X.K F H O k Q->PX X R rx F H O->VP X e σ H Q
structure X0 (st:Stmt) (kn:KR) (kr:KD):Prop where
 run:∀σ F H (E:uw),jE X.K F ρ O σ H->vW X.K F H O kn E.nx->jo X.K F H O kr E.rt->PX X R rx F H O->Sl X st E σ H
structure lD (m5:List Stmt) (kn:KR) (kr:KD):Prop where
 run:∀σ F H (E:uw),jE X.K F ρ O σ H->vW X.K F H O kn E.nx->jo X.K F H O kr E.rt->PX X R rx F H O->Pu X m5 E σ H
structure Yx (tg iter:aS) (k:List D->Os->Prop):Prop where
 run:∀σ F H (Rt:It->Hp->Prop),jE X.K F ρ O σ H->
  (∀J ds O1 F1 H1,dI (cU O) F H (cU O1) F1 H1->bX F1 H1->cB X.K F1 O1 H1->CT X.K J ds F1->k ds O1->Rt J H1)->PX X R rx F H O->Ta X tg iter σ H Rt
end
section
variable {R:Addr} {rx:Prop} {X:Cx} {ρ ρ':dk} {O:Os} {e a b c':aS} {es:List aS} {st:Stmt} {m5 rest:List Stmt} {k k':KD} {kn:KR} {kr:KD} {d:D} {pos:Pos} {tg iter:aS}
theorem EV.x (h:EV X ρ O e k):mq R rx X ρ O e k:= .mk λσ F H Q s p _=>h.run σ F H Q s p
theorem Dc.x {k:QM} (h:Dc X ρ O es k):KL R rx X ρ O es k:= .mk λσ F H Q s p _=>h.run σ F H Q s p
theorem SV.x (h:SV X ρ O m5 kn kr):lD R rx X ρ O m5 kn kr:= .mk λσ F H E s pn p _=>h.run σ F H E s pn p
theorem mq.mono (h:mq R rx X ρ O e k) (m:∀d O',k d O'->k' d O'):mq R rx X ρ O e k':= .mk λσ F H Q s p x=>h.run σ F H Q s (λv d O' F' H' g su ow r q=>p v d O' F' H' g su ow r (m d O' q)) x
theorem bq.gox (h:bq X ρ O e d) (q:k d O):mq R rx X ρ O e k:=(h.go q).x
theorem Em {k:QM} (h:k [] O):KL R rx X ρ O [] k:=(yM h).x
theorem r8 {k:QM} (h:mq R rx X ρ O e λd O1=>KL R rx X ρ O1 es λds O2=>k (d::ds) O2) (hs:ak (e::es) X.env=(false,eval e X.env)::ak es X.env:=by rfl):KL R rx X ρ O (e::es) k:= .mk λσ F H Q s p x=>
 PA.to (uQ bV kZ hs) (h.run σ F H _ s (λv d O1 F1 H1 g su ow r q=>q.run σ F1 H1 _ (s.grow g.ff su ow) (λvs ds O2 F2 H2 g2 gX gB r2 q2=>
  p (v::vs) (d::ds) O2 F2 H2 (g.trans g2) gX gB (.cons (r.mono g2.ff) r2) q2) (x.after g)) x)
theorem Jx {op:wy} {r:R2} (ho:ql X (js op) r) (h:mq R rx X ρ O a λd1 O1=>mq R rx X ρ O1 b λd2 O2=>wV X.K r O2 d1 d2 k):mq R rx X ρ O (.BinOp a op b pos) k:= .mk λσ F H Q s p x=>
 PE.to (RJ ho bV bV) (h.run σ F H _ s (λv d1 O1 F1 H1 g su ow r1 q=>q.run σ F1 H1 _ (s.grow g.ff su ow) (λu d2 O2 F2 H2 g2 gX gB r2 q2=>
  q2 F2 H2 v u Q gX gB (r1.mono g2.ff) r2 (p.after (g.trans g2))) (x.after g)) x)
theorem P4 {Cw:qb} {r:R2} {k:KB} (ho:ql X (dG Cw) r) (h:mq R rx X ρ O a λd1 O1=>mq R rx X ρ O1 b λd2 O2=>wV X.K r O2 d1 d2 λd O3=>∃c,d= .bl c/\k c O3) (hm:eR Cw b=false):Zh R rx X ρ O (.Compare a [Cw] [b] pos) k:= .mk λσ F H Q s p x=>
 PT.to (Jl ho bV bV hm) (h.run σ F H _ s (λv d1 O1 F1 H1 g su ow r1 q=>q.run σ F1 H1 _ (s.grow g.ff su ow) (λu d2 O2 F2 H2 g2 gX gB r2 q2=>
  q2 F2 H2 v u _ gX gB (r1.mono g2.ff) r2 λz d O3 F3 H3 g3 kX kN r3 ⟨c,ed,q3⟩=>⟨c,by subst ed;exact r3,p c O3 F3 H3 ((g.trans g2).trans g3) kX kN q3⟩) (x.after g)) x)
theorem Pl {Cw:qb} {r:R2} (ho:ql X (dG Cw) r) (h:mq R rx X ρ O a λd1 O1=>mq R rx X ρ O1 b λd2 O2=>wV X.K r O2 d1 d2 k) (hm:eR Cw b=false):mq R rx X ρ O (.Compare a [Cw] [b] pos) k:= .mk λσ F H Q s p x=>
 PE.to (IF ho bV bV hm) (h.run σ F H _ s (λv d1 O1 F1 H1 g su ow r1 q=>q.run σ F1 H1 _ (s.grow g.ff su ow) (λu d2 O2 F2 H2 g2 gX gB r2 q2=>
  q2 F2 H2 v u Q gX gB (r1.mono g2.ff) r2 (p.after (g.trans g2))) (x.after g)) x)
theorem qP {j:Int} (h:mq R rx X ρ O a λd O1=>∃i:Int,d= .int i/\bq X ρ O1 b (.int j)/\k (.int (i+j)) O1):mq R rx X ρ O (.BinOp a .Add b pos) k:=
 Jx Hi (h.mono λd O1 ⟨i,e,hb,q⟩=>by subst e;exact bq.gox hb (qO (h:=λi j=>i+j) q))
theorem Nw {i:Int} (ha:bq X ρ O a (.int i)) (h:mq R rx X ρ O b λd O1=>∃j:Int,d= .int j/\k (.int (i+j)) O1):mq R rx X ρ O (.BinOp a .Add b pos) k:=
 Jx Hi (bq.gox ha (h.mono λd O1 ⟨j,e,q⟩=>by subst e;exact qO (h:=λi j=>i+j) q))
theorem Rf {j:Int} (h:mq R rx X ρ O a λd O1=>∃i:Int,d= .int i/\bq X ρ O1 b (.int j)/\k (.bl (decide (i=j))) O1):mq R rx X ρ O (.Compare a [.Eq] [b] pos) k:=
 Pl Jj (h.mono λd O1 ⟨i,e,hb,q⟩=>by subst e;exact bq.gox hb (yU q)) (oO _)
theorem Pj {j:Int} {k:KB} (h:mq R rx X ρ O a λd O1=>∃i:Int,d= .int i/\bq X ρ O1 b (.int j)/\k (decide (i=j)) O1):Zh R rx X ρ O (.Compare a [.Eq] [b] pos) k:=
 P4 Jj (h.mono λd O1 ⟨i,e,hb,q⟩=>by subst e;exact bq.gox hb (yU ⟨_,rfl,q⟩)) (oO _)
theorem Oo {t:Bool} (hc:nP X ρ O c' t) (ha:t=true->mq R rx X ρ O a k) (hb:t=false->mq R rx X ρ O b k):mq R rx X ρ O (.IfExp c' a b pos) k:= .mk λσ F H Q s p x=>
 PE.to (EM pI bV bV) (hc σ F H _ s λz O1 F1 H1 g su ow ⟨q1,q2⟩=>by
  subst q1;subst q2
  cases z with
  |true=>exact AD ((ha rfl).run σ F1 H1 Q (s.grow g.ff su ow) (p.after g) (x.after g))
  |false=>exact z0 ((hb rfl).run σ F1 H1 Q (s.grow g.ff su ow) (p.after g) (x.after g)))
theorem Sl.of {E:uw} {σ:St} {H:Hp} (h:Pu X [st] E σ H):Sl X st E σ H:=λpins s I Γ p hΓ=>by
 have h:=h pins s I Γ p hΓ
 rw[execs_cons,Sem.wp_bind']at h
 refine Sem.wp_mono _ Γ _ (λf p' s' h'=>?_) (λ_ _ _ h'=>h') _ _ h
 cases f<;>exact h'
theorem jl (h:X0 R rx X ρ O st (λρ1 O1=>lD R rx X ρ1 O1 rest kn kr) kr):lD R rx X ρ O (st::rest) kn kr:= .mk λσ F H E s pn p x=>
 B8.to (EN RW jR) (h.run σ F H {E with nx:=Pu X rest E} s (λσ' ρ' O' F' H' g s' q=>q.run σ' F' H' E s' (pn.after g) (p.after g) (x.after g)) p x)
theorem lW (h:SV X ρ O [st] (λρ1 O1=>lD R rx X ρ1 O1 rest kn kr) kr):lD R rx X ρ O (st::rest) kn kr:=jl<| .mk λσ F H E s pn p x=>Sl.of (h.run σ F H E s pn p)
theorem Qz (h:mq R rx X ρ O e kr):lD R rx X ρ O (.Return (some e) pos::rest) kn kr:=jl<| .mk λσ F H E s pn p x=>PS.to (Of bV) (h.run σ F H _ s p x)
theorem N3 (h:mq R rx X ρ O e λ_ O1=>lD R rx X ρ O1 rest kn kr) (hs:eA e none pos.line X.env=pure false:=by rfl):lD R rx X ρ O (.Expr e pos::rest) kn kr:=jl<| .mk λσ F H E s pn p x=>
 PS.to (IV bV hs) (h.run σ F H _ s (λv d O1 F1 H1 g su ow r q=>pn σ ρ O1 F1 H1 g (s.grow g.ff su ow) q) x)
theorem nh {y z:List Stmt} {t:Bool} (hc:nP X ρ O a t) (h1:t=true->lD R rx X ρ O y (λρ1 O1=>lD R rx X ρ1 O1 rest kn kr) kr) (h2:t=false->lD R rx X ρ O z (λρ1 O1=>lD R rx X ρ1 O1 rest kn kr) kr):lD R rx X ρ O (.If a y z pos::rest) kn kr:=jl<| .mk λσ F H E s pn p x=>
 PS.to (RY pI jR jR) (hc σ F H _ s λz O1 F1 H1 g su ow ⟨q1,q2⟩=>by
  subst q1;subst q2
  cases z with
  |true=>exact AD ((h1 rfl).run σ F1 H1 E (s.grow g.ff su ow) (pn.after g) (p.after g) (x.after g))
  |false=>exact z0 ((h2 rfl).run σ F1 H1 E (s.grow g.ff su ow) (pn.after g) (p.after g) (x.after g)))
variable {W:dg} {N:List Str} {sc:Scope} {n:Nat} {x:Str} {p':Pos}
theorem j8 (c:eZ W X N sc n true) (hl:Bh true sc x=true) (hx:∃i:Nat,N[i]? =some x) (h:mq R rx X ρ O e λd O1=>∃ρ',uv N ρ x d ρ'/\lD R rx X ρ' O1 rest kn kr) (hs:eA e (some (.Name x p')) pos.line X.env=pure false:=by rfl):
  lD R rx X ρ O (.Assign [.Name x p'] e pos::rest) kn kr:=jl<| .mk λσ F H E s pn p xx pins s' I=>by
 obtain⟨i,hi⟩:=hx
 have M4:X.N[i]? =some x:=by rw[c.nms];exact hi
 refine PS.to (Gu (by rw[c.nms];exact c.nd) M4 (by rw[c.scp];exact(Bh.loc hl).1) bV hs (.inl ((c.all rfl).1 x))) (E:=E) (H:=H) (σ:=σ) (h.run σ F H _ s (λu d O1 F1 H1 g su ow r q=>?_) xx) pins s' I
 obtain⟨ρ',hp,q⟩:=q
 obtain⟨j,hj,rfl,jb⟩:=hp.ix
 obtain rfl:j=i:=gh c.nd hj hi
 exact pn _ _ O1 F1 H1 g ((s.grow g.ff su ow).put r jb) q
theorem Pw {i:Int} (c:eZ W X N sc n true) (hl:Bh true sc x=true) (hx:Og N ρ x (.int i)) (he:mq R rx X ρ O e λd O1=>∃j:Int,d= .int j/\∃ρ',uv N ρ x (.int (i+j)) ρ'/\lD R rx X ρ' O1 rest kn kr):
  lD R rx X ρ O (.AugAssign (.Name x p') .Add e pos::rest) kn kr:=jl<| .mk λσ F H E s pn p xx pins s' I=>by
 obtain⟨m,hm,hr⟩:=hx.ix
 have M4:X.N[m]? =some x:=by rw[c.nms];exact hm
 obtain⟨v,hv,rv⟩:=s.env m _ hr
 refine PS.to (Nd (by rw[c.nms];exact c.nd) M4 (by rw[c.scp];exact(Bh.loc hl).1) bV MW (.inl ((c.all rfl).1 x))) (E:=E) (H:=H) (σ:=σ) ⟨v,hv,he.run σ F H _ s (λu d O1 F1 H1 g su ow r q=>?_) xx⟩ pins s' I
 obtain⟨j,rfl,ρ',hp,q⟩:=q
 obtain⟨m',SS,rfl,jb⟩:=hp.ix
 obtain rfl:m'=m:=gh c.nd SS hm
 exact⟨i,j,rv,r,pn _ _ O1 F1 H1 g ((s.grow g.ff su ow).put (d:= .int (i+j)) rfl jb) q⟩
theorem KC {body:List Stmt} (c:eZ W X N sc n true) (I:Nat->dk->Os->Prop) (m0:Nat) (h0:I m0 ρ O)
  (turn:∀m ρ1 O1,I m ρ1 O1->Zh R rx X ρ1 O1 a λb O2=>if b=true then lD R rx X ρ1 O2 body (λρ3 O3=>∃m',m'<m/\I m' ρ3 O3) kr else lD R rx X ρ1 O2 rest kn kr):lD R rx X ρ O (.While a body [] pos::rest) kn kr:=jl<| .mk λσ F H E s pn p x=>by
 refine PS.to (EL (c.all rfl).2 pI jR) ⟨λm σ' H'=>∃ρ1 O1 F2,dI (cU O) F H (cU O1) F2 H'/\jE X.K F2 ρ1 O1 σ' H'/\I m ρ1 O1,⟨m0,ρ,O,F,.refl,s,h0⟩,?_⟩
 rintro m σ2 H2 ⟨ρ1,O1,F2,g2,s2,hI⟩
 refine(turn m ρ1 O1 hI).run σ2 F2 H2 _ s2 (λb O3 F3 H3 g3 kX kN q=>?_) (x.after g2)
 have IS:=g2.trans g3
 cases b with
 |true=>
  rw[if_pos rfl]at q
  refine AD ⟨λσ' H'=>∃m',m'<m/\∃ρ1 O1 F2,dI (cU O) F H (cU O1) F2 H'/\jE X.K F2 ρ1 O1 σ' H'/\I m' ρ1 O1,λσ' H' h=>h,?_⟩
  exact q.run σ2 F3 H3 _ (s2.grow g3.ff kX kN) (λσ5 ρ5 O5 F5 H5 g5 s5 ⟨m',hm,UY⟩=>⟨m',hm,ρ5,O5,F5,IS.trans g5,s5,UY⟩) (p.after IS) (x.after IS)
 |false=>
  rw[if_neg aw]at q
  exact z0 (pn σ2 ρ1 O3 F3 H3 IS (s2.grow g3.ff kX kN) q)
theorem pF.px {ds:List D} {k:List D->Os->Prop} (h:pF X ρ O tg iter ds) (q:k ds O):Yx R rx X ρ O tg iter k:= .mk λσ F H Rt s p _=>h.run σ F H Rt s λJ F1 H1 g su ow ok=>p J ds O F1 H1 g su ow ok q
theorem HE {tp:Bool} {p:Pos} {k:List D->Os->Prop} (c:eZ W X N sc n tp) (hg:mr sc "range") (hm:W.mg "range"=none) (ha:mq R rx X ρ O a λd O1=>∃j:Int,d= .int j/\-(2^62)<=j/\j<2^62/\k ((ia 0 1 j.toNat).map D.int) O1) (hs:ak [a] X.env=[(false,eval a X.env)]:=by rfl):
  Yx R rx X ρ O tg (.Call (.Name "range" p) [a] [] pos) k:= .mk λσ F H Rt s q x=>
 PI.to (Cf (c.gl hg) (by rw[c.glob];exact hm) kZ hs) ((r8 (es:=[]) (k:=λds O1=>∃d,ds=[d]/\∃j:Int,d= .int j/\-(2^62)<=j/\j<2^62/\k ((ia 0 1 j.toNat).map D.int) O1) (ha.mono λd O1 h=>Em ⟨d,rfl,h⟩) hs).run σ F H _ s (λvs ds O1 F1 H1 g su ow r ⟨d,e1,j,e2,h1,h2,hk⟩=>by
  subst e1;subst e2
  obtain⟨v,r',rfl,rv,rr⟩:=r
  cases (show r'=[]from rr)
  exact⟨j,by rw[show v=V.int j from rv],h1,h2,q _ _ O1 F1 H1 g su ow HS hk⟩) x)
theorem yG {body:List Stmt} (c:eZ W X N sc n true) (hi:Yx R rx X ρ O tg iter λds O1=>∃I:Nat->dk->Os->Prop,I 0 ρ O1/\(∀i d ρ1 O1,ds[i]? =some d->I i ρ1 O1->∃ρ2,F9 X tg ρ1 d ρ2/\lD R rx X ρ2 O1 body (I (i+1)) kr)/\
   ∀ρ1 O1,I ds.length ρ1 O1->lD R rx X ρ1 O1 rest kn kr) (hs:∀x,bL iter X.env x=pure x:=by intro _;rfl):lD R rx X ρ O (.For tg iter body [] pos::rest) kn kr:=jl<| .mk λσ F H E s pn p x=>by
 refine PS.to (Nc (c.all rfl).2 c.calm z8 IG jR hs) (hi.run σ F H _ s (λJ ds O0 F1 H1 g su ow ok ⟨I,h0,step,done⟩=>?_) x)
 refine⟨λi m σ' H'=>m=ds.length-i/\i<=ds.length/\∃ρ1 O1 F2,dI (cU O0) F1 H1 (cU O1) F2 H'/\jE X.K F2 ρ1 O1 σ' H'/\I i ρ1 O1,⟨ds.length,by simp,eS _,ρ,O0,F1,.refl,s.grow g.ff su ow,h0⟩,?_⟩
 rintro i m σ2 H2 ⟨rfl,Ng,ρ1,O1,F2,g2,s2,hI⟩
 obtain⟨o1,o2⟩:=ok i F2 H2 O1 g2.ff s2.sub s2.own
 by_cases jb:i<ds.length
 ·have hd:ds[i]? =some ds[i]:=aI jb
  obtain⟨P2,hy⟩:=o1 _ hd
  refine .inr ⟨P2,λσ' H'=>∃ρ3 O3 F3,dI (cU O0) F1 H1 (cU O3) F3 H'/\jE X.K F3 ρ3 O3 σ' H'/\I (i+1) ρ3 O3,λσ' H' h=>⟨ds.length-(i+1),by omega,rfl,jb,h⟩,λz H3 hz=>?_⟩
  obtain⟨F3,g3,kX,kN,r3⟩:=hy z H3 hz
  obtain⟨ρ2,ht,hb⟩:=step i _ ρ1 O1 hd hI
  refine ht σ2 F3 H3 O1 z _ (s2.grow g3.ff kX kN) r3 λσ3 s3 _ _=>?_
  have IS:=g2.trans g3
  exact hb.run σ3 F3 H3 _ s3 (λσ5 ρ5 O5 F5 H5 g5 s5 UY=>⟨ρ5,O5,F5,IS.trans g5,s5,UY⟩) ((p.after g).after IS) ((x.after g).after IS)
 ·have e:i=ds.length:=by omega
  subst e
  exact .inl ⟨o2 (aO _),(pn.after g) σ2 ρ1 O1 F2 H2 g2 s2 (done ρ1 O1 hI)⟩
end
abbrev uq:=List D->Os->KD->Prop->Prop
def U4 (K:ag) (C:uq):Sp:=λvs H Q E=>∃F ds O k rx,bX F H/\cg K F ds vs/\cB K F O H/\C ds O k rx/\jo K F H O k Q/\(rx->∀O' F' H',dI (cU O) F H (cU O') F' H'->bX F' H'->cB K F' O' H'->E .none none H')
structure hW (W:dg) (R:Addr) (x:Str) (m:Nat) (C:uq):Prop where
 ex:∃f fd ps,mv W.P W.w W.K W.mg W.base (Gs W.P W.w R) m f fd ps (U4 W.K C)/\W.mg x=some (.ref f)/\cT W.K (.ref f)=true/\iC W.K fd ps []
structure fi (W:dg) (R:Addr) (C:Addr) (m:Str) (j:Nat) (Ct:uq):Prop where
 ex:∃f fd ps,mv W.P W.w W.K W.mg W.base (Gs W.P W.w R) j f fd ps (U4 W.K Ct)/\Dn W.K C m f/\iC W.K fd ps []
def EX (X:Cx) (R:Addr):XK:=λ_ _ H'=>∀a s',XL X R a H' s'->X.xe (.ref a) s'
theorem RL {X:Cx} {R:Addr}:mZ (Gs X.prog X.w R) X (EX X R):=λpins σ H s e s' I ⟨a,B,H',he,ho,hg,f,hE⟩=>by subst he;exact hE a s' ⟨pins,σ,H,s,B,[],I,λb hb=>absurd hb (by simp),ho,hg,f⟩
theorem PX.call {X:Cx} {R:Addr} {rx:Prop} {F H:Hp} {Oa Ob:Os} (own:cB X.K F (Oa++Ob) H) (p:PX X R rx F H (Oa++Ob)):rx->∀O' F' H',dI (cU Oa) F H (cU O') F' H'->bX F' H'->cB X.K F' O' H'->EX X R .none none H':=λr O' F' H' g su ow=>by
 obtain⟨h1,h2⟩:=G.frame own g ow
 exact(p r (O'++Ob) F' H' h2 su h1).1
section
variable {R:Addr} {rx:Prop} {W:dg} {X:Cx} {N:List Str} {sc:Scope} {n m j:Nat} {tp:Bool} {ρ:dk} {O:Os} {x:Str} {o e:aS} {es:List aS} {p pos apos:Pos} {k:KD} {C:uq} {Cl:Addr} {mt:Str} {ns:List Str} {ds Vu:List D}
theorem hW.at_ (c:eZ W X N sc n tp) (hc:hW W R x m C):∃f fd ps,mv X.prog X.w X.K X.mg X.base (Gs X.prog X.w R) m f fd ps (U4 X.K C)/\X.mg x=some (.ref f)/\cT X.K (.ref f)=true/\iC X.K fd ps []:=by
 rw[c.prog,c.wrld,c.frag,c.glob,c.bas];exact hc.ex
theorem fi.at_ (c:eZ W X N sc n tp) (hc:fi W R Cl mt j C):∃f fd ps,mv X.prog X.w X.K X.mg X.base (Gs X.prog X.w R) j f fd ps (U4 X.K C)/\Dn X.K Cl mt f/\iC X.K fd ps []:=by
 rw[c.prog,c.wrld,c.frag,c.glob,c.bas];exact hc.ex
theorem wa (c:eZ W X N sc n tp) (hc:hW W R x m C) (hm:m<=n) (hg:mr sc x) (h:KL R rx X ρ O (e::es) λds O1=>∃Oa Ob,O1=Oa++Ob/\C ds Oa (λd O'=>k d (O'++Ob)) rx)
  (og:(x==("__debug__":Str))=false:=by decide) (he:ak (e::es) X.env=(false,eval e X.env)::ak es X.env:=by rfl) (hpl:(cw pos (ak es X.env)).any (·.1)=false:=by rfl):mq R rx X ρ O (.Call (.Name x p) (e::es) [] pos) k:= .mk λσ F H Q s pp px=>by
 obtain⟨f,fd,ps,F1,h1,h2,h3⟩:=hc.at_ c
 refine PE.to (yI F1 (c.room.mono hm) (c.gl hg) h1 h2 h3 .nil RL (E:=EX X R) kZ og he hpl) (h.run σ F H _ s (λvs ds O1 F1 H1 g su ow r q=>?_) px)
 obtain⟨Oa,Ob,rfl,q⟩:=q
 show U4 X.K C (vs++[]) H1 Q (EX X R)
 rw[br]
 exact⟨F1,ds,Oa,_,rx,su,r,ow.left,q,jo.frame ow (pp.after g),PX.call ow (px.after g)⟩
theorem Kf {C:tw} (c:eZ W X N sc n tp) (hc:ax W x m C) (hm:m<=n) (hg:mr sc x) (h:KL R rx X ρ O (e::es) λds O1=>∃Oa Ob,O1=Oa++Ob/\C ds Oa (λd O'=>k d (O'++Ob)))
  (og:(x==("__debug__":Str))=false:=by decide) (he:ak (e::es) X.env=(false,eval e X.env)::ak es X.env:=by rfl) (hpl:(cw pos (ak es X.env)).any (·.1)=false:=by rfl):mq R rx X ρ O (.Call (.Name x p) (e::es) [] pos) k:= .mk λσ F H Q s pp px=>by
 obtain⟨f,fd,ps,F1,h1,h2,h3⟩:=hc.at_ c
 refine PE.to (yI F1 (c.room.mono hm) (c.gl hg) h1 h2 h3 .nil z6 (E:=E0) kZ og he hpl) (h.run σ F H _ s (λvs ds O1 F1 H1 g su ow r q=>?_) px)
 obtain⟨Oa,Ob,rfl,q⟩:=q
 show x8 X.K C (vs++[]) H1 Q E0
 rw[br]
 exact⟨F1,ds,Oa,_,su,r,ow.left,q,jo.frame ow (pp.after g)⟩
theorem i3 {q:Addr} {pl:Sem Bool} {Oa Ob:Os} (c:eZ W X N sc n tp) (hC:iS W.K Cl) (hc:fi W R Cl mt j C) (hj:j<=n) (ho:bq X ρ O o (.ptr q)) (hq:(q,.ins Cl ns Vu)∈O) (hm:mt∉ns)
  (eO:O=Oa++Ob) (h:C [.ptr q] Oa (λd O'=>k d (O'++Ob)) rx)
  (ht:eval (.Call (.Attribute o mt apos) [] [] pos) X.env=(do
   let ov<-eval o X.env
   standAt apos.atName
   let (f,first)<-holding [ov] (jF ov mt pl)
   callWith pos f first (cw pos (ak [] X.env)) (iV pos (e8 [] X.env))):=by rfl):mq R rx X ρ O (.Call (.Attribute o mt apos) [] [] pos) k:= .mk λσ F H Q s pp px=>by
 obtain⟨f,fd,ps,F1,M1,h3⟩:=hc.at_ c
 refine PE.to (EF (pl:=pl) bV (by rw[c.frag];exact hC) M1 F1 (c.room.mono hj) h3 .nil RL (E:=EX X R) ht) (ho σ F H _ s λv d O1 F1 H1 g su ow r ⟨q1,q2⟩=>?_)
 subst q1;subst q2
 obtain rfl:v=V.ref q:=r
 obtain⟨_,dx,vs,ha,hlen,rr⟩:=ow.at_ _ hq
 subst eO
 refine⟨q,dx,_,rfl,ha,wQ hm,?_⟩
 exact⟨F1,[.ptr q],Oa,_,rx,su,.cons rfl .nil,ow.left,h,jo.frame ow (pp.after g),PX.call ow (px.after g)⟩
end
theorem N7 {W:dg} {R:Addr} {x qual:Str} {st:Stmt} {f:Addr} {fd:ox} {ps N:List Str} {m:Nat} {C:uq} (F:OO W.K x qual st f fd) (S:jS N ps (bQ st)) (len:∀ds O k rx,C ds O k rx->ds.length=ps.length)
  (body:∀X,eZ W X N (bQ st) m true->uR X->∀ds O k rx,C ds O k rx->lD R rx X (pO N ds) O (fo st) (λ_ O'=>k .non O') k):mv W.P W.w W.K W.mg W.base (Gs W.P W.w R) (m+1) f fd ps (U4 W.K C):=by
 obtain⟨oc,od,kV,doc,pm,an,mw,ct,He,rfl,lk,Ir⟩:=F.ex
 refine RF lk Ir S (λvs H Q E h=>?_) λA outer s H vs Q E hr h=>?_
 ·obtain⟨F,ds,O,k,rx,_,r,_,hC,_⟩:=h
  rw[<-r.length];exact len ds O k rx hC
 ·obtain⟨F0,ds,O,k,rx,su,r,ow,hC,p,px⟩:=h
  refine⟨_,jR,?_⟩
  have hl:=len ds O k rx hC
  have hpl:ps.length<=N.length:=by have:=congrArg h9 S.pre;rw[aA]at this;lia
  have c:eZ W (oF (Gs W.P W.w R) W.P W.w W.K W.mg W.base N qual (bQ st) f mw A outer s H E) N (bQ st) m true:=
   ⟨rfl,rfl,rfl,rfl,rfl,rfl,S.nd,rfl,rfl,hr,λ_=>⟨λ_=>rfl,Lp.leaving⟩⟩
  refine(body _ c ⟨rfl,rfl⟩ ds O k rx hC).run (L2.jm N vs) F0 H _ ⟨su,λi d h=>sj r h,ow,?_⟩ (λσ' ρ' O' F' H' g s' q=>p .non .non O' F' H' g s'.sub s'.own rfl q) p λQT O' F' H' g GD Ga=>?_
  ·unfold L2.jm pO
   rw[aj,aj,ah,ah,aP,aP,r.length]
  ·have hE:=px QT O' F' H' g GD Ga
   exact⟨λa s' xl=>Oh xl.xi hE,λ_ pins σ s1 I h' e vs hx=>Gq I hx hE⟩
theorem l6 {W:dg} {R:Addr} {x qual:Str} {st:Stmt} {ps N:List Str} {m:Nat} {C:uq} (T:dC W x qual st ps) (S:jS N ps (bQ st)) (len:∀ds O k rx,C ds O k rx->ds.length=ps.length)
  (body:∀X,eZ W X N (bQ st) m true->uR X->∀ds O k rx,C ds O k rx->lD R rx X (pO N ds) O (fo st) (λ_ O'=>k .non O') k):hW W R x (m+1) C:=by
 obtain⟨f,fd,F,hm,hb⟩:=T.ex
 exact⟨f,fd,ps,N7 F S len body,hm,F.kp,hb⟩
theorem mL {W:dg} {R C:Addr} {m qual:Str} {st:Stmt} {ps N:List Str} {j:Nat} {Ct:uq} (T:jH W C m qual st ps) (S:jS N ps (bQ st)) (len:∀ds O k rx,Ct ds O k rx->ds.length=ps.length)
  (body:∀X,eZ W X N (bQ st) j true->uR X->∀ds O k rx,Ct ds O k rx->lD R rx X (pO N ds) O (fo st) (λ_ O'=>k .non O') k):fi W R C m (j+1) Ct:=by
 obtain⟨f,fd,F,hm,hb⟩:=T.ex
 exact⟨f,fd,ps,N7 F S len body,hm,hb⟩
def YD:List Value:=[.type "ValueError",.type "Exception",.type "BaseException",.type "object"]
structure xb (W:dg) (R:Addr):Prop where
 own:A7 "Refused" R YD "ValueError.__new__" W.mg W.base
theorem Ye:ExcBaseFacts "ValueError" "ValueError.__new__" "ValueError.__init__" YD:=PySem.F.excBase_ValueError
section
variable {R:Addr} {rx:Prop} {W:dg} {X:Cx} {N:List Str} {sc:Scope} {n m:Nat} {tp:Bool} {ρ:dk} {O:Os} {rest:List Stmt} {kn:KR} {kr:KD}
theorem iZ {msg:Str} {jj:Nat} {np mp iJ pos:Pos} (c:eZ W X N sc n tp) (top:uR X) (hR:xb W R) (hg:mr sc "Refused") (QT:rx):
  lD R rx X ρ O (.Raise (some (.Call (.Name "Refused" np) [.Constant (.str msg) jj mp] [] iJ)) none pos::rest) kn kr:=jl<| .mk λσ F H E s pn p x pins s0 I=>by
 have hb:=hR.own
 rw[<-c.glob,<-c.bas]at hb
 have own:=hb.keeps I.bk
 obtain⟨tl,Nn,nm,q,bs,hdct,sn,sub,ab,col,dd,k0,k1,k2,k3,k5,mN,hC,hN,hni,T⟩:=hb.obj
 refine wpAny_Raise_call_subT (C:=R) (nm:=nm) (q:=q) (N:=Nn) (bs:=bs) (bm:=tl) (hdct:=hdct) (sn:=sn) (sub:=sub) (ab:=ab) (col:=col) (dd:=dd) (k0:=k0) (k1:=k1) (k2:=k2) (k3:=k3) (k5:=k5)
  Ye (mN:=mN) (T.hasType Ye.hasBase) (I.ok.hd c.calm) rfl hni (oR I (c.gl hg) hb.bound ⟨rfl,?_⟩)
 refine Ge (fb ((aa Q9 az).run σ F H (λvs H'=>vs.length=1/\∃F',dI (cU O) F H (cU O) F' H'/\bX F' H'/\cB X.K F' O H') s (λvs ds O' F' H' g su ow r ⟨e1,e2⟩=>by
  subst e1;subst e2
  exact⟨by rw[<-r.length];rfl,F',g,su,ow⟩) iJ pins s0 I) λus s2 ⟨vs,H2,I2,rv,hl,F2,g2,gX,gB⟩=>⟨rfl,?_,I2.bk _ _ hC,hN.keeps I2.bk,T.keeps I2.bk,λh' e hm=>(x QT O F2 H2 g2 gX gB).2 top pins σ s2 I2 h' e _ hm⟩)
 show us.length<=sizeLine
 rw[<-rv.length,hl,wz]
 decide
end
abbrev Cx.lay (X:Cx) (A:cG) (cl:Bool) (pn:List (Addr×Obj)) (E:Value->ao->Prop):Cx:={X with A:=A,calm:=cl,pn:=pn,xe:=E}
section
variable {X:Cx} {pins ps:List (Addr×Obj)} {σ:St} {H:Hp} {s:ao} {A:cG} {cl:Bool} {E:Value->ao->Prop}
theorem G5 (ok:X.Ok) (hf:A.frames=X.A.frames) (hh:cl=true->A.handled=none):(Cx.lay X A cl ps E).Ok:=
 ⟨ok.mod,ok.kind,ok.glob,ok.blt,ok.above,ok.inj,ok.has,ok.cab,hh,hf.trans ok.frames,ok.stk,ok.exf,ok.bs,ok.bsz,ok.noex,ok.exfs,ok.funs,ok.frf⟩
theorem P5 (I:bG X pins σ H s) (hf:A.frames=X.A.frames) (hh:cl=true->A.handled=none) {KW:List (Addr×Obj)} (hp:∀q∈ps++KW,q∈X.pn++pins):bG (Cx.lay X A cl ps E) KW σ H s:=
 ⟨G5 I.ok hf hh,I.os,I.bare,I.base,I.loc,I.cell,I.free,I.freeC,λq hq=>I.pin q (hp q hq),I.hok,I.len⟩
theorem sC (ok:X.Ok) {KW:List (Addr×Obj)} (I:bG (Cx.lay X A cl ps E) KW σ H s) (hp:∀q∈X.pn++pins,q∈ps++KW):bG X pins σ H s:=
 ⟨ok,I.os,I.bare,I.base,I.loc,I.cell,I.free,I.freeC,λq hq=>I.pin q (hp q hq),I.hok,I.len⟩
theorem FF (ok:X.Ok) {D:uw} {f:Flow} {KW:List (Addr×Obj)} (h:SP (Cx.lay X A cl ps E) KW D f s) (hp:∀q∈X.pn++pins,q∈ps++KW):SP X pins D f s:=by
 cases f with
 |next=>obtain⟨σ',H',I,q⟩:=h;exact⟨σ',H',sC ok I hp,q⟩
 |brk=>obtain⟨σ',H',I,q⟩:=h;exact⟨σ',H',sC ok I hp,q⟩
 |cont=>obtain⟨σ',H',I,q⟩:=h;exact⟨σ',H',sC ok I hp,q⟩
 |ret u=>obtain⟨v,σ',H',I,r,q⟩:=h;exact⟨v,σ',H',sC ok I hp,r,q⟩
end
section
variable {R:Addr} {rx:Prop} {W:dg} {X:Cx} {N:List Str} {sc:Scope} {n m:Nat} {ρ ρ':dk} {O Oa Ob:Os} {rest Ox:List Stmt} {b0:Stmt} {kn:KR} {kr:KD} {fx x:Str} {e:aS} {es:List aS} {ds:List D} {C:uq} {p p' np pos iJ Wj n8:Pos}
theorem rP {Oa Ob:Os} (h:(cU (Oa++Ob)).Nodup):(cU Ob).Nodup:=by
 unfold cU at h⊢
 rw[aY]at h
 exact(fA.mp h).2.1
theorem Uj (c:eZ W X N sc n true) (top:uR X) (hR:xb W R) (hc:hW W R fx m C) (hm:m<=n) (hg:mr sc fx) (hgR:mr sc "Refused") (hl:Bh true sc x=true) (hx:∃i:Nat,N[i]? =some x) (eO:O=Oa++Ob)
  (ha:∀Y,eZ W Y N sc n false->ir Y ρ O (e::es) ds) (hC:C ds Oa (λd O'=>∃ρ',uv N ρ x d ρ'/\SV X ρ' (O'++Ob) rest kn kr) rx)
  (hh:rx->∀Y,SV Y (aq N.length none) Ob (b0::Ox) (λ_ _=>False) kr)
  (og:(fx==("__debug__":Str))=false:=by decide) (he:ak (e::es) X.env=(false,eval e X.env)::ak es X.env:=by rfl) (hpl:(cw iJ (ak es X.env)).any (·.1)=false:=by rfl)
  (hs:eA (.Call (.Name fx p) (e::es) [] iJ) (some (.Name x p')) pos.line X.env=pure false:=by rfl):
  SV X ρ O (.Try [.Assign [.Name x p'] (.Call (.Name fx p) (e::es) [] iJ) pos] [.ExceptHandler (some (.Name "Refused" np)) none (b0::Ox) Wj] [] [] n8::rest) kn kr:=ey<| .mk λσ F H E s pn pr pins s0 I=>by
 obtain⟨i,hi⟩:=hx
 refine wpAny_Try_except ?_
 generalize hE':(λ(e:Value) (s₁:ao)=>wpAny (aU X.prog X.w) X.A (oq e X.env) (λ_ s₂=>wpAny (aU X.prog X.w) X.A (setFlight e none) (λ_ s₃=>wpAny (aU X.prog X.w) X.A (handleBy e X.env [.ExceptHandler (some (.Name "Refused" np)) none (b0::Ox) Wj]) (SP X pins E) X.xe s₃) X.xe s₂) X.xe s₁)=E'
 have hm2:∀q∈X.pn++pins,q∈(X.pn++pins)++([]:List (Addr×Obj)):=λq hq=>by rw[br];exact hq
 have IY:bG (Cx.lay X X.A true (X.pn++pins) E') [] σ H s0:=P5 I rfl (λ_=>I.ok.hd c.calm) λq hq=>by rw[br]at hq;exact hq
 have cY:eZ W (Cx.lay X X.A true (X.pn++pins) E') N sc n false:=⟨c.prog,c.wrld,c.frag,c.glob,c.bas,c.nms,c.nd,c.scp,rfl,c.room,λh=>absurd h (by decide)⟩
 obtain⟨f,fd,fps,F1,h1,h2,h3⟩:=hc.at_ cY
 have key:Pu (Cx.lay X X.A true (X.pn++pins) E') [.Assign [.Name x p'] (.Call (.Name fx p) (e::es) [] iJ) pos] E σ H:=by
  refine B8.to (P9 (Gu (i:=i) (by show X.N.Nodup;rw[c.nms];exact c.nd) (by show X.N[i]? =_;rw[c.nms];exact hi) (by show L2.TN X.env.scope x;rw[c.scp];exact(Bh.loc hl).1)
   (yI (CX:=Gs X.prog X.w R) (E:=λ_ _ H'=>∃O' F',rx/\dI (cU O) F H (cU (O'++Ob)) F' H'/\bX F' H'/\cB X.K F' (O'++Ob) H') F1 (c.room.mono hm) (cY.gl hg) h1 h2 h3 .nil ?_ kZ og he hpl) hs (.inl ((c.all rfl).1 x)))) ?_
  ·
   intro KW σ1 H1 s1 u s' I1 ⟨a,B,H',hu,ho,hgn,fl,O',F',QT,g',GD,Ga⟩
   subst hu
   show E' (.ref a) s'
   rw[<-hE']
   have fl:OS X.prog X.w R (yi X.stack) [] X.stack H1 s1.heap B a H' s'.heap:=fl
   have Lv:X.A.frames=some (X.env::X.outer):=by rw[I.ok.frames,top.1]
   have dt:∀b∈yi X.stack,∀o,s1.heap.get? b=some o->∀vs,o.data≠.fields vs:=λb hb o q=>by
    obtain⟨_,o',ho',hd⟩:=I1.stack.mem hb
    rw[q]at ho';cases ho'
    exact hd
   have f0:=fl.fly
   rw[top.1]at f0
   refine AA Lv top.2 f0 λh4 f4 u4=>?_
   refine uT none f4 λh5 f5 u5=>?_
   rw[<-top.1]at f5
   have Xd:∀h6,wJ B X.stack a (.ref R) h6->s'.heap.UpToSlots h6->bG (Cx.lay X X.A true (X.pn++pins) E') KW σ1 H' {s' with heap:=h6}:=λh6 f6 u6=>
    I1.call' (s':={s' with heap:=h6}) (ch:=[]) ho ((fl.on f6 dt u6).un I1.stkFree) (fl.hok.kept f6.1) hgn λb hb=>absurd hb (by simp)
   have I5:=Xd h5 f5 (u4.trans u5)
   have Z5:bG (Cx.lay X (X.A.mark (some (.ref a))) false (X.pn++pins) X.xe) KW σ1 H' {s' with heap:=h5}:=⟨G5 I.ok rfl (λz=>absurd z (by decide)),I5.os,I5.bare,I5.base,I5.loc,I5.cell,I5.free,I5.freeC,I5.pin,I5.hok,I5.len⟩
   have hb:=hR.own
   rw[<-c.glob,<-c.bas]at hb
   obtain⟨tl,Nn,nm,q,bs,hdct,sn,sub,ab,col,dd,k0,k1,k2,k3,k5,mN,hCl,hN,hni,T⟩:=hb.obj
   obtain⟨_,_,_,a0,flg,oe,vs,T',oT,ts,VX,Bp,_⟩:=id f5
   refine wpAny_handleBy_cons (codeAny_handlers_test (oR (X:=Cx.lay X (X.A.mark (some (.ref a))) false (X.pn++pins) X.xe) Z5 (c.gl hgR) hb.bound ?_)) (by intro q;cases q)
   refine wpAny_excMatches_sub_self (h:=h5) (I5.bk _ _ hCl) VX Bp.1 (T.hasType Ye.hasBase) (codeAny_handlers_suite ?_)
   refine uT none f5 λh6 f6 u6=>?_
   have I6:=Xd h6 f6 ((u4.trans u5).trans u6)
   generalize hZ:Cx.lay X (X.A.mark (some (.ref a))) false (X.pn++pins) (notedBy (aU X.prog X.w) (X.A.mark (some (.ref a))) X.env λx s₂=>match (.error x:Result)with| .ok f=>SP X pins E f s₂| .error x=>cameBackBy (aU X.prog X.w) X.A X.env X.xe x s₂)=Z
   have I7:bG Z KW σ1 H' {s' with heap:=h6}:=by
    rw[<-hZ]
    exact⟨G5 I.ok rfl (λz=>absurd z (by decide)),I6.os,I6.bare,I6.base,I6.loc,I6.cell,I6.free,I6.freeC,I6.pin,I6.hok,I6.len⟩
   have hK:Z.K=X.K:=by rw[<-hZ]
   have st6:jE Z.K F' (aq N.length none) (O'++Ob) σ1 H':=⟨GD,λj d h=>(by rw[jN]at h;split at h<;>cases h),by rw[hK];exact Ga,by rw[I6.len,aP];show X.N.length=_;rw[c.nms]⟩
   have run:=(SV.own (hh QT Z) (λq hq=>bB _ hq) rP).run σ1 F' H' E st6 (λ_ _ _ _ _ _ _ z=>z.elim) (by rw[hK];exact pr.after g') KW {s' with heap:=h6} I7
   rw[<-hZ]at run
   exact wpAny_mono run (λJt s2 h2=>FF I.ok h2 λq hq=>fm _ hq) λ_ _ z=>z
  ·refine(ha _ cY).run σ F H _ s λvs ds' O1 F2 H2 g su ow r ⟨q1,q2⟩=>?_
   subst q1;subst q2;subst eO
   show U4 X.K C (vs++[]) H2 _ _
   rw[br]
   refine⟨F2,ds',Oa,_,rx,su,r,ow.left,hC,jo.frame (K:=X.K) (k:=λd O'=>∃ρ',uv N ρ x d ρ'/\SV X ρ' O' rest kn kr) ow (λv d O3 F3 H3 g3 kX kN rv ⟨ρ3,ZO,q3⟩=>?_),λQT O' F' H' g' GD Ga=>?_⟩
   ·obtain⟨j,hj,rfl,jb⟩:=ZO.ix
    obtain rfl:j=i:=gh c.nd hj hi
    exact pn _ _ O3 F3 H3 (g.trans g3) ((s.grow (g.trans g3).ff kX kN).put rv jb) q3
   ·obtain⟨h1,h2⟩:=G.frame ow g' Ga
    exact⟨O',F',QT,g.trans h2,GD,h1⟩
 refine wpAny_mono (key [] s0 IY) (λJt s2 h2=>?_) λ_ _ z=>z
 have h2:=FF (pins:=pins) I.ok h2 hm2
 cases Jt with
 |next=>exact wpAny_execs_nil h2
 |brk=>exact h2
 |cont=>exact h2
 |ret u=>exact h2
end
theorem Q2 {v:Value} {e1 e2:Env} (h:e1.frame=e2.frame):oq v e1=oq v e2:=by
 unfold oq frameOf
 rw[h]
abbrev GX (X:Cx) (ce:Env) (use:Option (Value->Sem Unit)) (Qf:Value->ao->Prop) (D:Addr):Value->ao->Prop:=
 notedBy (aU X.prog X.w) X.A ce λe s'=>compPost (aU X.prog X.w) X.A X.xe use Qf (.ref D) ce.locals (.error e) s'
theorem LM {X:Cx} {R a D:Addr} {H3 H':Hp} {s3 s':ao} {pins:List (Addr×Obj)} {σ:St} {scope:Scope} {ce:Env} {fp:List Addr} {use:Option (Value->Sem Unit)} {Qf:Value->ao->Prop}
  (top:uR X) (I3:bG X pins σ H3 s3) (f3:∀b∈fp,qL X pins H3 b) (RK:ce.frame=X.env.frame) (hX:∀a s',XL X R a H' s'->X.xe (.ref a) s')
  (x:XL ((X.blk s3 H3 scope ce fp).wish (GX X ce use Qf D)) R a H' s'):GX X ce use Qf D (.ref a) s':=by
 have xi:=x.xi
 obtain⟨B,fl,hn,Xp⟩:=xi.ex
 have fl:OS X.prog X.w R (yi X.stack) fp X.stack H3 s3.heap B a H' s'.heap:=fl
 have hn:H' ce.locals=none:=hn
 have ab:s3.heap.objs.size<=ce.locals:=xi.ok.above
 have nst:ce.locals∉yi X.stack:=λz=>by
  obtain⟨_,o,ho,_⟩:=I3.stack.mem z
  exact absurd (aX (aN ho) ab) (c9 _)
 obtain⟨m,Xo⟩:=Xp nst
 have Xo:B.Ns ce.locals m:=Xo
 have Lv:X.A.frames=some (X.env::X.outer):=by rw[I3.ok.frames,top.1]
 have f0:=fl.fly
 rw[top.1]at f0
 show wpAny _ X.A (oq (.ref a) ce) _ _ s'
 rw[Q2 RK]
 refine AA Lv top.2 f0 λh2 f2 u2=>?_
 rw[<-top.1]at f2
 have dt:∀b∈yi X.stack,∀o,s3.heap.get? b=some o->∀vs,o.data≠.fields vs:=λb hb o q=>by
  obtain⟨_,o',ho',hd⟩:=I3.stack.mem hb
  rw[q]at ho';cases ho'
  exact hd
 have Jt:=fl.on f2 dt u2
 obtain⟨oC,esC,epC,hoC,hrC⟩:=id Xo
 have ne:∀b o,s3.heap.get? b=some o->b∉[ce.locals]:=λb o q z=>by
  rw[Ls]at z
  have:=aN q
  rw[z]at this
  exact absurd (aX this ab) (c9 _)
 have key:∃m,h2.Ns ce.locals m/\∀h',jd ce.locals h2 h'->∀i0:Env,i0.locals=ce.locals->wpAny (aU X.prog X.w) X.A (passOn "comprehension.variables-let-go" (.ref a) i0:Sem Value) (λ_ _=>False) X.xe {s' with heap:=h'}:=by
  refine⟨m,Xo.keeps f2.1,λh3 sb i0 _=>?_⟩
  obtain⟨k1,k2,k3,a0,flg,oe,vs,T,oT,ts,he,Bp,hd,h1,R3,Vw,hT,OR,UM⟩:=f2
  have na:a≠ce.locals:=λz=>by rw[z,hoC]at k2;cases k2
  have nT:T≠ce.locals:=λz=>by rw[z,hoC]at R3;cases R3
  have none_of:∀b,B.get? b=none->(lg B [ce.locals]).get? b=none:=λb hb=>by
   cases q:(lg B [ce.locals]).get? b with
   |none=>rfl
   |some o=>have:=lV _ q;rw[hb]at this;cases this
  have f3':wJ (lg B [ce.locals]) X.stack a (.ref R) h3:=by
   refine⟨λb o q=>?_,none_of a k2,Ij k3 λb o q1 q2 q3=>?_,a0,flg,oe,vs,T,oT,ts,(sb.2 a na).trans he,Bp,hd,h1,none_of T R3,Vw,(sb.2 T nT).trans hT,OR,UM⟩
   ·have nb:b≠ce.locals:=λz=>by rw[z,D9 [ce.locals] (by simp)]at q;cases q
    exact(sb.2 b nb).trans (k1 b o (lV _ q))
   ·have nb:b≠ce.locals:=λz=>nst (z▸q3)
    exact⟨(sb.2 b nb).trans q2,none_of b q1⟩
  refine Nt f3' λh4 f4 u4=>hX a _ ⟨pins,σ,H3,s3,_,fp,I3,f3,xi.os,xi.bare,f4,λb o q=>?_,λb o q n hf hx=>fq _ (Jt.keep b o q n hf hx) (ne b o q),λb o q n hf hx=>?_,Jt.free,λb o q hf hx=>?_,Jt.tups,Jt.frzs,Jt.tbls⟩
  ·refine(Jt.hok b o q).stay (λc v hc r=>fq _ r λz=>?_) (λ_ q=>q) λ_ _ q=>q
   rw[Ls]at z
   subst z
   rcases hc with hc|hc
   ·rw[hc,q]at hn;cases hn
   ·rw[hc]at hn;cases hn
  ·obtain⟨sl,e⟩:=Jt.slot b o q n hf hx
   have nb:b≠ce.locals:=λz=>nst (z▸hf)
   obtain⟨RA,e2⟩:=u4 b _ ((sb.2 b nb).trans e) (dt b hf o q)
   exact⟨RA,e2⟩
  ·obtain⟨o',e⟩:=Jt.there b o q hf hx
   exact⟨o',fq _ e (ne b o q)⟩
 cases use with
 |none=>exact key
 |some u=>exact key
def vt (X:Cx) (scope:Scope) (Y:Cx):Prop:=∃s0 H0 C cl fp E,Y=(X.blk s0 H0 scope (dJ scope cl C X.env) fp).wish E/\∀R H',(∀a s',XL X R a H' s'->X.xe (.ref a) s')->∀a s',XL Y R a H' s'->Y.xe (.ref a) s'
theorem vt.cxt {W:dg} {X Y:Cx} {N:List Str} {sc scope:Scope} {n:Nat} {tp:Bool} (h:vt X scope Y) (c:eZ W X N sc n tp):eZ W Y N (yo scope sc) n false/\Y.K=X.K/\Y.N=X.N/\¬uR Y:=by
 obtain⟨s0,H0,C,cl,fp,E,rfl,_⟩:=h
 have d:=c.blk (scope:=scope) s0 H0 C cl fp
 refine⟨⟨d.prog,d.wrld,d.frag,d.glob,d.bas,d.nms,d.nd,d.scp,d.calm,d.room,λh=>absurd h (by decide)⟩,rfl,rfl,λt=>?_⟩
 have e:X.stack=_::X.stack:=t.1
 have:=congrArg h9 e
 simp at this
section
variable {X:Cx}
theorem Ft {pins:List (Addr×Obj)} {s:ao} {σ:St} {H:Hp} {Q:VK} {elt tg iter:aS} {ifs:List aS} {scope:Scope} {own:List (Str×Nat)} {pos pos':Pos} {wi:TI} {g:TG} {tt:TT} {te:TE} {use:Option (Value->Sem Unit)} {Qf:Value->ao->Prop}
  (hc:X.calm=true) (top:uR X) (hN:X.N.Nodup) (I:bG X pins σ H s) (hi:PI X tg iter wi) (ok:km X.N X.env.scope scope own)
  (hg:∀Y,vt X scope Y->PG Y tg g) (ht:∀Y,vt X scope Y->Sa Y ifs tt) (he:∀Y,vt X scope Y->PE Y elt te) (hs:∀x,bL iter X.env x=pure x)
  (h:OP wi g tt te (own.map (·.2)) σ H Q)
  (Z9:∀D C s' m H',bG X pins σ H' s'->Q (.ref D) H'->s'.heap.Ns C m->qL X pins H' C->compPost (aU X.prog X.w) X.A X.xe use Qf (.ref D) C (.ok .next) s'):
  wpAny (aU X.prog X.w) X.A (yC (.ListComp elt [⟨tg,iter,ifs,0⟩] scope pos) scope X.env pos' (newList []) false (eval iter X.env) use) Qf X.xe s:=by
 have xE:∀y∈scope.names,y.2= .free->∃c,X.env.cells.lookup y.1=some c:=λy hy e=>by
  rcases ok.free y hy e with k|k
  ·exact I.ok.has _ (.inl k)
  ·exact I.ok.has _ (.inr k)
 refine JD (use:=use) rfl hs (zX xE) ok.kind (λy hy e=>by rw[ok.uniq y hy,e])
  (fb (hi pins s σ H _ I h) λxv s1 hx=>fb hx λXC s2 h2=>?_)
 obtain⟨it,fp,tn,J,H2,e,I2,T,UD,f2,q⟩:=h2
 subst e
 refine fI (xS ?_) (by show 0<=sizeLine;decide)
 generalize hD:s2.heap.objs.size=D
 have YF:H2 D=none:=I2.hok.fresh (ko hD)
 obtain⟨W,⟨m0,w0⟩,turn⟩:=q D YF
 generalize PM:({s2 with heap:=s2.heap.push {cls:= .type "list",data:= .seq ([]:List Value).toArray}}:ao)=s3
 have I3:bG X pins σ (fC H2 D (.lst [])) s3:=by
  rw[<-PM]
  refine I2.laid (t':=s2.toks) (λb o e=>au _ e) (ko hD) ⟨eS _,[],0,.nil,?_⟩
  rw[<-hD]
  exact aK _ rfl
 have h3:s3.heap=s2.heap.push {cls:= .type "list",data:= .seq ([]:List Value).toArray}:=by rw[<-PM]
 have sz:∀b∈fp,b<s2.heap.objs.size:=λb hb=>by
  obtain⟨o,e,_⟩:=T.obj _ _ UD b hb
  exact aN e
 have f3:∀b∈fp,qL X pins (fC H2 D (.lst [])) b/\b<s3.heap.objs.size:=λb hb=>by
  have jb:=sz b hb
  refine⟨⟨?_,(f2 b hb).2⟩,by rw[h3,bz];exact om jb⟩
  rw[cb (by rw[<-hD];exact cA jb)]
  exact(f2 b hb).1
 have Vo:tn 0 s3.heap:=T.keep _ _ _ UD λb _ o e=>by rw[h3];exact au _ e
 have I4:=xJ I3 ok hN f3
 have bY:vt X scope ((X.blk s3 (fC H2 D (.lst [])) scope (dJ scope (cO (s3.heap.objs.size+1) scope.names (dN X.env.cells scope.names [])) s3.heap.objs.size X.env) fp).wish
   (GX X (dJ scope (cO (s3.heap.objs.size+1) scope.names (dN X.env.cells scope.names [])) s3.heap.objs.size X.env) use Qf D)):=
  ⟨s3,_,_,_,fp,_,rfl,λR H' hX a s' xl=>LM top I3 (λb hb=>(f3 b hb).1) rfl hX xl⟩
 have pg:=hg _ bY
 have pt:=ht _ bY
 have pe:=he _ bY
 show codeAny _ _ (.compStart (.ListComp elt [⟨tg,iter,ifs,0⟩] scope pos) 0 (.ref it) (.ref D) (dJ scope (cO (s3.heap.objs.size+1) scope.names (dN X.env.cells scope.names [])) s3.heap.objs.size X.env)) (compPost (aU X.prog X.w) X.A X.xe use Qf (.ref D) s3.heap.objs.size) {s3 with heap:=kG (s3.heap.push {cls:= .type "dict",data:= .dict #[]}) scope.names}
 have We:∀b∈fp,(fC H2 D (.lst [])) b=none:=λb hb=>(f3 b hb).1.1
 clear bY
 generalize RK:dJ scope (cO (s3.heap.objs.size+1) scope.names (dN X.env.cells scope.names [])) s3.heap.objs.size X.env=ce at I4 pg pt pe⊢
 have cL:ce.locals=s3.heap.objs.size:=by subst RK;rfl
 generalize hH3:fC H2 D (.lst [])=H3 at I3 I4 pg pt pe w0 We f3
 generalize Rn:({s3 with heap:=kG (s3.heap.push {cls:= .type "dict",data:= .dict #[]}) scope.names}:ao)=s4 at I4⊢
 have Wz:tn 0 s4.heap:=T.keep _ _ _ Vo λb _ o e=>by rw[<-Rn];exact pushCells_keeps _ _ _ _ (au _ e)
 rw[<-cL]
 have I4:=I4.wish (GX X ce use Qf D)
 generalize hY:(X.blk s3 H3 scope ce fp).wish (GX X ce use Qf D)=Y at I4 pg pt pe
 have y1:Y.prog=X.prog:=by rw[<-hY]
 have y2:Y.w=X.w:=by rw[<-hY]
 have y3:Y.K=X.K:=by rw[<-hY]
 have y4:Y.A=X.A:=by rw[<-hY]
 have y5:Y.env=ce:=by rw[<-hY]
 have y6:Y.xe=GX X ce use Qf D:=by rw[<-hY]
 have y7:Y.calm=true:=by rw[<-hY];exact hc
 have y8:Y.ex=fp:=by rw[<-hY]
 have y9:Y.pn=[]:=by rw[<-hY]
 have zE:∀{σ':St} {H':Hp} {s':ao},bG Y [] σ' H' s'->(∀b∈fp,H' b=none)->∀b∈fp,qL Y [] H' b:=λ{σ' H' s'} I' hn b hb=>by
  rw[<-y8]at hb
  exact⟨hn b (y8▸hb),(I'.ok.exf b hb).1,I'.ok.exfs b hb,.inl hb,λx c e=>(I'.ok.exf b hb).2 x c e,λp hp=>absurd (show p∈Y.pn++[]from hp) (by rw[y9];simp)⟩
 have loop:codeAny (aU X.prog X.w) X.A (.compLoop (.ListComp elt [⟨tg,iter,ifs,0⟩] scope pos) 0 (.ref it) (.ref D) ce) (compPost (aU X.prog X.w) X.A X.xe use Qf (.ref D) ce.locals) s4:=by
  refine vo (λn s'=>∃i H',bG Y [] (wipe σ (own.map (·.2))) H' s'/\tn i s'.heap/\(∀b∈fp,H' b=none)/\W i n H') ?_ m0 ⟨0,H3,I4,Wz,We,w0⟩
  rintro n s5 ⟨i,H5,I5,Pp,n5,w5⟩
  rcases turn i n H5 w5 with ⟨stop,qq⟩|⟨go,Nx,Y3,step⟩
  ·have td:=T.done Y y1 y2 y3 y7 i [] s5 _ H5 (λ_ _=>False) I5 (zE I5 n5) Pp stop
   rw[y4]at td
   refine CY td λr s6 ⟨hr,I6⟩=>?_
   subst hr
   have I7:bG X pins σ H5 s6:=by
    subst hY
    exact I3.call' (ch:=fp) I6.os I6.base I6.hok I6.bare λb hb=>⟨(f3 b hb).1.2.2.2.1,(f3 b hb).1.2.1,(f3 b hb).1.2.2.2.2.1,(f3 b hb).1.2.2.2.2.2⟩
   have nC:H5 ce.locals=none:=by rw[<-y5];exact I6.free
   obtain⟨m,hn,_⟩:=I6.loc
   rw[y5]at hn
   exact Z9 D ce.locals s6 m H5 I7 qq hn (I3.fpOk (ko cL.symm) nC)
  ·have ti:=T.item Y y1 y2 y3 y7 i [] s5 _ H5 (λ_ _=>False) I5 (zE I5 n5) Pp go
   rw[y4]at ti
   refine CY ti λr s6 ⟨u,hr,h6⟩=>?_
   subst hr
   refine CY h6 λ_ s7 ⟨x,H7,I7,r7,y7',S1,n7⟩=>?_
   have Zd:=I7.pinned (zE I7 n7) (T.obj _ _ S1)
   have p1:=pg _ s7 _ H7 x u _ Zd r7 (step x H7 y7')
   rw[y1,y2,y4,y5,y6]at p1
   refine fb p1 λ_ s8 ⟨σ8,H8,I8,Xg,q8⟩=>?_
   have p2:=pt _ s8 σ8 H8 _ I8 q8
   rw[y1,y2,y4,y5,y6]at p2
   refine fb p2 λb s9 ⟨H9,I9,q9⟩=>?_
   have fin:∀{s':ao} {H':Hp},bG Y ([]++wN fp s7.heap) σ8 H' s'->Nx H'->∃m,m<n/\∃i H',bG Y [] (wipe σ (own.map (·.2))) H' s'/\tn i s'.heap/\(∀b∈fp,H' b=none)/\W i m H':=λ{s' H'} I' nx=>by
    obtain⟨m',hm,w'⟩:=Y3 H' nx
    have L1:∀b∈fp,∀o,s7.heap.get? b=some o->s'.heap.get? b=some o/\H' b=none:=λb hb o e=>
     let z:=I'.pin (b,o) (bB _ (bB _ (oP hb e)))
     ⟨z.1,z.2.1⟩
    have hl:(wipe σ (own.map (·.2))).length=σ8.length:=by rw[<-Xg,fg]
    refine⟨m',hm,i+1,H',(I'.unpinned (pins:=[])).weak hl (λj v e=>?_),T.keep _ _ _ S1 λb hb o e=>(L1 b hb o e).1,λb hb=>?_,w'⟩
    ·rw[<-Xg]at e
     exact(sr e).1
    ·obtain⟨o,e,_⟩:=T.obj _ _ S1 b hb
     exact(L1 b hb o e).2
   cases b with
   |false=>
    simp only[cq,if_false]at q9⊢
    exact fin I9 q9
   |true=>
    simp only[if_true]at q9⊢
    have p3:=pe _ s9 σ8 H9 _ I9 q9
    rw[y1,y2,y4,y5,y6]at p3
    refine fb p3 λz s10 ⟨yv,H10,Yu,Za,acc,Tt,Tv,nx⟩=>?_
    have p4:=Mg (X:=Y) (E:=GX X ce use Qf D) (Q:=λ_ s₅=>∃m,m<n/\∃i H',bG Y [] (wipe σ (own.map (·.2))) H' s₅/\tn i s₅.heap/\(∀b∈fp,H' b=none)/\W i m H') Yu Tt Tv Za λs11 Yo=>fin Yo nx
    rw[y1,y2,y4]at p4
    exact p4
 exact LF loop (T.self X.A 0 _ _ _ Wz loop)
theorem UC {elt tg iter:aS} {ifs:List aS} {scope:Scope} {own:List (Str×Nat)} {pos:Pos} {wi:TI} {g:TG} {tt:TT} {te:TE} (hc:X.calm=true) (top:uR X) (hN:X.N.Nodup) (hi:PI X tg iter wi) (ok:km X.N X.env.scope scope own)
  (hg:∀Y,vt X scope Y->PG Y tg g) (ht:∀Y,vt X scope Y->Sa Y ifs tt) (he:∀Y,vt X scope Y->PE Y elt te) (hs:∀x,bL iter X.env x=pure x:=by intro _;rfl):
  PE X (.ListComp elt [⟨tg,iter,ifs,0⟩] scope pos) (OP wi g tt te (own.map (·.2))):=by
 intro pins s σ H Q I h
 rw[eval_ListComp]
 refine Ft hc top hN I hi ok hg ht he hs h λD C s' m H' I' q hn f=>⟨m,hn,λJR sb=>?_⟩
 obtain⟨f0,f1,f2,f3,f4,f5⟩:=f
 exact⟨.ref D,H',I'.turned (t':=s'.toks) (λb o hb e=>(sb.2 b hb).trans e) f0 f1 f3 f4 f5,rfl,q⟩
theorem Ko {i:Nat} {y:Str} {py:Pos} {elt tg iter:aS} {ifs:List aS} {scope:Scope} {own:List (Str×Nat)} {pos uu:Pos} {wi:TI} {g:TG} {tt:TT} {te:TE} (hc:X.calm=true) (top:uR X) (hN:X.N.Nodup) (hy:X.N[i]? =some y) (Ws:X.env.scope.names.lookup y=some .local)
  (ZP:eA (.ListComp elt [⟨tg,iter,ifs,0⟩] scope pos) (some (.Name y py)) uu.line X.env=pure true) (hi:PI X tg iter wi) (ok:km X.N X.env.scope scope own)
  (hg:∀Y,vt X scope Y->PG Y tg g) (ht:∀Y,vt X scope Y->Sa Y ifs tt) (he:∀Y,vt X scope Y->PE Y elt te) (hs:∀x,bL iter X.env x=pure x:=by intro _;rfl):
  PS X (.Assign [.Name y py] (.ListComp elt [⟨tg,iter,ifs,0⟩] scope pos) uu) (O7 (OP wi g tt te (own.map (·.2))) (AE i)):=by
 intro pins s σ H D I h
 rw[OG _ _ _ _ ZP]
 refine wpAny_bind (qo (wpAny_bind ?_))
 show wpAny _ X.A (do let _<-yC (.ListComp elt [⟨tg,iter,ifs,0⟩] scope pos) scope X.env (firstIterPos [⟨tg,iter,ifs,0⟩] pos) (newList []) false (eval iter X.env) (some (lh (.Name y py) X.env))) _ _ s
 have h:OP wi g tt te (own.map (·.2)) σ H (λx H1=>AE i x σ H1 D.nx):=h
 refine wpAny_bind (fb (Ft (Qf:=λ_ s'=>SP X pins D .next s') hc top hN I hi ok hg ht he hs h λL C s' m H' I' q hn f=>?_) λ_ s' hq=>wpAny_pure (wpAny_pure hq))
 show wpAny _ _ (lh (.Name y py) X.env (.ref L)) _ _ _
 refine AW (wO (v:=V.ref L) I' hN hy (.inl Ws) rfl (λs2 I2 ⟨a,sb,ha⟩=>?_) (.inr Ws))
 obtain⟨f0,f1,f2,f3,f4,f5⟩:=f
 have YG:C≠a:=by
  rcases ha with z|z
  ·rw[z];exact f1
  ·exact λe=>f4 y a z e.symm
 refine⟨m,hn.sameBut sb YG,λh3 YX=>?_⟩
 exact⟨_,H',I2.turned (t':=s2.toks) (λb o hb e=>(YX.2 b hb).trans e) f0 f1 f3 f4 f5,q⟩
end
section
variable {R:Addr} {rx:Prop} {W:dg} {X:Cx} {N:List Str} {sc:Scope} {n:Nat} {tp:Bool} {ρ ρ':dk} {O:Os} {tg iter elt:aS} {scope:Scope} {pos:Pos}
def Ue (X:Cx) (scope:Scope) (elt:aS):TE:=λσ H Q=>∀Y,vt X scope Y->tW Y elt σ H Q
def UN (X:Cx) (scope:Scope) (tg:aS):TG:=λv σ H Q=>∀Y,vt X scope Y->Uy Y tg v σ H Q
theorem Me {α:Type} {l:List α} {enc:α->D} {own:List (Str×Nat)} {σ:St} {F H:Hp} {Q:VK} (I:Nat->List D->Os->Prop) (c:eZ W X N sc n tp) (hi:pF X ρ O tg iter (l.map enc)) (ok:km N sc scope own) (rm:∀y∈lu tg,y∈own.map (·.1)) (hz:l.length<=sizeLine)
  (hlen:∀i acc O1,I i acc O1->acc.length=i) (h0:I 0 [] O)
  (gU:∀i a acc O1,l[i]? =some a->I i acc O1->∃ρ2,∀Y,eZ W Y N (yo scope sc) n false->F9 Y tg (mT ρ (own.map (·.2))) (enc a) ρ2/\mq R rx Y ρ2 O1 elt (λd O2=>I (i+1) (acc++[d]) O2))
  (s:jE X.K F ρ O σ H) (pp:jo X.K F H O (λd O'=>∃q acc O1,d= .ptr q/\O'=(q,.lst acc)::O1/\I l.length acc O1) Q) (px:PX X R rx F H O):
  OP (Ta X tg iter) (UN X scope tg) HU (Ue X scope elt) (own.map (·.2)) σ H Q:=by
 have Ii:km X.N X.env.scope scope own:=by rw[c.nms,c.scp];exact ok
 refine hi σ F H _ s λJ F1 H1 g1 L8 Lw V6 A hA=>?_
 obtain⟨gA,VI,VV⟩:=Ip (ob:= .lst []) L8 Lw hA ⟨[],cp,.nil⟩
 refine⟨λi m H'=>m=l.length-i/\i<=l.length/\∃acc O1 F2,I i acc O1/\dI (cU O) F1 H1 (A::cU O1) F2 H'/\bX F2 H'/\cB X.K F2 ((A,.lst acc)::O1) H',⟨l.length,by simp,eS _,[],O,F1,h0,gA,VI,VV⟩,?_⟩
 rintro i m H2 ⟨rfl,Ng,acc,O1,F2,hI,g2,gX,gB⟩
 obtain⟨o1,o2⟩:=V6 i F2 H2 _ g2.ff gX gB
 by_cases jb:i<l.length
 ·have hd:(l.map enc)[i]? =some (enc l[i]):=by rw[aE,aI jb];rfl
  obtain⟨P2,hy⟩:=o1 _ hd
  refine .inr ⟨P2,λH'=>∃acc O1 F2,I (i+1) acc O1/\dI (cU O) F1 H1 (A::cU O1) F2 H'/\bX F2 H'/\cB X.K F2 ((A,.lst acc)::O1) H',λH' h=>⟨l.length-(i+1),by omega,rfl,jb,h⟩,λx H3 hx Y hY=>?_⟩
  obtain⟨F3,g3,kX,kN,r3⟩:=hy x H3 hx
  obtain⟨ρ2,hE⟩:=gU i l[i] acc O1 (aI jb) hI
  have sw:jE X.K F3 (mT ρ (own.map (·.2))) ((A,.lst acc)::O1) (L2.wipe σ (own.map (·.2))) H3:=(s.grow (F':=F3) ((g1.ff.trans g2.ff).trans g3.ff) kX kN).wipe _
  obtain⟨cY,eK,eN,_⟩:=hY.cxt c
  refine(hE Y cY).1 _ F3 H3 ((A,.lst acc)::O1) x _ (by rw[eK];exact sw) (by rw[eK];exact r3) λσ3 s3 l3 k3=>⟨?_,?_⟩
  ·rw[so l3 λj hj=>k3 j λy hN hy=>hj ?_]
   ·exact so (by rw[fg]) λj hj=>hJ hj
   ·obtain⟨q,hq,e⟩:=ay.mp (rm y hy)
    have e2:X.N[q.2]? =some q.1:=Ii.ix q hq
    rw[eN]at hN
    have e3:q.2=j:=gh (by rw[c.nms];exact c.nd) (e▸e2) hN
    exact ay.mpr ⟨q,hq,e3⟩
  ·unfold HU
   dsimp only
   rw[if_pos rfl]
   intro Y' Zp
   obtain⟨cY',YM,_,nt⟩:=Zp.cxt c
   rw[eK]at s3
   have s4:jE X.K F3 ρ2 O1 σ3 H3:=⟨s3.sub,s3.env,(show cB X.K F3 ([(A,.lst acc)]++O1) H3 from s3.own).right,s3.len⟩
   refine(hE Y' cY').2.run σ3 F3 H3 _ (by rw[YM];exact s4) (λv d O4 F4 H4 g4 D8 BO r4 q=>?_) λQT O' F' H' g' GD Ga=>⟨?_,λt=>absurd t nt⟩
   ·rw[YM]at BO r4
    obtain⟨Bx,g5⟩:=zS (a:=(A,Ob.lst acc)) s3.own g4 BO
    obtain⟨_,av,Oq,Eg⟩:=Bx.at_ _ ae
    have rl:=Eg.length
    rw[hlen i acc O1 hI]at rl
    refine⟨av,Oq,by omega,?_⟩
    have ra:cg X.K F4 (acc++[d]) (av++[v]):=Eg.append (.cons r4 .nil)
    obtain⟨g6,Wb,WR⟩:=zM (ob':= .lst (acc++[d])) (o:= .lst (av++[v])) D8 Bx ⟨_,cp,ra⟩
    exact⟨acc++[d],O4,F4,q,((g2.trans g3).trans g5).trans g6,Wb,WR⟩
   ·rw[YM]at Ga
    obtain⟨Bx,g5⟩:=zS (a:=(A,Ob.lst acc)) s3.own g' Ga
    obtain⟨_,_,_,_,_,_,_,tr⟩:=Zp
    exact tr R H' (px QT ((A,Ob.lst acc)::O') F' H' (((g1.trans g2).trans g3).trans g5) GD Bx).1
 ·have e:i=l.length:=by omega
  subst e
  exact .inl ⟨o2 (by rw[ah];exact aO _),pp _ (.ptr A) ((A,.lst acc)::O1) F2 H2 (g1.trans g2) gX gB rfl ⟨A,acc,O1,rfl,rfl,hI⟩⟩
theorem SE {α:Type} {l:List α} {enc:α->D} (ys:List Str) (vs:List Nat) {ρw:dk} (I:Nat->List D->Os->Prop) (c:eZ W X N sc n tp) (top:uR X) (hi:pF X ρ O tg iter (l.map enc)) (ok:Eo N sc scope (ys.zip vs)=true) (rm:∀y∈lu tg,y∈(ys.zip vs).map (·.1)) (hz:l.length<=sizeLine) (hw:Wp ρ vs ρw)
  (hlen:∀i acc O1,I i acc O1->acc.length=i) (h0:I 0 [] O)
  (gU:∀i a acc O1,l[i]? =some a->I i acc O1->∃ρ2,∀Y,eZ W Y N (yo scope sc) n false->F9 Y tg ρw (enc a) ρ2/\mq R rx Y ρ2 O1 elt (λd O2=>I (i+1) (acc++[d]) O2)) (hs:∀x,bL iter X.env x=pure x:=by intro _;rfl) (hl:(ys.zip vs).map (·.2)=vs:=by rfl):
  mq R rx X ρ O (.ListComp elt [⟨tg,iter,[],0⟩] scope pos) λd O'=>∃q acc O1,d= .ptr q/\O'=(q,.lst acc)::O1/\I l.length acc O1:= .mk λσ F H Q s pp px=>by
 have Ii:km X.N X.env.scope scope (ys.zip vs):=by rw[c.nms,c.scp];exact ka ok
 refine PE.to (UC (own:=ys.zip vs) c.calm top (by rw[c.nms];exact c.nd) z8 Ii (g:=UN X scope tg) (tt:=HU) (te:=Ue X scope elt)
  (λY hY pins s1 σ H v u Q I r h=>h Y hY pins s1 u I r) (λ_ _=>yF) (λY hY pins s1 σ H Q I h=>h Y hY pins s1 I) hs) ?_
 exact Me I c hi (ka ok) rm hz hlen h0 (by rw[hl,<-hw.eq];exact gU) s pp px
variable {x:Str} {p' uu:Pos} {rest:List Stmt} {kn:KR} {kr:KD}
theorem Lm {α:Type} {l:List α} {enc:α->D} (ys:List Str) (vs:List Nat) {ρw:dk} (I:Nat->List D->Os->Prop) (c:eZ W X N sc n true) (top:uR X) (oB:(sc.names.lookup x==some .local)=true) (hk:(sc.kind== .function)=true) (Dj:(p'.line==pos.line)=true) (ha:(scope.names.any λ(n,k)=>n==x&&(k== .local||k== .cell))=false)
  (hi:pF X ρ O tg iter (l.map enc)) (ok:Eo N sc scope (ys.zip vs)=true) (rm:∀y∈lu tg,y∈(ys.zip vs).map (·.1)) (hz:l.length<=sizeLine) (hw:Wp ρ vs ρw)
  (hlen:∀i acc O1,I i acc O1->acc.length=i) (h0:I 0 [] O)
  (gU:∀i a acc O1,l[i]? =some a->I i acc O1->∃ρ2,∀Y,eZ W Y N (yo scope sc) n false->F9 Y tg ρw (enc a) ρ2/\mq R rx Y ρ2 O1 elt (λd O2=>I (i+1) (acc++[d]) O2)) (ρf:Addr->dk) (hx:∀q,uv N ρ x (.ptr q) (ρf q))
  (h:∀q acc O1,I l.length acc O1->lD R rx X (ρf q) ((q,.lst acc)::O1) rest kn kr)
  (hs:∀x,bL iter X.env x=pure x:=by intro _;rfl) (hl:(ys.zip vs).map (·.2)=vs:=by rfl):
  lD R rx X ρ O (.Assign [.Name x p'] (.ListComp elt [⟨tg,iter,[],0⟩] scope pos) uu::rest) kn kr:=jl<| .mk λσ F H E s pn pp px=>by
 have Ii:km X.N X.env.scope scope (ys.zip vs):=by rw[c.nms,c.scp];exact ka ok
 obtain⟨i,yR⟩:=(hx 0).has
 have Ae:X.env.scope.names.lookup x=some .local:=by rw[c.scp];exact eq_of_beq oB
 have Ar:X.env.scope.kind= .function:=by rw[c.scp];revert hk;cases sc.kind<;>simp<;>decide
 refine PS.to (Ko (i:=i) (own:=ys.zip vs) c.calm top (by rw[c.nms];exact c.nd) (by rw[c.nms];exact yR) Ae (Iv Ar Ae Dj ha) z8 Ii (g:=UN X scope tg) (tt:=HU) (te:=Ue X scope elt)
  (λY hY pins s1 σ H v u Q I r h=>h Y hY pins s1 u I r) (λ_ _=>yF) (λY hY pins s1 σ H Q I h=>h Y hY pins s1 I) hs) ?_
 refine Me I c hi (ka ok) rm hz hlen h0 (by rw[hl,<-hw.eq];exact gU) s (λv d O1 F1 H1 g1 su ow r q=>?_) px
 obtain⟨A,acc,O2,rfl,rfl,hI⟩:=q
 have hq:=h A acc O2 hI
 obtain⟨j,hj,e,jb⟩:=(hx A).ix
 obtain rfl:j=i:=gh c.nd hj yR
 rw[e]at hq
 exact pn _ _ _ F1 H1 g1 ((s.grow g1.ff su ow).put r jb) hq
end
theorem qZ {R:Addr} {rx:Prop} {X:Cx} {ρ:dk} {O:Os} {rest:List Stmt} {kn:KR} {kr kr':KD} (h:lD R rx X ρ O rest kn kr):SV X ρ O [] (λρ1 O1=>lD R rx X ρ1 O1 rest kn kr) kr':=aL (Wk.refl _) h
abbrev kf (BR a:Addr) (t l:List Bool):Os:=[(a,.ins BR ["bits","place"] [dl (M.gi (t++l)),.int (t.length:Nat)])]
def Aj (BR:Addr) {α:Type} (f:List Bool->Option (α×List Bool)) (enc:α->D):uq:=λds O k rx=>∃(a:Addr) (t l:List Bool),ds=[.ptr a]/\O=kf BR a t l/\(f l=none->rx)/\
 ∀x r t',f l=some (x,r)->t'++r=t++l->k (enc x) (kf BR a t' r)
def IRd (BR:Addr):tw:=λds O k=>∃(q:Addr) (b:df),b.length<2^20/\ds=[.ptr q,dl (Rd16.ints b)]/\O=[(q,.ins BR [] [])]/\k .non (kf BR q [] (gE b))
theorem E8 {W:dg} {BR:Addr} (hC:iS W.K BR) (n1:aM W.K BR "bits") (n2:aM W.K BR "place") (T:pK W "BitReader" BR "BitReader.__init__" nG ["self","row"]) (c1:ax W "unpacked" 1 (cv Ib)):jC W "BitReader" BR 2 (IRd BR):=by
 refine rQ (N:=["self","row"]) T (by walk_at "fs") (λds O k h=>?_) λX c ds O k h=>?_
 ·obtain⟨_,_,_,rfl,_⟩:=h;rfl
 ·obtain⟨q,b,hb,rfl,rfl,hk⟩:=h
  change SV X [some (.ptr q),some (dl (Rd16.ints b))] _ _ _ _
  refine' gx (q:=q) (d:=dl (M.gi (gE b))) c hC n1 (cD.pev (aV c c1 (by decide) ?zg ?e1 ⟨b,hb,rfl,rfl⟩)) ?e2 .here .nil (by decide) ?zh
  case zg=>decide+kernel
  case e1=>walk_at "es"
  case e2=>walk_at "n"
  case zh=>
  refine' gx (q:=q) (d:= .int 0) c hC n2 ?e1 ?e2 .here (.there (by decide) .nil) (by decide) ?zh
  case e1=>
   walk_at "ec"
   rfl
  case e2=>walk_at "n"
  case zh=>exact aL (Wk.refl _) hk
theorem qQ (b:Bool) (l:List Bool):xu (b::l)=some (b,l):=rfl
theorem US (t r:List Bool) (b:Bool):(M.gi (t++b::r))[t.length]? =some (M.bi b):=by
 unfold M.gi
 rw[aE,cM (aO _),qB]
 rfl
theorem m_take_bit {W:dg} {BR R:Addr} (B:Bn W) (hC:iS W.K BR) (n1:aM W.K BR "bits") (n2:aM W.K BR "place") (hR:xb W R) (T:jH W BR "take_bit" "BitReader.take_bit" kU ["self"]):fi W R BR "take_bit" 1 (Aj BR xu λb=> .int (M.bi b)):=by
 refine mL (N:=["self"]) T (by walk_at "fs") (λds O k rx h=>?_) λX c top ds O k rx h=>?_
 ·obtain⟨_,_,_,rfl,_⟩:=h;rfl
 ·obtain⟨a,t,l,rfl,rfl,hn,hk⟩:=h
  have len:((M.gi (t++l)).map D.int).length=t.length+l.length:=by rw[ah,M.bH,aj]
  change lD R rx X [some (.ptr a)] _ _ _ _
  refine' nh (DT (i:=(t.length:Nat)) (j:=(((M.gi (t++l)).map D.int).length:Nat)) (md (q:=a) c hC n2 (by decide+kernel) ?e1 ae (.there .here)) (kH c B ?zg (md (q:=a) c hC n1 (by decide+kernel) ?e2 ae .here))) ?h1 ?h2
  case e1=>walk_at "n"
  case e2=>walk_at "n"
  case zg=>decide+kernel
  case h1=>
   intro hf
   have hf:=of_decide_eq_true hf
   have:l=[]:=jP.mp (by lia)
   subst this
   exact iZ c top hR (by decide+kernel) (hn rfl)
  case h2=>
   intro hf
   have hf:=of_decide_eq_false hf
   cases l with
   |nil=>exact absurd (by rw[len];simp) hf
   |cons b r=>
    refine(aL (Wk.refl _) ?_).x
    refine SV.x ?_
    refine' Lh (q:=a) (i:=(t.length:Nat)) (j:=1) c hC n2 (by decide+kernel) ?e1 ?e2 (.there .here) .here (.there (by decide) .here) (by decide) ?zh
    case e1=>walk_at "n"
    case e2=>
     walk_at "ec"
     rfl
    case zh=>
    have Ar:=hk b r (t++[b]) (qQ b r) (by simp)
    have eO:kf BR a (t++[b]) r=[(a,.ins BR ["bits","place"] [dl (M.gi (t++b::r)),.int ((t.length:Nat)+1)])]:=by
     unfold kf
     rw[bM,aj]
     simp
    rw[eO]at Ar
    refine' aT (bq.go (d:= .int (M.bi b)) (j7 (l:=M.gi (t++b::r)) (f:=D.int) (k:=t.length) (md (q:=a) c hC n1 (by decide+kernel) ?e3 ae .here) (vO (md (q:=a) c hC n2 (by decide+kernel) ?e4 ae (.there .here)) bI) (by lia) (US t r b) ?y2) Ar)
    case e3=>walk_at "n"
    case e4=>walk_at "n"
    case y2=>intro _ _;rfl
theorem m_take_number {W:dg} {BR R:Addr} (B:Bn W) (hC:iS W.K BR) (hR:xb W R) (gM:Gv W "MOST_ZEROS" (.int 20)) (T:jH W BR "take_number" "BitReader.take_number" jy ["self"]) (c1:fi W R BR "take_bit" 1 (Aj BR xu λb=> .int (M.bi b))):
  fi W R BR "take_number" 2 (Aj BR lB λn=> .int (n:Nat)):=by
 refine mL (N:=["self","zeros","value","turn"]) T (by walk_at "fs") (λds O k rx h=>?_) λX c top ds O k rx h=>?_
 ·obtain⟨_,_,_,rfl,_⟩:=h;rfl
 ·obtain⟨a,t,l,rfl,rfl,hn,hk⟩:=h
  change lD R rx X [some (.ptr a),none,none,none] _ _ _ _
  have Wi:∀{ρ:dk} {t1 l1:List Bool} {p1 p2 p3:Pos} {kk:KD},bq X ρ (kf BR a t1 l1) (.Name "self" p1) (.ptr a)->(l1=[]->rx)->(∀b r,l1=b::r->kk (.int (M.bi b)) (kf BR a (t1++[b]) r))->∀{pl:Sem Bool},(eval (.Call (.Attribute (.Name "self" p1) "take_bit" p2) [] [] p3) X.env=(do
   let ov<-eval (.Name "self" p1) X.env
   standAt p2.atName
   let (f,first)<-holding [ov] (jF ov "take_bit" pl)
   callWith p3 f first (cw p3 (ak [] X.env)) (iV p3 (e8 [] X.env))))->mq R rx X ρ (kf BR a t1 l1) (.Call (.Attribute (.Name "self" p1) "take_bit" p2) [] [] p3) kk:=by
   intro ρ t1 l1 p1 p2 p3 kk hs h1 h2 pl ht
   refine i3 (Oa:=kf BR a t1 l1) (Ob:=[]) c hC c1 (by decide) hs ae (by decide+kernel) (by simp) ⟨a,t1,l1,rfl,rfl,λh=>h1 ?_,λx r t' Qv UK=>?_⟩ ht
   ·cases l1 with
    |nil=>rfl
    |cons b r=>cases h
   ·cases l1 with
    |nil=>cases Qv
    |cons b r'=>
     rw[qQ]at Qv
     cases Qv
     have e:t'=t1++[x]:=by
      have:t'++r=(t1++[x])++r:=by rw[UK,bM];rfl
      exact D6 this
     rw[e,br]
     exact h2 x r rfl
  refine' lW (bK (d:= .int ((0:Nat):Int)) c ?hl ?he ?hp (qZ ?zh))
  case hl=>decide+kernel
  case he=>
   walk_at "ec"
   rfl
  case hp=>walk_at "put"
  case zh=>
  refine' KC c (λm ρ1 O1=>∃z t1,m=21-z/\z<=20/\ρ1=[some (.ptr a),some (.int (z:Nat)),none,none]/\∃l1,O1=kf BR a t1 l1/\t1++l1=t++l/\lB l=Rd16.rdNum (21-z) z l1) 21 ⟨0,t,rfl,by lia,rfl,l,rfl,rfl,rfl⟩ ?turn
  case turn=>
  rintro m ρ1 O1 ⟨z,t1,rfl,hz,rfl,l1,rfl,ht,hr⟩
  have ef:21-z=(20-z)+1:=by lia
  refine' Pj (j:=0) (Wi ?hs ?h1 ?h2 rfl)
  case hs=>walk_at "n"
  case h1=>
   intro e
   subst e
   exact hn (by rw[hr,M.QU])
  case h2=>
  intro b r e
  subst e
  refine⟨M.bi b,rfl,bI,?_⟩
  have DK:(t1++[b])++r=t++l:=by rw[<-ht,bM];rfl
  cases b with
  |false=>
   rw[if_pos (by rfl)]
   refine' lW (DP (i:=(z:Nat)) (j:=1) c ?hl ?hg ?he ?hp (qZ ?zh))
   case hl=>decide+kernel
   case hg=>walk_at "get"
   case he=>
    walk_at "ec"
    rfl
   case hp=>walk_at "put"
   case zh=>
   rw[ef,M.Nh]at hr
   refine' nh ?hc ?h1 ?h2
   case hc=>walk_at "t"
   case h1=>
    intro hf
    have hf:=of_decide_eq_true hf
    have:20-z=0:=by lia
    exact iZ c top hR (by decide+kernel) (hn (by rw[hr,this];rfl))
   case h2=>
    intro hf
    have hf:=of_decide_eq_false hf
    refine(aL (Wk.refl _) ?_).x
    refine(aL (Wk.refl _) ⟨21-(z+1),by lia,z+1,t1++[false],rfl,by lia,by simp,r,rfl,DK,?_⟩).x
    rw[hr]
    congr 1
    lia
  |true=>
   rw[if_neg (by decide)]
   rw[ef,M.Q5]at hr
   refine' lW (bK (d:= .int ((1:Nat):Int)) c ?hl ?he ?hp (qZ ?zh))
   case hl=>decide+kernel
   case he=>
    walk_at "ec"
    rfl
   case hp=>walk_at "put"
   case zh=>
   refine' yG c (pF.px (ds:=(ia 0 1 (z:Int).toNat).map .int) ?hi ⟨λi ρ1 O1=>∃v t2 l2 dt,ρ1=[some (.ptr a),some (.int (z:Nat)),some (.int (v:Nat)),dt]/\O1=kf BR a t2 l2/\t2++l2=t++l/\v<2*2^i/\1<=v/\i<=z/\Rd16.rdBits z 1 r=Rd16.rdBits (z-i) v l2,⟨1,t1++[true],r,none,rfl,rfl,DK,by lia,by lia,by lia,rfl⟩,?step,?done⟩)
   case hi=>
    refine' iO (j:=(z:Int)) c ?zg B.range ?ye (by lia) (by lia)
    case zg=>decide+kernel
    case ye=>walk_at "n"
   case done=>
    rintro ρ1 O1 ⟨v,t2,l2,dt,rfl,rfl,UM,hv,XY,_,hb⟩
    rw[ah,ez,bC,qB]at hb
    have hN:lB l=some (v-1,l2):=by rw[hr,hb];rfl
    refine SV.x (aT (bq.go (d:= .int ((v-1:Nat):Int)) ?_ (hk (v-1) l2 t2 hN UM)))
    walk_at "ec"
    exact congrArg D.int (by lia)
   case step=>
   rintro i d ρ1 O1 hd ⟨v,t2,l2,dt,rfl,rfl,UM,hv,XY,hiz,hb⟩
   obtain⟨hi,rfl⟩:=gf hd
   rw[bC]at hi
   refine⟨_,by walk_at "tg1",?_⟩
   have ei:z-i=(z-(i+1))+1:=by lia
   have v21:v<2*2^20:=aX hv (b6 _ (ub (by lia) (by lia)))
   refine' j8 c ?hl ⟨2,rfl⟩ (Nw (i:=2*(v:Nat)) ?ha (Wi ?hs ?h1 ?h2 rfl))
   case hl=>decide+kernel
   case ha=>walk_at "e"
   case hs=>walk_at "n"
   case h1=>
    intro e
    subst e
    exact hn (by rw[hr,hb,ei,M.Mp];rfl)
   case h2=>
   intro b r2 e
   subst e
   refine⟨M.bi b,rfl,_,by walk_at "put",?_⟩
   refine(aL (Wk.refl _) ⟨2*v+(if b=true then 1 else 0),t2++[b],r2,some (.int (0+(i:Int)*1)),?_,rfl,by rw[<-UM,bM];rfl,?_,by lia,by lia,by rw[hb,ei,M.Kr]⟩).x
   ·have:(2*(v:Int)+M.bi b)=((2*v+(if b=true then 1 else 0):Nat):Int):=by cases b<;>simp[M.bi]
    rw[this]
   ·rw[Nat.pow_succ]
    split<;>lia
def NO (n:Nat):Int:=if n%2=1 then ((n+1)/2:Nat)else -((n/2:Nat):Int)
theorem m_take_signed {W:dg} {BR R:Addr} (hC:iS W.K BR) (T:jH W BR "take_signed" "BitReader.take_signed" jA ["self"]) (c1:fi W R BR "take_number" 2 (Aj BR lB λn=> .int (n:Nat))):
  fi W R BR "take_signed" 3 (Aj BR i9 D.int):=by
 refine mL (N:=["self","number"]) T (by walk_at "fs") (λds O k rx h=>?_) λX c top ds O k rx h=>?_
 ·obtain⟨_,_,_,rfl,_⟩:=h;rfl
 ·obtain⟨a,t,l,rfl,rfl,hn,hk⟩:=h
  change lD R rx X [some (.ptr a),none] _ _ _ _
  refine' j8 c ?hl ⟨1,rfl⟩ (i3 (Oa:=kf BR a t l) (Ob:=[]) c hC c1 (by decide) ?hs ae (by decide+kernel) (by simp) ⟨a,t,l,rfl,rfl,λh=>hn (by unfold i9;rw[h];rfl),λx r t' h1 h2=>?hk⟩)
  case hl=>decide+kernel
  case hs=>walk_at "n"
  case hk=>
  refine⟨_,by walk_at "put",?_⟩
  rw[br]
  have hz:i9 l=some (NO x,r):=by unfold i9;rw[h1];rfl
  refine SV.x (aT (bq.go (d:= .int (NO x)) ?_ (hk _ r t' hz h2)))
  walk_at "ec"
  unfold NO
  by_cases e:x%2=1
  ·rw[if_pos e,if_pos (by simp;lia)]
   exact congrArg D.int (by lia)
  ·rw[if_neg e,if_neg (by simp;lia)]
   exact congrArg D.int (by lia)
def WE (BR:Addr):uq:=λds O k rx=>∃(a:Addr) (t l:List Bool),ds=[.ptr a]/\O=kf BR a t l/\(¬(l.length<8/\l.all (λb=>!b)=true)->rx)/\((l.length<8/\l.all (λb=>!b)=true)->k .non (kf BR a t l))
theorem Dx:∀l:List Bool,((M.gi l).any λz=>z !=0)=!(l.all λb=>!b)
 |[]=>rfl
 |b::l=>by
  have:=Dx l
  unfold M.gi at this⊢
  rw[bg,lp,D1,this]
  cases b<;>simp[M.bi]
theorem Lo (t l:List Bool):yy ((M.gi (t++l)).map D.int) (some (t.length:Nat)) none=(M.gi l).map .int:=by
 have e:(M.gi (t++l)).map D.int=(M.gi t).map D.int++(M.gi l).map D.int:=by rw[M.kB,aY]
 have lt:((M.gi t).map D.int).length=t.length:=by rw[ah,M.bH]
 unfold yy
 rw[HT.De,e,rY (by rw[aj,lt];lia),List.drop_left' lt]
 refine cz ?_
 show _<=((M.gi t).map D.int++(M.gi l).map D.int).length-t.length
 rw[aj,lt]
 lia
theorem m_finish {W:dg} {BR R:Addr} (B:Bn W) (hC:iS W.K BR) (n1:aM W.K BR "bits") (n2:aM W.K BR "place") (hR:xb W R) (T:jH W BR "finish" "BitReader.finish" lY ["self"]):fi W R BR "finish" 1 (WE BR):=by
 refine mL (N:=["self","rest"]) T (by walk_at "fs") (λds O k rx h=>?_) λX c top ds O k rx h=>?_
 ·obtain⟨_,_,_,rfl,_⟩:=h;rfl
 ·obtain⟨a,t,l,rfl,rfl,hn,hk⟩:=h
  change lD R rx X [some (.ptr a),none] _ _ _ _
  refine' lW (bK (d:=dl (M.gi l)) c ?hl (bq.cast (cD.pev (rS (ds:=(M.gi (t++l)).map D.int) (md (q:=a) c hC n1 (by decide+kernel) ?e1 ae .here) (dO (md (q:=a) c hC n2 (by decide+kernel) ?e2 ae (.there .here))) rfl)) (congrArg D.lst (Lo t l))) ?hp (qZ ?zh))
  case hl=>decide+kernel
  case e1=>walk_at "n"
  case e2=>walk_at "n"
  case hp=>walk_at "put"
  case zh=>
  have len:((M.gi l).map D.int).length=l.length:=by rw[ah,M.bH]
  refine' nh (C6 (i:=(((M.gi l).map D.int).length:Nat)) (j:=7) (kH c B ?zg ?e1) bI) ?h1 ?h2
  case zg=>decide+kernel
  case e1=>walk_at "n"
  case h1=>
   intro hf
   have hf:=of_decide_eq_true hf
   exact iZ c top hR (by decide+kernel) (hn (by omega))
  case h2=>
  intro hf
  have hf:=of_decide_eq_false hf
  refine(aL (Wk.refl _) ?_).x
  refine' nh (fV (mf (l:=M.gi l) c B ?zg ?e1) (by intro _;rfl)) ?h1 ?h2
  case zg=>decide+kernel
  case e1=>walk_at "n"
  case h1=>
   intro hf
   rw[Dx]at hf
   exact iZ c top hR (by decide+kernel) (hn (λh=>by rw[h.2]at hf;cases hf))
  case h2=>
   intro OQ
   rw[Dx]at OQ
   refine(aL (Wk.refl _) ?_).x
   exact(aL (Wk.refl _) (hk ⟨by omega,by simpa using OQ⟩)).x
section
variable {R:Addr} {rx:Prop} {X:Cx} {ρ ρ':dk} {O:Os} {e:aS} {m5:List Stmt} {k:KD} {kn:KR} {kr:KD}
theorem mq.frz2 (h:mq R rx X ρ O e λd O'=>∃p ds O0,d= .ptr p/\O'=(p,.lst ds)::O0/\k (.lst ds) O0):mq R rx X ρ O e k:= .mk λσ F H Q s p x=>h.run σ F H Q s (λv d O' F' H' g su ow r q=>by
 obtain⟨a,ds,O0,rfl,rfl,q⟩:=q
 obtain⟨_,vs,hv,hr⟩:=ow.at_ _ ae
 obtain⟨g2,sf,gX,gB⟩:=rp su ow hv
 obtain rfl:v=V.ref a:=r
 exact p _ (.lst ds) O0 _ H' (g.trans g2) gX gB ⟨a,vs,rfl,cp,hr.mono sf⟩ q) x
theorem lD.own {O':Os} (h:lD R rx X ρ O' m5 kn kr) (hs:∀q∈O',q∈O) (hn:(cU O).Nodup->(cU O').Nodup):lD R rx X ρ O m5 kn kr:= .mk λσ F H E s pn p x=>by
 have g:dI (cU O) F H (cU O') F H:=⟨bX.refl _,λ_ _ h _=>h,λ_ _ h=> .inl h,λ_ _ h=>⟨_,h⟩,λp hp=> .inl (by
  obtain⟨q,hq,rfl⟩:=ay.mp hp
  exact ay.mpr ⟨q,hs q hq,rfl⟩)⟩
 exact h.run σ F H E ⟨s.sub,s.env,s.own.sub hs (hn s.own.nd),s.len⟩ (pn.after g) (p.after g) (x.after g)
theorem qW {x y:Addr×Ob} (h:lD R rx X ρ (y::x::O) m5 kn kr):lD R rx X ρ (x::y::O) m5 kn kr:=h.own gg.1 gg.2
theorem Uo {q:Addr} {ds:List D} (hf:Fz q ds ρ ρ') (h:lD R rx X ρ' O m5 kn kr):lD R rx X ρ ((q,.lst ds)::O) m5 kn kr:= .mk λσ F H E s pn p x=>by
 obtain⟨_,vs,hv,hr⟩:=s.own.at_ _ ae
 obtain⟨g,sf,su,ow⟩:=rp s.sub s.own hv
 have hρ:=hf.at
 refine h.run σ _ H E ⟨su,λi d e=>?_,ow,?_⟩ (pn.after g) (p.after g) (x.after g)
 ·rcases hρ i with z|⟨z1,z2⟩
  ·rw[z]at e
   obtain⟨v,h1,h2⟩:=s.env i d e
   exact⟨v,h1,h2.mono sf⟩
  ·obtain rfl:D.lst ds=d:=by rw[z2]at e;exact bo (bo e)
   obtain⟨v,h1,h2⟩:=s.env i _ z1
   obtain rfl:v=V.ref q:=h2
   exact⟨_,h1,q,vs,rfl,cp,hr.mono sf⟩
 ·rw[s.len]
  refine Nat.le_antisymm ?_ ?_<;>refine zc λhl=>?_
  ·rcases hρ ρ'.length with z|⟨z1,z2⟩
   ·rw[bu (aO _),aI hl]at z;cases z
   ·rw[bu (aO _)]at z2;cases z2
  ·rcases hρ ρ.length with z|⟨z1,z2⟩
   ·rw[bu (aO _),aI hl]at z;cases z
   ·rw[bu (aO _)]at z1;cases z1
end
def wd (p:Rd16.Vec) (l:List Bool):Option (Rd16.Vec×List Bool):=match i9 l with
 |none=>none
 |some (x,l1)=>match i9 l1 with
  |none=>none
  |some (y,l2)=>if iz (p.1+x,p.2+y)=true then some ((p.1+x,p.2+y),l2)else none
def W2 (BR:Addr):uq:=λds O k rx=>∃(a:Addr) (t l:List Bool) (p:Rd16.Vec),ds=[.ptr a,dH p]/\O=kf BR a t l/\(wd p l=none->rx)/\∀v r t',wd p l=some (v,r)->t'++r=t++l->k (dH v) (kf BR a t' r)
theorem Bo {W:dg} {BR R:Addr} (B:Bn W) (hC:iS W.K BR) (hR:xb W R) (gF:Gv W "FARTHEST" (.int 15)) (T:dC W "read_vector" "read_vector" tZ ["reader","hint"]) (c1:fi W R BR "take_signed" 3 (Aj BR i9 D.int)):hW W R "read_vector" 4 (W2 BR):=by
 refine l6 (N:=["reader","hint","x","y"]) T (by walk_at "fs") (λds O k rx h=>?_) λX c top ds O k rx h=>?_
 ·obtain⟨_,_,_,_,rfl,_⟩:=h;rfl
 ·obtain⟨a,t,l,p,rfl,rfl,hn,hk⟩:=h
  change lD R rx X [some (.ptr a),some (dH p),none,none] _ _ _ _
  have sgx:∀{ρ:dk} {t1 l1:List Bool} {p1 p2 p3:Pos} {kk:KD},bq X ρ (kf BR a t1 l1) (.Name "reader" p1) (.ptr a)->(i9 l1=none->rx)->(∀x r t',i9 l1=some (x,r)->t'++r=t1++l1->kk (.int x) (kf BR a t' r))->∀{pl:Sem Bool},(eval (.Call (.Attribute (.Name "reader" p1) "take_signed" p2) [] [] p3) X.env=(do
   let ov<-eval (.Name "reader" p1) X.env
   standAt p2.atName
   let (f,first)<-holding [ov] (jF ov "take_signed" pl)
   callWith p3 f first (cw p3 (ak [] X.env)) (iV p3 (e8 [] X.env))))->mq R rx X ρ (kf BR a t1 l1) (.Call (.Attribute (.Name "reader" p1) "take_signed" p2) [] [] p3) kk:=by
   intro ρ t1 l1 p1 p2 p3 kk hs h1 h2 pl ht
   refine i3 (Oa:=kf BR a t1 l1) (Ob:=[]) c hC c1 (by decide) hs ae (by decide+kernel) (by simp) ⟨a,t1,l1,rfl,rfl,h1,λx r t' Qv UK=>?_⟩ ht
   show kk (.int x) (kf BR a t' r++[])
   rw[br]
   exact h2 x r t' Qv UK
  refine' j8 c ?hl ⟨2,rfl⟩ (qP (j:=p.1) (sgx ?hs ?h1 ?h2 rfl))
  case hl=>decide+kernel
  case hs=>walk_at "n"
  case h1=>intro e;exact hn (by unfold wd;rw[e])
  case h2=>
  intro x l1 t1 hz1 RX
  refine⟨x,rfl,by walk_at "e",_,by walk_at "put",?_⟩
  refine' j8 c ?hl ⟨3,rfl⟩ (qP (j:=p.2) (sgx ?hs ?h1 ?h2 rfl))
  case hl=>decide+kernel
  case hs=>walk_at "n"
  case h1=>intro e;exact hn (by unfold wd;rw[hz1];simp only[e])
  case h2=>
  intro y l2 t2 Av DK
  refine⟨y,rfl,by walk_at "e",_,by walk_at "put",?_⟩
  have hv:wd p l=if iz (p.1+x,p.2+y)=true then some ((p.1+x,p.2+y),l2)else none:=by unfold wd;rw[hz1];simp only[Av]
  rw[Int.add_comm x p.1,Int.add_comm y p.2]
  generalize hX':p.1+x=x' at hv
  generalize Zp:p.2+y=y' at hv
  refine' nh ?hc ?h1 ?h2
  case hc=>walk_at "t"
  case h1=>
   intro hf
   refine iZ c top hR (by decide+kernel) (hn ?_)
   rw[hv,if_neg]
   intro JV
   simp only[iz,aH,decide_eq_true_eq]at JV
   simp only[eP,decide_eq_true_eq]at hf
   rcases hf with hf|hf<;>(revert hf;split<;>omega)
  case h2=>
   intro hf
   have JV:iz (x',y')=true:=by
    simp only[eh,decide_eq_false_iff_not]at hf
    simp only[iz,aH,decide_eq_true_eq]
    obtain⟨h1,h2⟩:=hf
    revert h1 h2
    split<;>split<;>omega
   rw[if_pos JV]at hv
   refine(aL (Wk.refl _) ?_).x
   refine SV.x (aT (bq.go (d:=dH (x',y')) ?_ (hk (x',y') l2 t2 hv (by rw[DK,RX]))))
   walk_at "e"
def L6 (BR:Addr):uq:=λds O k rx=>∃(a:Addr) (t l:List Bool) (q:Nat),q<=64/\ds=[.ptr a,.int (q:Nat)]/\O=kf BR a t l/\(xw q true l=none->rx)/\
 ∀b r t' p,xw q true l=some (b,r)->t'++r=t++l->k (.ptr p) ((p,.lst (b.map .int))::kf BR a t' r)
theorem DL {W:dg} {BR R:Addr} (B:Bn W) (hC:iS W.K BR) (hR:xb W R) (gG:Gv W "GREATEST" (.int 32767)) (T:dC W "read_block" "read_block" vY ["reader","step"]) (c0:fi W R BR "take_bit" 1 (Aj BR xu λb=> .int (M.bi b))) (c1:fi W R BR "take_number" 2 (Aj BR lB λn=> .int (n:Nat))):hW W R "read_block" 3 (L6 BR):=by
 refine l6 (N:=["reader","step","levels","place","turn","size","below"]) T (by walk_at "fs") (λds O k rx h=>?_) λX c top ds O k rx h=>?_
 ·obtain⟨_,_,_,_,_,rfl,_⟩:=h;rfl
 ·obtain⟨a,t,l,q,hq,rfl,rfl,hn,hk⟩:=h
  change lD R rx X [some (.ptr a),some (.int (q:Nat)),none,none,none,none,none] _ _ _ _
  have YW:∀{ρ:dk} {Ob:Os} {t1 l1:List Bool} {p1 p2 p3:Pos} {kk:KD},bq X ρ (kf BR a t1 l1++Ob) (.Name "reader" p1) (.ptr a)->(lB l1=none->rx)->(∀x r t',lB l1=some (x,r)->t'++r=t1++l1->kk (.int (x:Nat)) (kf BR a t' r++Ob))->∀{pl:Sem Bool},(eval (.Call (.Attribute (.Name "reader" p1) "take_number" p2) [] [] p3) X.env=(do
   let ov<-eval (.Name "reader" p1) X.env
   standAt p2.atName
   let (f,first)<-holding [ov] (jF ov "take_number" pl)
   callWith p3 f first (cw p3 (ak [] X.env)) (iV p3 (e8 [] X.env))))->mq R rx X ρ (kf BR a t1 l1++Ob) (.Call (.Attribute (.Name "reader" p1) "take_number" p2) [] [] p3) kk:=by
   intro ρ Ob t1 l1 p1 p2 p3 kk hs h1 h2 pl ht
   exact i3 (Oa:=kf BR a t1 l1) (Ob:=Ob) c hC c1 (by decide) hs ae (by decide+kernel) rfl ⟨a,t1,l1,rfl,rfl,h1,λx r t' Qv UK=>h2 x r t' Qv UK⟩ ht
  refine' lW (gk (ds:=(aq 64 (0:Int)).map .int) (λb=>[some (.ptr a),some (.int (q:Nat)),some (.ptr b),none,none,none,none]) c ?hl (cD.cast (lL (ds:=[.int 0]) (i:=64) (cD.pev (dP ?es ?z)) ?e3 ?b1 ?b2 ?b3) ?qv) ?hx (λlv=>qZ ?zh) ?hs)
  case hl=>decide+kernel
  case es=>walk_at "es"
  case z=>show 1<=sizeLine;rw[af];decide
  case e3=>
   walk_at "ec"
   rfl
  case b1=>decide
  case b2=>decide
  case b3=>rw[af];decide
  case qv=>rfl
  case hx=>intro q;walk_at "put"
  case hs=>rfl
  case zh=>
  refine' lW (bK (d:= .int (((0:Nat):Int)-1)) c ?hl ?he ?hp (qZ ?zh))
  case hl=>decide+kernel
  case he=>
   walk_at "ec"
   rfl
  case hp=>walk_at "put"
  case zh=>
  refine qW ?_
  refine' yG c (HE c ?zg B.range (qP (j:=1) (YW (Ob:=[(lv,.lst ((aq 64 (0:Int)).map .int))]) ?hs ?h1 ?h2 rfl)))
  case zg=>decide+kernel
  case hs=>walk_at "n"
  case h1=>intro e;exact hn (M.GH e)
  case h2=>
  intro n l0 t0 hN ht0
  have jb:=M.Mq hN
  refine⟨n,rfl,bI,(n:Int)+1,rfl,by lia,by lia,?_⟩
  have UJ:qh q (n+1) 0 l0=none->rx:=λh=>hn (by rw[M.Am hN];split;rfl;exact h)
  refine⟨λi ρ1 O1=>∃(dn:List Int) (kk:Nat) (t1 l1:List Bool) (d1 d2 d3:Option D),ρ1=[some (.ptr a),some (.int (q:Nat)),some (.ptr lv),some (.int ((kk:Int)-1)),d1,d2,d3]/\O1=kf BR a t1 l1++[(lv,.lst ((dn++aq (64-kk) 0).map .int))]/\t1++l1=t++l/\dn.length=kk/\i<=kk/\kk<=64/\qh q (n+1) 0 l0=(qh q (n+1-i) kk l1).map λ(x:List Int×List Bool)=>(dn++x.1,x.2),
   ⟨[],0,t0,l0,none,none,none,rfl,rfl,ht0,rfl,by lia,by lia,?_⟩,?step,?done⟩
  ·rw[Nat.sub_zero]
   cases qh q (n+1) 0 l0<;>rfl
  case done=>
   rintro ρ1 O1 ⟨dn,kk,t1,l1,d1,d2,d3,rfl,rfl,ht,hd,hik,X1,hp⟩
   rw[ah,ez,show((n:Int)+1).toNat=n+1 by lia]at hik hp
   rw[qB]at hp
   have hb:xw q true l=some (dn++aq (64-kk) 0,l1):=by rw[M.Am hN,if_neg (by lia),hp];rfl
   refine SV.x (aT (EV.sub (bq.go (d:= .ptr lv) (by walk_at "n") ⟨_,gg.1,gg.2,hk _ l1 t1 lv hb ht⟩)))
  case step=>
  rintro i d ρ1 O1 hd ⟨dn,kk,t1,l1,d1,d2,d3,rfl,rfl,ht,TJ,hik,X1,hp⟩
  obtain⟨hi,rfl⟩:=gf hd
  have ei:n+1-i=(n+1-(i+1))+1:=by lia
  rw[ei]at hp
  refine⟨_,by walk_at "tg1",?_⟩
  refine' Pw (i:=(kk:Int)-1) c ?hl ?hg (qP (j:=1) (YW ?hs ?h1 ?h2 rfl))
  case hl=>decide+kernel
  case hg=>walk_at "get"
  case hs=>walk_at "n"
  case h1=>intro e;exact UJ (by rw[hp,M.Fi e];rfl)
  case h2=>
  intro z l2 t2 hz DK
  refine⟨z,rfl,bI,(z:Int)+1,rfl,_,by walk_at "put",?_⟩
  refine' j8 c ?hl ⟨5,rfl⟩ (qP (j:=1) (YW ?hs ?h1 ?h2 rfl))
  case hl=>decide+kernel
  case hs=>walk_at "n"
  case h1=>intro e;exact UJ (by rw[hp,M.Ew hz e];rfl)
  case h2=>
  intro m l3 t3 hm UM
  have mlt:=M.Mq hm
  refine⟨m,rfl,bI,_,by walk_at "put",?_⟩
  refine' j8 c ?hl ⟨6,rfl⟩ (i3 (Oa:=kf BR a t3 l3) (Ob:=[(lv,.lst ((dn++aq (64-kk) 0).map .int))]) c hC c0 (by decide) ?hs ae (by decide+kernel) rfl ⟨a,t3,l3,rfl,rfl,?h1,?h2⟩)
  case hl=>decide+kernel
  case hs=>walk_at "n"
  case h1=>
   intro e
   cases l3 with
   |nil=>exact UJ (by rw[hp,M.FH hz hm];rfl)
   |cons s l4=>cases e
  case h2=>
  intro s l4 t4 Rn ht4
  cases l3 with
  |nil=>cases Rn
  |cons s' l4'=>
  rw[qQ]at Rn
  cases Rn
  refine⟨_,by walk_at "put",?_⟩
  have D7:=M.zt (q:=q) (n:=n+1-(i+1)) (k:=kk) hz hm (rfl:s::l4=s::l4)
  rw[D7]at hp
  have ll:(dn++aq (64-kk) (0:Int)).length=64:=by rw[aj,aP,TJ];lia
  have YI:((dn++aq (64-kk) (0:Int)).map D.int).length=64:=by rw[ah,ll]
  have ep:(kk:Int)-1+((z:Int)+1)=((kk+z:Nat):Int):=by lia
  rw[ep]
  refine' nh (DT (i:=((kk+z:Nat):Int)) (j:=(((dn++aq (64-kk) (0:Int)).map D.int).length:Nat)) ?e1 (FJ (q:=lv) c B ?zg ?e2 (ai _ ae))) ?h1 ?h2
  case e1=>walk_at "n"
  case zg=>decide+kernel
  case e2=>walk_at "n"
  case h1=>
   intro hf
   have hf:=of_decide_eq_true hf
   rw[YI]at hf
   exact iZ c top hR (by decide+kernel) (UJ (by rw[hp,if_pos (.inl (by lia))];rfl))
  case h2=>
  intro hf
  have hf:=of_decide_eq_false hf
  rw[YI]at hf
  refine(aL (Wk.refl _) ?_).x
  have ems:((m:Int)+1)*(q:Int)=(((m+1)*q:Nat):Int):=by push_cast;rfl
  refine' nh (C6 (i:=((m:Int)+1)*(q:Int)) (j:=32767) (lH ?e1 ?e2 ?cm) ?e3) ?h1 ?h2
  case e1=>walk_at "n"
  case e2=>walk_at "n"
  case cm=>left;constructor<;>lia
  case e3=>walk_at "e"
  case h1=>
   intro OQ
   have OQ:=of_decide_eq_true OQ
   rw[ems]at OQ
   exact iZ c top hR (by decide+kernel) (UJ (by rw[hp,if_pos (.inr (by lia))];rfl))
  case h2=>
  intro OQ
  have OQ:=of_decide_eq_false OQ
  rw[ems]at OQ
  rw[if_neg (by lia)]at hp
  refine(aL (Wk.refl _) ?_).x
  refine' lW (kA (q:=lv) (ds:=(dn++aq (64-kk) (0:Int)).map D.int) (i:=((kk+z:Nat):Int)) (jj:=kk+z) (d:= .int (M.UU s m)) ?he ?ho ?hi ?hj (.there .here) (qZ ?zh))
  case he=>
   walk_at "ec"
   cases s<;>rfl
  case ho=>walk_at "n"
  case hi=>walk_at "n"
  case hj=>
   rw[YI]
   exact sy (by lia)
  case zh=>
  refine(aL (Wk.refl _) ⟨dn++(aq z 0++[M.UU s m]),kk+z+1,t4,l4,some (.int (0+(i:Int)*1)),some (.int ((m:Int)+1)),some (.int (M.bi s)),?_,?_,by rw[ht4,UM,DK,ht],by simp[TJ];lia,by lia,by lia,?_⟩).x
  ·rw[show(((kk+z+1:Nat):Int)-1)=((kk+z:Nat):Int) by lia]
  ·rw[<-M.JW dn kk z _ TJ (by lia),mj]
   rfl
  ·rw[hp]
   cases qh q (n+1-(i+1)) (kk+z+1) l4 with
   |none=>rfl
   |some x=>simp
abbrev NK:List D:=([(0,0),(8,0),(0,8),(8,8)]:List Rd16.Vec).map dH
def oW (q:Nat) (l:List Bool):Option (List (List Int)×List Bool):=if l.length<4 then none else gN q (l.take 4) (l.drop 4)
def RI (BR:Addr):uq:=λds O k rx=>∃(a:Addr) (t l:List Bool) (q:Nat),q<=64/\ds=[.ptr a,.int (q:Nat)]/\O=kf BR a t l/\(oW q l=none->rx)/\
 ∀b r t' p,oW q l=some (b,r)->t'++r=t++l->k (.ptr p) ((p,.lst (b.map dl))::kf BR a t' r)
theorem yc {W:dg} {BR R:Addr} (hC:iS W.K BR) (gC:Gv W "CORNERS" FN) (T:dC W "read_leftover" "read_leftover" pT ["reader","step"]) (c0:fi W R BR "take_bit" 1 (Aj BR xu λb=> .int (M.bi b))) (c1:hW W R "read_block" 3 (L6 BR)):hW W R "read_leftover" 4 (RI BR):=by
 refine l6 (N:=["reader","step","marks","corner","mark"]) T (by walk_at "fs") (λds O k rx h=>?_) λX c top ds O k rx h=>?_
 ·obtain⟨_,_,_,_,_,rfl,_⟩:=h;rfl
 ·obtain⟨a,t,l,q,hq,rfl,rfl,hn,hk⟩:=h
  change lD R rx X [some (.ptr a),some (.int (q:Nat)),none,none,none] _ _ _ _
  refine' Lm ["corner"] [3] (l:=NK) (enc:=id) (λi acc O1=>i<=l.length/\acc=(M.gi (l.take i)).map .int/\O1=kf BR a (t++l.take i) (l.drop i)) c top ?oB ?hk ?Dj ?ha ?hi ?ok ?ho ?hz ?wp ?hlen ?h0 ?gU (λb=>[some (.ptr a),some (.int (q:Nat)),some (.ptr b),none,none]) ?hx ?zh
  case oB=>decide+kernel
  case hk=>decide+kernel
  case Dj=>decide+kernel
  case ha=>decide+kernel
  case hi=>
   refine' pF.cast (oJ (ds:=NK) ?e) (List.map_id _).symm
   case e=>walk_at "e"
  case ok=>decide+kernel
  case ho=>decide+kernel
  case hz=>rw[af];decide
  case wp=>walk_at "wp"
  case hlen=>rintro i acc O1 ⟨h1,rfl,_⟩;rw[ah,M.bH,aA];lia
  case h0=>exact⟨eS _,rfl,by rw[List.take_zero,br];rfl⟩
  case hx=>intro q;walk_at "put"
  case gU=>
   rintro i cn acc O1 hcn ⟨h1,rfl,rfl⟩
   have hi4:i<4:=by
    by_cases h:i<NK.length
    ·exact h
    ·rw[bu (by lia)]at hcn;cases hcn
   refine⟨_,λY cY=>⟨by walk_at "tg1",?_⟩⟩
   refine' i3 (Oa:=kf BR a (t++l.take i) (l.drop i)) (Ob:=[]) cY hC c0 (by decide) ?hs ae (by decide+kernel) (by simp) ⟨a,t++l.take i,l.drop i,rfl,rfl,?h1,?h2⟩
   case hs=>walk_at "n"
   case h1=>
    intro e
    refine hn ?_
    unfold oW
    rw[if_pos]
    have:l.drop i=[]:=by
     cases hd:l.drop i with
     |nil=>rfl
     |cons b r=>rw[hd]at e;cases e
    have:=congrArg h9 this
    rw[ba]at this
    simp at this
    lia
   case h2=>
    intro b r t' hb ht
    cases hd:l.drop i with
    |nil=>rw[hd]at hb;cases hb
    |cons b' r'=>
     rw[hd,qQ]at hb
     cases hb
     have Vy:i<l.length:=by
      have:=congrArg h9 hd
      rw[ba,aJ]at this
      lia
     have Sz:l[i]=b/\l.drop (i+1)=r:=by
      rw[gm Vy]at hd
      cases hd
      exact⟨rfl,rfl⟩
     have e2:l.take (i+1)=l.take i++[b]:=by rw[gD Vy,Sz.1]
     have e3:t'=t++l.take (i+1):=by
      have:t'++r=(t++l.take (i+1))++r:=by rw[ht,hd,e2];simp
      exact D6 this
     refine⟨Vy,?_,?_⟩
     ·rw[e2,M.kB,aY];rfl
     ·rw[e3,Sz.2,br]
  case zh=>
  rintro qm acc O1 ⟨h4,rfl,rfl⟩
  have h4:4<=l.length:=h4
  have hF:oW q l=gN q (l.take 4) (l.drop 4):=by unfold oW;rw[if_neg (by lia)]
  rw[hF]at hn hk
  change lD R rx X _ ((qm,.lst ((M.gi (l.take 4)).map .int))::kf BR a (t++l.take 4) (l.drop 4)) _ _ _
  refine Uo (ρ':=[some (.ptr a),some (.int (q:Nat)),some (dl (M.gi (l.take 4))),none,none]) (by walk_at "fz") ?_
  refine Qz ?_
  refine' mq.mono (SE ["mark"] [4] (l:=l.take 4) (enc:=λb=> .int (M.bi b)) (λi acc O1=>∃(bs:List (List Int)) (t2 r2:List Bool),acc=bs.map dl/\bs.length=i/\O1=kf BR a t2 r2/\t2++r2=t++l/\gN q (l.take 4) (l.drop 4)=(gN q ((l.take 4).drop i) r2).map λ(x:List (List Int)×List Bool)=>(bs++x.1,x.2)) c top ?hi ?ok ?ho ?hz ?wp ?hlen ?h0 ?gU) ?fin
  case hi=>
   refine' pF.cast (fe (ds:=(M.gi (l.take 4)).map .int) ?ye) ?qq
   case ye=>walk_at "n"
   case qq=>unfold M.gi;rw[aF];rfl
  case ok=>decide+kernel
  case ho=>decide+kernel
  case hz=>rw[af,aA];lia
  case wp=>walk_at "wp"
  case hlen=>rintro i acc O1 ⟨bs,t2,r2,rfl,h,_⟩;rw[ah,h]
  case h0=>
   refine⟨[],_,_,rfl,rfl,rfl,by rw[bM,Gp],?_⟩
   rw[List.drop_zero]
   cases gN q (l.take 4) (l.drop 4)<;>rfl
  case fin=>
   rintro d O' ⟨p,acc,O1,rfl,rfl,bs,t2,r2,rfl,Lu,rfl,ht,hr⟩
   have e:(l.take 4).drop (l.take 4).length=[]:=fJ (aO _)
   rw[e]at hr
   exact hk bs r2 t2 p (by rw[hr];simp[gN]) ht
  case gU=>
  rintro i b acc O1 hb ⟨bs,t2,r2,rfl,Lu,rfl,ht,hr⟩
  have Vy:i<(l.take 4).length:=by
   by_cases h:i<(l.take 4).length
   ·exact h
   ·rw[bu (by lia)]at hb;cases hb
  have Sz:(l.take 4)[i]=b:=by rw[aI Vy]at hb;exact bo hb
  rw[gm Vy,Sz]at hr
  refine⟨_,λY cY=>⟨by walk_at "tg1",?_⟩⟩
  have go:∀blk r3 t3,xw q b r2=some (blk,r3)->t3++r3=t2++r2->∃(bs':List (List Int)) (t2 r2:List Bool),bs.map dl++[dl blk]=bs'.map dl/\bs'.length=i+1/\kf BR a t3 r3=kf BR a t2 r2/\t2++r2=t++l/\gN q (l.take 4) (l.drop 4)=(gN q ((l.take 4).drop (i+1)) r2).map λ(x:List (List Int)×List Bool)=>(bs'++x.1,x.2):=by
   intro blk r3 t3 h1 h2
   refine⟨bs++[blk],t3,r3,by simp,by simp[Lu],rfl,by rw[h2,ht],?_⟩
   rw[hr,M.Eu h1]
   cases gN q ((l.take 4).drop (i+1)) r3 with
   |none=>rfl
   |some x=>simp
  refine' Oo (rA (i:=M.bi b) (j:=1) ?e1 bI) ?ht ?hf
  case e1=>walk_at "n"
  case ht=>
   intro hf
   have:b=true:=by cases b;exact absurd hf (by decide);rfl
   subst this
   refine mq.frz2 ?_
   refine' wa cY c1 (by decide) ?zg (Dc.x (ir.go (aa ?y1 (aa ?y2 az)) ⟨kf BR a t2 r2,[],by simp,a,t2,r2,q,hq,rfl,rfl,?h1,?h2⟩))
   case zg=>decide+kernel
   case y1=>walk_at "n"
   case y2=>walk_at "n"
   case h1=>intro e;exact hn (by rw[hr,M.E1 e];rfl)
   case h2=>
    intro blk r3 t3 p h1 h2
    exact⟨p,blk.map .int,kf BR a t3 r3,rfl,by simp,go blk r3 t3 h1 h2⟩
  case hf=>
   intro hf
   have:b=false:=by cases b;rfl;exact absurd hf (by decide)
   subst this
   refine bq.gox (d:=dl (aq 64 0)) (bq.cast (cD.pev (lL (ds:=[.int 0]) (i:=64) (cD.pev (dP ?es ?z)) ?e3 ?b1 ?b2 ?b3)) ?qv) (go _ r2 t2 (M.My r2) rfl)
   case es=>walk_at "es"
   case z=>show 1<=sizeLine;rw[af];decide
   case e3=>
    walk_at "ec"
    rfl
   case b1=>decide
   case b2=>decide
   case b3=>rw[af];decide
   case qv=>rfl
theorem J1 (q:Nat) (k:Rd16.Kind) (l:List Bool):Rd16.rdLeft q k l=(oW q l).map λ(x:List (List Int)×List Bool)=>(⟨k,x.1⟩,x.2):=by
 unfold Rd16.rdLeft oW
 split<;>rfl
def Lz (n:Nat) (p:Rd16.Vec) (l:List Bool):Option (Rd16.Vec×List Bool):=if n=1 then wd p l else some ((0,0),l)
theorem Q4 {q:Nat} {key:Bool} {i j:Nat} {p:Rd16.Vec} {l:List Bool} (h:lB l=none):iD q key i j p l=none:=by
 unfold iD;rw[h]
theorem Rh {q:Nat} {key:Bool} {i j:Nat} {p:Rd16.Vec} {l l1:List Bool} {n:Nat} (h:lB l=some (n,l1)):iD q key i j p l=if jI key n i j=false then none else match Lz n p l1 with
  |none=>none
  |some (v,l2)=>if n=0 then some (⟨.same,Rd16.NONE⟩,l2)else (oW q l2).map λ(x:List (List Int)×List Bool)=>(⟨kindOf n v,x.1⟩,x.2):=by
 unfold iD
 rw[h]
 simp only[J1]
 match n with
 |0=>cases key<;>simp[jI,Lz]
 |1=>
  cases key with
  |true=>simp[jI]
  |false=>
   simp only[jI,Lz,wd,kindOf]
   cases h1:i9 l1 with
   |none=>simp
   |some x=>
    simp only
    cases h2:i9 x.2 with
    |none=>simp
    |some y=>
     simp only
     by_cases JV:iz (p.1+x.1,p.2+y.1)=true
     ·simp[JV]
     ·simp[JV]
 |2=>simp[jI,Lz,kindOf]
 |3=>
  by_cases hj:j=0
  ·simp[jI,hj]
  ·have:0<j:=by lia
   simp[jI,Lz,kindOf,hj,this]
 |4=>
  by_cases hi:i=0
  ·simp[jI,hi]
  ·have:0<i:=by lia
   simp[jI,Lz,kindOf,hi,this]
 |n+5=>simp[jI]
theorem Ka {n:Nat} {p v:Rd16.Vec} {l r:List Bool} (h:Lz n p l=some (v,r)):(-15<=v.1/\v.1<=15/\-15<=v.2/\v.2<=15)/\dW (kindOf n v)=v:=by
 unfold Lz at h
 by_cases e:n=1
 ·rw[if_pos e]at h
  unfold wd at h
  cases h1:i9 l with
  |none=>rw[h1]at h;cases h
  |some x=>
   rw[h1]at h
   simp only at h
   cases h2:i9 x.2 with
   |none=>rw[h2]at h;cases h
   |some y=>
    rw[h2]at h
    simp only at h
    split at h
    ·rename_i hf
     simp only[dY,ie]at h
     obtain⟨h,_⟩:=h
     simp only[iz,aH,decide_eq_true_eq]at hf
     subst e
     rw[<-h]
     refine⟨by lia,?_⟩
     simp[kindOf,dW]
    ·cases h
 ·rw[if_neg e]at h
  cases h
  refine⟨by decide,?_⟩
  unfold kindOf
  split
  ·rfl
  ·split
   ·rfl
   ·split<;>rfl
theorem Rj {key:Bool} {n i j:Nat} (h:jI key n i j=true):n<=4:=by
 unfold jI at h
 split at h
 ·lia
 ·split at h
  ·lia
  ·split at h
   ·lia
   ·have:=of_decide_eq_true h;lia
def LSq (BR P S:Addr):uq:=λds O kk rx=>∃(a ca:Addr) (t l:List Bool) (q:Nat) (ref:Option Rd16.Pic) (rf cur:Rd16.Pic) (i j:Nat) (p:Rd16.Vec),1<=q/\q<=64/\nJ cur i j/\(∀pc,ref=some pc->pc=rf/\nJ pc i j)/\
 ds=[.ptr a,d0 S q (fR P ref) (jT P ca cur),.int (i:Nat),.int (j:Nat),dH p]/\O=kf BR a t l++gb ca cur/\(iD q ref.isNone i j p l=none->rx)/\
 ∀s r t',iD q ref.isNone i j p l=some (s,r)->t'++r=t++l->kk (dH (dW s.kind)) (kf BR a t' r++gb ca (cur.with_ i j (gK q (bA rf cur i j s.kind) s.levels)))
theorem Bi {W:dg} {BR R P S:Addr} (hC:iS W.K BR) (hR:xb W R) (hP:iS W.K P) (hS:iS W.K S) (n0:aM W.K S "step") (n2:aM W.K S "shown") (g0:Gv W "AS_BEFORE" (.int 0)) (g1:Gv W "MOVED" (.int 1)) (T:dC W "read_square" "read_square" m6 ["reader","sheet","i","j","hint"])
  (c0:fi W R BR "take_number" 2 (Aj BR lB λn=> .int (n:Nat))) (c1:ax W "may_be" 1 (dS (QJ P S))) (c2:hW W R "read_vector" 4 (W2 BR)) (c3:ax W "expected_square" 4 (Bl (Ut P S))) (c4:hW W R "read_leftover" 4 (RI BR)) (c5:ax W "shown_square" 4 (dS GC)) (c6:ax W "lay_square" 3 (GV P)):
  hW W R "read_square" 5 (LSq BR P S):=by
 refine l6 (N:=["reader","sheet","i","j","hint","kind","vector","shown"]) T (by walk_at "fs") (λds O k rx h=>?_) λX c top ds O k rx h=>?_
 ·obtain⟨_,_,_,_,_,_,_,_,_,_,_,_,_,_,_,rfl,_⟩:=h;rfl
 ·obtain⟨a,ca,t,l,q,ref,rf,cur,i,j,p,q1,q2,ip,hrf,rfl,rfl,hn,hk⟩:=h
  change lD R rx X [some (.ptr a),some (d0 S q (fR P ref) (jT P ca cur)),some (.int (i:Nat)),some (.int (j:Nat)),some (dH p),none,none,none] _ _ _ _
  refine' j8 c ?hl ⟨5,rfl⟩ (i3 (Oa:=kf BR a t l) (Ob:=gb ca cur) c hC c0 (by decide) ?hs ae (by decide+kernel) rfl ⟨a,t,l,rfl,rfl,λh=>hn (Q4 h),λn l1 t1 hN RX=>?hk⟩)
  case hl=>decide+kernel
  case hs=>walk_at "n"
  case hk=>
  refine⟨_,by walk_at "put",?_⟩
  have sq:=Rh (q:=q) (key:=ref.isNone) (i:=i) (j:=j) (p:=p) hN
  refine' nh (kO (fV (cI (R:=QJ P S) (d:= .bl (jI ref.isNone n i j)) c c1 (by decide) ?zg ?e1 ⟨q,ref,_,n,i,j,rfl,rfl⟩) (by intro _;rfl))) ?h1 ?h2
  case zg=>decide+kernel
  case e1=>walk_at "es"
  case h1=>
   intro hf
   exact iZ c top hR (by decide+kernel) (hn (by rw[sq,if_pos (by simpa using hf)]))
  case h2=>
  intro hf
  have p7:jI ref.isNone n i j=true:=by simpa using hf
  rw[p7]at sq
  simp only[jJ,if_false]at sq
  refine(aL (Wk.refl _) ?_).x
  refine' j8 c ?hl ⟨6,rfl⟩ (mq.mono (k:=λd O1=>∃v l2 t2,d=dH v/\O1=kf BR a t2 l2++gb ca cur/\t2++l2=t++l/\Lz n p l1=some (v,l2)) ?ev ?nx)
  case hl=>decide+kernel
  case ev=>
   refine' Oo (rA (i:=(n:Nat)) (j:=1) ?e1 ?e2) ?ht ?hf
   case e1=>walk_at "n"
   case e2=>walk_at "e"
   case ht=>
    intro h1
    have h1:n=1:=by have:=of_decide_eq_true h1;lia
    refine' wa c c2 (by decide) ?zg (Dc.x (ir.go (aa ?y1 (aa ?y2 az)) ⟨kf BR a t1 l1,gb ca cur,rfl,a,t1,l1,p,rfl,rfl,λh=>hn ?hh,λv r t' h2 h3=>⟨v,r,t',rfl,rfl,by rw[h3,RX],?hv⟩⟩))
    case zg=>decide+kernel
    case y1=>walk_at "n"
    case y2=>walk_at "n"
    case hh=>rw[sq];unfold Lz;rw[if_pos h1,h]
    case hv=>unfold Lz;rw[if_pos h1,h2]
   case hf=>
    intro h1
    have h1:¬n=1:=by have:=of_decide_eq_false h1;lia
    refine bq.gox (d:=dH (0,0)) ?_ ⟨(0,0),l1,t1,rfl,rfl,RX,by unfold Lz;rw[if_neg h1]⟩
    walk_at "ec"
    rfl
  case nx=>
  rintro d O1 ⟨v,l2,t2,rfl,rfl,DK,hV⟩
  refine⟨_,by walk_at "put",?_⟩
  rw[hV]at sq
  simp only at sq
  obtain⟨vs,hvk⟩:=Ka hV
  have n4:=Rj p7
  generalize he:bA rf cur i j (kindOf n v)=ex
  have Y4:ex.length=256:=by rw[<-he];exact yQ _ _ _ _ _
  have exb:∀x∈ex,x<=255:=by rw[<-he];exact MN _ _ _ _ _
  refine qW ?_
  refine' lW (bK (d:=dl (aD ex)) c ?hl (cD.pev (lS (gb ca cur) (kf BR a t2 l2) c c3 (by decide) ?zg ?za ⟨ca,q,ref,cur,rf,n,i,j,v,ip,hrf,vs,n4,p7,rfl,rfl,by rw[he]⟩)) ?hp (qZ ?zh))
  case hl=>decide+kernel
  case zg=>decide+kernel
  case za=>walk_at "es"
  case hp=>walk_at "put"
  case zh=>
  
  have fin:∀(lv:List (List Int)) (r t':List Bool),iD q ref.isNone i j p l=some (⟨kindOf n v,lv⟩,r)->t'++r=t++l->lD R rx X [some (.ptr a),some (d0 S q (fR P ref) (jT P ca cur)),some (.int (i:Nat)),some (.int (j:Nat)),some (dH p),some (.int (n:Nat)),some (dH v),some (dl (aD (gK q ex lv)))] (gb ca cur++kf BR a t' r) ((fo m6).drop 5) (λ_ O'=>k .non O') k:=by
   intro lv r t' ON ht
   have Ar:=hk _ r t' ON ht
   simp only[hvk,he]at Ar
   have wl:(aD (gK q ex lv)).length=256:=by rw[ib];exact M.B4 q ex lv Y4
   have pl:(M.iT cur).length=cur.wide*cur.high:=by rw[M.jq,ip.ok.len]
   have we:=M.Jq ip.ok i j (by have:=ip.hi;lia) (by have:=ip.hj;lia) (gK q ex lv) (M.Aa q ex lv)
   obtain⟨_,w2,_⟩:=ip.ok.w
   obtain⟨_,h2,_⟩:=ip.ok.h
   refine SV.x ?_
   refine' fE (jU c c6 (by decide) ?zg (ir.go (aa ?y1 (aa ?y2 (aa ?y3 (aa ?y4 az)))) ⟨gb ca cur,kf BR a t' r,rfl,ca,cur.wide,cur.high,i,j,M.iT cur,aD (gK q ex lv),by lia,by lia,pl,ip.hi,ip.hj,wl,rfl,rfl,?zk⟩))
   case zg=>decide+kernel
   case y1=>walk_at "e"
   case y2=>walk_at "n"
   case y3=>walk_at "n"
   case y4=>walk_at "n"
   case zk=>
   rw[we]
   exact aT (EV.sub (bq.go (d:=dH v) (by walk_at "n") ⟨_,gg.1,gg.2,Ar⟩))
  refine' nh (Ac (i:=(n:Nat)) (j:=0) ?e1 ?e2) ?h1 ?h2
  case e1=>walk_at "n"
  case e2=>walk_at "e"
  case h2=>
   intro h0
   have h0:n=0:=by have:=of_decide_eq_true (by simpa using h0:decide ((n:Int)=0)=true);lia
   rw[if_pos h0]at sq
   have ek:kindOf n v= .same:=by unfold kindOf;rw[if_pos h0]
   have esh:gK q ex Rd16.NONE=ex:=M.ug q ex Rd16.NONE Y4 exb (by decide) (by decide) (λb hb z hz=>by unfold Rd16.NONE at hb;rw[gJ hb]at hz;exact gJ hz)
   refine(aL (Wk.refl _) ?_).x
   have:=fin Rd16.NONE l2 t2 (by rw[sq,ek]) DK
   rw[esh]at this
   exact this
  case h1=>
  intro h0
  have h0:¬n=0:=by
   intro e
   subst e
   simp at h0
  rw[if_neg h0]at sq
  refine qW ?_
  refine' j8 c ?hl ⟨7,rfl⟩ (Kf c c5 (by decide) ?zg (r8 (bq.gox (d:= .int (q:Nat)) ?y1 (r8 (bq.gox (d:=dl (aD ex)) ?y2 (r8 ?y3))))))
  case hl=>decide+kernel
  case zg=>decide+kernel
  case y1=>walk_at "e"
  case y2=>walk_at "n"
  case y3=>
  refine mq.frz2 ?_
  refine' wa c c4 (by decide) ?zg (Dc.x (ir.go (aa ?y1 (aa ?y2 az)) ⟨kf BR a t2 l2,gb ca cur,rfl,a,t2,l2,q,q2,rfl,rfl,λh=>hn ?hh,λlv r t' pp h2 h3=>⟨pp,lv.map dl,kf BR a t' r++gb ca cur,rfl,rfl,?hv⟩⟩))
  case zg=>decide+kernel
  case y1=>walk_at "n"
  case y2=>walk_at "e"
  case hh=>rw[sq,h];rfl
  case hv=>
  rw[h2]at sq
  have hbo:lv.length=4/\∀b∈lv,b.length=64/\∀z∈b,z.natAbs*q<=32767:=by
   unfold oW at h2
   split at h2
   ·cases h2
   ·rename_i h4
    have:=M.BN q _ _ _ _ h2
    rw[aA]at this
    exact⟨by lia,this.2⟩
  refine Em ⟨[],_,rfl,rfl,_,⟨q,ex,lv,q1,q2,Y4,exb,hbo.1,hbo.2,rfl,rfl⟩,_,by walk_at "put",?_⟩
  refine(aL (Wk.refl _) ?_).x
  refine qW ?_
  exact fin lv r t' (by rw[sq];rfl) (by rw[h3,DK])
theorem SV.wk {X:Cx} {ρ ρ':dk} {O:Os} {m5:List Stmt} {kn:KR} {kr:KD} (h:SV X ρ' O m5 kn kr) (w:Wk ρ' ρ):SV X ρ O m5 kn kr:= .mk λσ F H E s pn p=>h.run σ F H E (s.wk w) pn p
def mQ (w h q:Nat) (pic:Option Rd16.Pic) (b:df):Option Rd16.Pic:=match qj q w h b with
 |none=>none
 |some (key,l)=>if key=false/\pic=none then none else some (mD q w (pic.getD (aZ w h)) 0 l (aZ w h))
theorem L0 (w h q:Nat) (pic:Option Rd16.Pic) (b:df):pz ⟨w,h,q,pic⟩ b=(mQ w h q pic b).map (i7 q):=by
 unfold pz mQ
 simp only[sY]
 cases qj q w h b with
 |none=>rfl
 |some x=>
  obtain⟨key,l⟩:=x
  simp only
  split<;>rfl
theorem J3 {q w h:Nat} {b:df} (e:gE b=[]):qj q w h b=none:=by unfold qj;rw[e]
theorem Hx {q w h:Nat} {b:df} {key:Bool} {l:List Bool} (e:gE b=key::l):qj q w h b=match dy q key (w/16) (w/16*(h/16)) 0 (0,0) l with
  |none=>none
  |some (s,r)=>if r.length<8/\r.all (λb=>!b)=true then some (key,s)else none:=by
 unfold qj
 rw[e]
 rfl
def RV (BR P:Addr):uq:=λds O k rx=>∃(w h q:Nat) (pic:Option Rd16.Pic) (b:df),pM w h pic/\Dy w h q/\b.length<=65536/\ds=[.int (w:Nat),.int (h:Nat),.int (q:Nat),fR P pic,dl (Rd16.ints b)]/\O=[]/\(mQ w h q pic b=none->rx)/\∀p',mQ w h q pic b=some p'->M.fh p'->p'.wide=w->p'.high=h->k (kx P p') []
theorem Ai {W:dg} {BR R P S:Addr} (B:Bn W) (hC:iS W.K BR) (hR:xb W R) (hS:iS W.K S) (n2:aM W.K S "shown") (gS:Gv W "SIDE" (.int 16)) (T:dC W "read_picture" "read_picture" qY ["wide","high","step","before","row"])
  (mB:jC W "BitReader" BR 2 (IRd BR)) (mS:jC W "Sheet" S 3 (Hb S P)) (c0:fi W R BR "take_bit" 1 (Aj BR xu λb=> .int (M.bi b))) (c1:hW W R "read_square" 5 (LSq BR P S)) (c2:fi W R BR "finish" 1 (WE BR)):hW W R "read_picture" 6 (RV BR P):=by
 refine l6 (N:=["wide","high","step","before","row","reader","by_itself","sheet","j","hint","i"]) T (by walk_at "fs") (λds O k rx h=>?_) λX c top ds O k rx h=>?_
 ·obtain⟨_,_,_,_,_,_,_,_,rfl,_⟩:=h;rfl
 ·obtain⟨w,h,q,pic,b,co,sz,hb,rfl,rfl,hn,hk⟩:=h
  obtain⟨w1,w2,w3⟩:=sz.w
  obtain⟨h1,h2,h3⟩:=sz.h
  obtain⟨q1,q2⟩:=sz.q
  have IM:=vD sz
  change lD R rx X [some (.int (w:Nat)),some (.int (h:Nat)),some (.int (q:Nat)),some (fR P pic),some (dl (Rd16.ints b)),none,none,none,none,none,none] _ _ _ _
  refine lW (ey (lM (x:="reader") c (by decide+kernel) ⟨5,rfl⟩ ?_ rfl))
  refine' v9 c mB (by decide) ?zg (ir.go (ds:=[dl (Rd16.ints b)]) ?za ⟨[],[],rfl,λa=>⟨a,b,by lia,rfl,rfl,rfl,_,by walk_at "put",qZ ?rest⟩⟩)
  case zg=>decide+kernel
  case za=>walk_at "es"
  case rest=>
  rw[br]
  refine' j8 c ?hl ⟨6,rfl⟩ (Rf (j:=1) (i3 (Oa:=kf BR a [] (gE b)) (Ob:=[]) c hC c0 (by decide) ?hs ae (by decide+kernel) (by simp) ⟨a,[],gE b,rfl,rfl,?h1,?h2⟩))
  case hl=>decide+kernel
  case hs=>walk_at "n"
  case h1=>
   intro e
   cases Tn:gE b with
   |nil=>exact hn (by unfold mQ;rw[J3 Tn])
   |cons x r=>rw[Tn]at e;cases e
  case h2=>
  intro key l t0 Pe ht0
  have Tn:gE b=key::l:=by
   cases Tn:gE b with
   |nil=>rw[Tn]at Pe;cases Pe
   |cons x r=>rw[Tn,qQ]at Pe;cases Pe;rfl
  have hh:=Hx (q:=q) (w:=w) (h:=h) Tn
  have zp:mQ w h q pic b=match dy q key (w/16) (w/16*(h/16)) 0 (0,0) l with
   |none=>none
   |some (s,r)=>if r.length<8/\r.all (λb=>!b)=true then (if key=false/\pic=none then none else some (mD q w (pic.getD (aZ w h)) 0 s (aZ w h)))else none:=by
   unfold mQ
   rw[hh]
   cases dy q key (w/16) (w/16*(h/16)) 0 (0,0) l with
   |none=>rfl
   |some x=>
    obtain⟨s,r⟩:=x
    simp only
    by_cases c:r.length<8/\r.all (λb=>!b)=true
    ·rw[if_pos c,if_pos c]
    ·rw[if_neg c,if_neg c]
  refine⟨M.bi key,rfl,bI,_,by walk_at "put",?_⟩
  have ek:decide (M.bi key=1)=key:=by cases key<;>rfl
  rw[br,ek]
  refine' nh (t:=pic.isNone&&!key) (nP.cast ?tt ?qq) ?h1 ?h2
  case tt=>walk_at "t"
  case qq=>rw[jB]
  case h1=>
   intro hf
   simp only[aH,nz]at hf
   refine iZ c top hR (by decide+kernel) (hn ?_)
   have hp:pic=none:=by cases pic with
    |none=>rfl
    |some _=>cases hf.1
   rw[zp]
   cases dy q key (w/16) (w/16*(h/16)) 0 (0,0) l with
   |none=>rfl
   |some x=>simp only[hf.2,hp,and_self,if_true];split<;>rfl
  case h2=>
  intro hf
  refine(aL (Wk.refl _) ?_).x
  have hkp:¬(key=false/\pic=none):=by
   rintro⟨e1,e2⟩
   subst e1;subst e2
   cases hf
  simp only[if_neg hkp]at zp
  generalize hrf:(if key=true then none else pic)=ref
  have Ki:ref.isNone=key:=by
   rw[<-hrf]
   cases key with
   |true=>rfl
   |false=>cases pic with
    |none=>exact absurd ⟨rfl,rfl⟩ hkp
    |some _=>rfl
  have hrs:∀p,ref=some p->p=pic.getD (aZ w h)/\M.fh p/\p.wide=w/\p.high=h:=λp hp=>by
   rw[<-hrf]at hp
   split at hp
   ·cases hp
   ·subst hp;exact⟨rfl,co p rfl⟩
  refine lW (ey (lM (x:="sheet") c (by decide+kernel) ⟨7,rfl⟩ ?_ rfl))
  refine EV.frzI2 (EV.sub ?_)
  refine' v9 c mS (by decide) ?zg (ir.go (ds:=[.int (w:Nat),.int (h:Nat),.int (q:Nat),fR P ref]) ?za ⟨[],kf BR a t0 l,rfl,λsq=>⟨sq,w,h,q,fR P ref,w2,h2,rfl,rfl,λca=>⟨rfl,_,(gg (O:=kf BR a t0 l)).1,(gg (O:=kf BR a t0 l)).2,sq,S,_,_,_,rfl,rfl,_,by walk_at "put",qZ ?rest⟩⟩⟩)
  case zg=>decide+kernel
  case za=>
   refine' aa ?y1 (aa ?y2 (aa ?y3 (aa (bq.cast (wF (fV ?y4 (by intro _;rfl)) (λ_=>se) (λ_=>?y5)) ?qq) az)))
   case y1=>walk_at "n"
   case y2=>walk_at "n"
   case y3=>walk_at "n"
   case y4=>walk_at "n"
   case y5=>walk_at "n"
   case qq=>rw[<-hrf];cases key<;>rfl
  case rest=>
  change lD R rx X [some (.int (w:Nat)),some (.int (h:Nat)),some (.int (q:Nat)),some (fR P pic),some (dl (Rd16.ints b)),some (.ptr a),some (.bl key),some (d0 S q (fR P ref) (l5 P w h (.ptr ca))),none,none,none] ((ca,.lst (aq (w*h) (.int 0)))::kf BR a t0 l) _ _ _
  rw[<-Cj w h]
  refine qW ?_
  generalize RO:d0 S q (fR P ref) (l5 P w h (.ptr ca))=sd
  generalize ac5:pic.getD (aZ w h)=rf at hrs zp
  generalize hA:w/16=A at zp
  generalize hNs:A*(h/16)=Ns at zp
  have Zk:0<A:=by lia
  
  let St:Nat->Rd16.Vec->Os->Prop:=λkk p O1=>∃(pre:List zo) (l1 t1:List Bool) (cur:Rd16.Pic),O1=kf BR a t1 l1++gb ca cur/\t1++l1=t0++l/\pre.length=kk/\cur=mD q w rf 0 pre (aZ w h)/\M.fh cur/\cur.wide=w/\cur.high=h/\
   dy q key A Ns 0 (0,0) l=(dy q key A (Ns-kk) kk p l1).map λ(x:List zo×List Bool)=>(pre++x.1,x.2)
  have s0:St 0 (0,0) (kf BR a t0 l++gb ca (aZ w h)):=⟨[],l,t0,_,rfl,rfl,rfl,rfl,IM,rfl,rfl,by rw[Nat.sub_zero];cases dy q key A Ns 0 (0,0) l<;>rfl⟩
  have hB:∀j i,i<A->(A*j+i)%A=i/\(A*j+i)/A=j:=λj i hi=>⟨by rw[A3,zf hi],by rw[A0 Zk,pX hi,xW]⟩
  refine' yG c (pF.px (ds:=(ia 0 1 ((h:Int)/16).toNat).map .int) ?hi ⟨λj ρ1 O1=>∃dj dh di,ρ1=[some (.int (w:Nat)),some (.int (h:Nat)),some (.int (q:Nat)),some (fR P pic),some (dl (Rd16.ints b)),some (.ptr a),some (.bl key),some sd,dj,dh,di]/\∃p,St (A*j) p O1,⟨none,none,none,rfl,(0,0),by rw[Gi];exact s0⟩,?step,?done⟩)
  case hi=>
   refine' iO (j:=(h:Int)/16) c ?zg B.range ?ye (by lia) (by lia)
   case zg=>decide+kernel
   case ye=>walk_at "e"
  case done=>
   rintro ρ1 O1 ⟨dj,dh,di,rfl,p,pre,l1,t1,cur,rfl,ht,hpl,Er,QC,Vn,wu,ON⟩
   rw[ah,ez,show((h:Int)/16).toNat=h/16 by lia,hNs,qB]at ON
   have Zg:dy q key A Ns 0 (0,0) l=some (pre,l1):=by rw[ON];simp[dy]
   rw[Zg]at zp
   simp only at zp
   refine' N3 (i3 (Oa:=kf BR a t1 l1) (Ob:=gb ca cur) c hC c2 (by decide) ?hs ae (by decide+kernel) rfl ⟨a,t1,l1,rfl,rfl,λhx=>hn (by rw[zp,if_neg hx]),λhx=>?hk⟩)
   case hs=>walk_at "n"
   case hk=>
   rw[if_pos hx]at zp
   have Ar:=hk _ zp (by rw[<-Er];exact QC) (by rw[<-Er];exact Vn) (by rw[<-Er];exact wu)
   rw[<-Er]at Ar
   refine SV.x ?_
   refine SV.own (O':=gb ca cur) ?_ (λz hz=>bB _ hz) rP
   subst RO
   refine SV.wk (ρ':=[some (.int (w:Nat)),some (.int (h:Nat)),some (.int (q:Nat)),some (fR P pic),some (dl (Rd16.ints b)),some (.ptr a),some (.bl key),some (d0 S q (fR P ref) (l5 P w h (.ptr ca))),none,none,none]) ?_ (by walk_at "wk")
   refine Oi (ρ':=[some (.int (w:Nat)),some (.int (h:Nat)),some (.int (q:Nat)),some (fR P pic),some (dl (Rd16.ints b)),some (.ptr a),some (.bl key),some (d0 S q (fR P ref) (l5 P w h (dl (M.iT cur)))),none,none,none]) ?_ ?_
   ·exact .cons .same (.cons .same (.cons .same (.cons .same (.cons .same (.cons .same (.cons .same (.cons (.ins3 (.ins3 .here)) (.non (.non (.non .nil))))))))))
   ·refine aT (bq.go (d:=kx P cur) ?_ Ar)
    walk_at "ec"
    show l5 P w h (dl (M.iT cur))=l5 P cur.wide cur.high (dl (M.iT cur))
    rw[Vn,wu]
  case step=>
  rintro j d ρ1 O1 hd ⟨dj,dh,di,rfl,p0,Yg⟩
  obtain⟨hj,rfl⟩:=gf hd
  refine⟨_,by walk_at "tg1",?_⟩
  have ej:D.int (0+(j:Int)*1)=D.int (j:Int):=congrArg D.int (by lia)
  rw[ej]
  refine' lW (bK (d:=dH (0,0)) c ?hl ?he ?hp (qZ ?zh))
  case hl=>decide+kernel
  case he=>
   walk_at "ec"
   rfl
  case hp=>walk_at "put"
  case zh=>
  refine' yG c (pF.px (ds:=(ia 0 1 ((w:Int)/16).toNat).map .int) ?hi ⟨λi ρ1 O1=>∃di p,ρ1=[some (.int (w:Nat)),some (.int (h:Nat)),some (.int (q:Nat)),some (fR P pic),some (dl (Rd16.ints b)),some (.ptr a),some (.bl key),some sd,some (.int (j:Int)),some (dH (if i=0 then (0,0)else p)),di]/\St (A*j+i) p O1,⟨di,p0,rfl,Yg⟩,?step,?done⟩)
  case hi=>
   refine' iO (j:=(w:Int)/16) c ?zg B.range ?ye (by lia) (by lia)
   case zg=>decide+kernel
   case ye=>walk_at "e"
  case done=>
   rintro ρ1 O1 ⟨di,p,rfl,D7⟩
   rw[ah,ez,show((w:Int)/16).toNat=A by lia]at D7⊢
   exact(aL (Wk.refl _) ⟨_,_,_,rfl,p,by rw[eJ];exact D7⟩).x
  case step=>
  rintro i d ρ1 O1 hd ⟨di,p,rfl,pre,l1,t1,cur,rfl,ht,hpl,Er,QC,Vn,wu,ON⟩
  obtain⟨hi,rfl⟩:=gf hd
  have Ly:i<A:=by lia
  have XJ:j<h/16:=by lia
  obtain⟨m1,m2⟩:=hB j i Ly
  have hNk:Ns-(A*j+i)=(Ns-(A*j+i+1))+1:=by
   have:A*j+A<=A*(h/16):=by rw[<-eJ];exact b6 _ (by lia)
   lia
  rw[hNk]at ON
  refine⟨_,by walk_at "tg1",?_⟩
  have ei:D.int (0+(i:Int)*1)=D.int (i:Int):=congrArg D.int (by lia)
  rw[ei]
  generalize Wx:(if i=0 then ((0:Int),(0:Int))else p)=hv
  have Vc:sd=d0 S q (fR P ref) (jT P ca cur):=by rw[<-RO,jT,Vn,wu]
  have YV:nJ cur i j:=⟨QC,by rw[Vn];lia,by rw[wu];lia⟩
  have sqn:iD q key i j hv l1=none->rx:=λh=>hn (by
   have:dy q key A (Ns-(A*j+i+1)+1) (A*j+i) p l1=none:=M.CV (by rw[m1,m2,Wx];exact h)
   rw[zp,ON,this];rfl)
  refine' j8 c ?hl ⟨9,rfl⟩ (wa c c1 (by decide) ?zg (Dc.x (ir.go (ds:=[.ptr a,d0 S q (fR P ref) (jT P ca cur),.int (i:Nat),.int (j:Nat),dH hv]) (aa ?y1 (aa ?y2 (aa ?y3 (aa ?y4 (aa ?y5 az))))) ⟨kf BR a t1 l1++gb ca cur,[],by simp,a,ca,t1,l1,q,ref,rf,cur,i,j,hv,q1,q2,YV,(λpc hp=>⟨(hrs pc hp).1,(hrs pc hp).2.1,by rw[(hrs pc hp).2.2.1];lia,by rw[(hrs pc hp).2.2.2];lia⟩),rfl,rfl,by rw[Ki];exact sqn,?h2⟩)))
  case hl=>decide+kernel
  case zg=>decide+kernel
  case y1=>walk_at "n"
  case y2=>
   rw[<-Vc]
   walk_at "n"
  case y3=>walk_at "n"
  case y4=>walk_at "n"
  case y5=>walk_at "n"
  case h2=>
  intro s r t' hs Z2
  rw[Ki]at hs
  refine⟨_,by walk_at "put",?_⟩
  rw[br]
  have e1:dy q key A (Ns-(A*j+i+1)+1) (A*j+i) p l1=(dy q key A (Ns-(A*j+i+1)) (A*j+i+1) (dW s.kind) r).map λ(x:List zo×List Bool)=>(s::x.1,x.2):=M.Dg (by rw[m1,m2,Wx];exact hs)
  have e2:cur.with_ i j (gK q (bA rf cur i j s.kind) s.levels)=mD q w rf 0 (pre++[s]) (aZ w h):=by
   rw[M.B1,<-Er,ku,hpl]
   show _=cur.with_ ((A*j+i)%(w/16)) ((A*j+i)/(w/16)) (gK q (bA rf cur ((A*j+i)%(w/16)) ((A*j+i)/(w/16)) s.kind) s.levels)
   rw[hA,m1,m2]
  refine(aL (Wk.refl _) ⟨some (.int (i:Int)),dW s.kind,by rw[if_neg (OY i)],pre++[s],r,t',_,rfl,by rw[Z2,ht],by simp[hpl,lA],e2,M.DU QC _ _ _,Vn,wu,?_⟩).x
  rw[ON,e1,<-lA]
  cases dy q key A (Ns-(A*j+i+1)) (A*j+i+1) (dW s.kind) r with
  |none=>rfl
  |some x=>simp
theorem FD {W:dg} {C:Addr} {x qual:Str} {st:Stmt} {ps N:List Str} {m:Nat} {Ct:tw} (T:jH W C x qual st ps) (S:jS N ps (bQ st)) (len:∀ds O k,Ct ds O k->ds.length=ps.length)
  (body:∀X,eZ W X N (bQ st) m true->uR X->∀ds O k,Ct ds O k->SV X (pO N ds) O (fo st) (λ_ O'=>k .non O') k):dM W C x (m+1) Ct:=by
 obtain⟨f,fd,F,hM,hb⟩:=T.ex
 refine⟨f,fd,ps,F.ok S (λvs H Q E h=>?_) (λmw A outer s H vs Q E hr h=>?_),hM,hb⟩
 ·obtain⟨F,ds,O,k,_,r,_,hC,_⟩:=h
  rw[<-r.length];exact len ds O k hC
 ·obtain⟨F0,ds,O,k,su,r,ow,hC,p⟩:=h
  refine⟨_,jR,?_⟩
  have c:eZ W (oF K5 W.P W.w W.K W.mg W.base N qual (bQ st) f mw A outer s H E).nox N (bQ st) m true:=
   ⟨rfl,rfl,rfl,rfl,rfl,rfl,S.nd,rfl,rfl,hr,λ_=>⟨λ_=>rfl,wB⟩⟩
  refine body _ c ⟨rfl,rfl⟩ ds O k hC (L2.jm N vs) F0 H _ ⟨su,λi d h=>sj r h,ow,?_⟩ (λσ' ρ' O' F' H' g s' q=>p .non .non O' F' H' g s'.sub s'.own rfl q) p
  unfold L2.jm pO
  rw[aj,aj,ah,ah,aP,aP,r.length]
theorem Ug {W:dg} {CC P BR R:Addr} (hC:iS W.K CC) (n1:aM W.K CC "wide") (n2:aM W.K CC "high") (n3:aM W.K CC "step") (n4:aM W.K CC "before") (hR:xb W R) (T:jH W CC "read" "Codec.read" ve ["self","row"]) (c1:hW W R "read_picture" 6 (RV BR P)) (c2:ax W "smoothed" 4 (dS (yS P))):dM W CC "read" 9 (Iu CC P):=by
 refine FD (m:=8) (N:=["self","row","shown"]) T (by walk_at "fs") (λds O k h=>?_) λX c top ds O k h=>?_
 ·obtain⟨_,_,_,_,_,_,_,_,_,rfl,_⟩:=h;rfl
 ·obtain⟨a,w,h,q,pic,b,co,sz,hb,rfl,rfl,hk⟩:=h
  obtain⟨q1,q2⟩:=sz.q
  rw[L0]at hk
  change SV X [some (.ptr a),some (dl (Rd16.ints b)),none] _ _ _ _
  refine Uj (Oa:=[]) (Ob:=eu CC P a w h q pic) (ds:=[.int (w:Nat),.int (h:Nat),.int (q:Nat),fR P pic,dl (Rd16.ints b)]) (rx:=mQ w h q pic b=none) c top hR c1 (by decide) (by decide+kernel) (by decide+kernel) (by decide+kernel) ⟨2,rfl⟩ rfl (λY cY=>?_) ⟨w,h,q,pic,b,co,sz,hb,rfl,rfl,id,λp' hp ok' Vr hh'=>⟨_,by walk_at "put",?_⟩⟩ λUJ Y=>?_
  ·refine' aa (cV cY hC n1 ?y1 .here) (aa (cV cY hC n2 ?y2 (.there .here)) (aa (cV cY hC n3 ?y3 (.there (.there .here))) (aa (cV cY hC n4 ?y4 (.there (.there (.there .here)))) (aa ?y5 az))))
   case y1=>walk_at "n"
   case y2=>walk_at "n"
   case y3=>walk_at "n"
   case y4=>walk_at "n"
   case y5=>walk_at "n"
  ·rw[hp]at hk
   simp only[jt]at hk
   change SV X [some (.ptr a),some (dl (Rd16.ints b)),some (kx P p')] (eu CC P a w h q pic) _ _ _
   refine' gx (q:=a) (d:=kx P (i7 q p')) c hC n4 (cI c c2 (by decide) ?zg (aa ?y1 (aa (cV c hC n3 ?y2 (.there (.there .here))) az)) ⟨q,p',q1,q2,ok',rfl,rfl⟩) ?y3 .here (.there (by decide) (.there (by decide) (.there (by decide) .here))) (by decide) ?zh
   case zg=>decide+kernel
   case y1=>walk_at "n"
   case y2=>walk_at "n"
   case y3=>walk_at "n"
   case zh=>exact aT (EV.own_k Hq hk)
  ·rw[UJ]at hk
   exact aT (EV.own_k pH hk)
def IW (s:Option fW) (w h q:Nat) (pic:Option Rd16.Pic):Prop:=(s=none/\w=0/\h=0/\q=0/\pic=none)\/(s=some ⟨w,h,q,pic⟩/\Dy w h q/\pM w h pic)
theorem Cb {n:Int} (h:bp n=true):16<=n.toNat/\n.toNat<=256/\n.toNat%16=0:=by
 simp only[bp,aH,decide_eq_true_eq]at h
 lia
theorem KP {n:Int} (h:bD n=true):1<=n.toNat/\n.toNat<=64:=by
 simp only[bD,aH,decide_eq_true_eq]at h
 lia
theorem ma {r:List Int} (h:pZ r=true):Rd16.ints (cC r)=r:=by
 unfold Rd16.ints cC
 rw[aF]
 conv=>rhs;rw[<-List.map_id r]
 refine aW λz hz=>?_
 unfold pZ at h
 have hz:=o9.mp h z hz
 simp only[Rd16Neutral.natural,aH,decide_eq_true_eq]at hz
 simp only[bP,id]
 rw[JG]
 lia
theorem nM (r:List Int):(cC r).length=r.length:=by simp[cC]
theorem Nq (b:df):aD (b.map λc=>c.toNat)=Rd16.ints b:=by
 unfold aD Rd16.ints
 rw[aF]
 rfl
theorem Fc {q w:Nat} {ref:Rd16.Pic}:∀(l:List zo) (k:Nat) (cur:Rd16.Pic),M.fh cur->M.fh (mD q w ref k l cur)/\(mD q w ref k l cur).wide=cur.wide/\(mD q w ref k l cur).high=cur.high
 |[],k,cur,h=>⟨h,rfl,rfl⟩
 |s::l,k,cur,h=>Fc l (k+1) _ (M.DU h _ _ _)
theorem Qy {w h q:Nat} {pic:Option Rd16.Pic} {b:df} {p:Rd16.Pic} (sz:Dy w h q) (e:pz ⟨w,h,q,pic⟩ b=some p):pM w h (some p):=by
 intro p' hp
 cases hp
 unfold pz at e
 split at e
 ·cases e
 ·split at e
  ·cases e
  ·injection e with e
   rename_i l _ _
   obtain⟨h1,h2,h3⟩:=Fc (q:=q) (w:=w) (ref:=sY ⟨w,h,q,pic⟩) l 0 (aZ w h) (vD sz)
   rw[<-e]
   exact⟨M.xf h1 q,h2,h3⟩
theorem Qn {w h q:Nat} {pic:Option Rd16.Pic} {b:df} {key:Bool} (sz:Dy w h q):pM w h (some (pv ⟨w,h,q,pic⟩ b key).2):=by
 intro p' hp
 injection hp with hp
 have t:=DM sz.q.1 key (sY ⟨w,h,q,pic⟩) ⟨w,h,b⟩ (aZ w h) (vD sz) rfl rfl (0+FZ w h)
 have ts:=uP q key (sY ⟨w,h,q,pic⟩) ⟨w,h,b⟩ (aZ w h) (FZ w h) 0
 have e2:=ts.2
 have e:i7 q (gL q key (sY ⟨w,h,q,pic⟩) ⟨w,h,b⟩ (FZ w h) 0 (0,0) (aZ w h)).2=p':=hp
 have o:=t.ok
 have ow:=t.w
 have oh:=t.h
 rw[<-e2]at o ow oh
 rw[<-e]
 exact⟨M.xf o q,ow,oh⟩
section
variable {CC P a:Addr} {s:Option fW} {w h q:Nat} {pic:Option Rd16.Pic} {kk:KD}
theorem Mn (hr:IW s w h q pic) {x y z:Int} (hk:∀pp w' h' q' jc,IW (bw s (.init x y z)).1 w' h' q' jc->kk (.ptr pp) ((pp,.lst (((bw s (.init x y z)).2.value::(bw s (.init x y z)).2.numbers).map .int))::eu CC P a w' h' q' jc)):
  DJ CC P [.ptr a,.int x,.int y,.int z] (eu CC P a w h q pic) kk:=by
 refine⟨a,x,y,z,w,h,q,pic,rfl,rfl,?_⟩
 by_cases c:bp x=true/\bp y=true/\bD z=true
 ·rw[if_pos (by simp[c])]
  intro p
  have e:bw s (.init x y z)=(some ⟨x.toNat,y.toNat,z.toNat,none⟩,⟨0,[]⟩):=by cases s<;>simp only[bw,if_pos c]
  rw[e]at hk
  exact hk p _ _ _ _ (.inr ⟨rfl,⟨Cb c.1,Cb c.2.1,KP c.2.2⟩,λp hp=>by cases hp⟩)
 ·rw[if_neg (by simpa using c)]
  intro p
  have e:bw s (.init x y z)=(s,xy):=by cases s<;>simp only[bw,if_neg c]
  rw[e]at hk
  exact hk p _ _ _ _ hr
variable (sz:Dy w h q) (co:pM w h pic)
include sz co
theorem P8 {x y:Int} {b:df} (hb:b.length<=65536) (hk:∀pp w' h' q' jc,IW (bw (some ⟨w,h,q,pic⟩) (.code b x y)).1 w' h' q' jc->kk (.ptr pp) ((pp,.lst (((bw (some ⟨w,h,q,pic⟩) (.code b x y)).2.value::(bw (some ⟨w,h,q,pic⟩) (.code b x y)).2.numbers).map .int))::eu CC P a w' h' q' jc)):
  IB CC P [.ptr a,.int x,.int y,dl (Rd16.ints b)] (eu CC P a w h q pic) kk:=by
 refine⟨a,w,h,q,pic,x,y,b,co,sz,hb,rfl,rfl,?_⟩
 simp only[bw]at hk
 have hc:An w h pic b x y=true↔(b.length≠w*h\/y<1\/((Rd16.MOST:Nat):Int)<y\/(x=0/\pic=none)):=by
  unfold An Rd16.MOST
  simp only[eP,decide_eq_true_eq,aH,Option.isNone_iff_eq_none]
  exact Iff.rfl
 by_cases c:An w h pic b x y=true
 ·rw[if_pos c]
  rw[if_pos (hc.mp c)]at hk
  intro p
  exact hk p _ _ _ _ (.inr ⟨rfl,sz,co⟩)
 ·rw[if_neg c]
  rw[if_neg (λz=>c (hc.mpr z))]at hk
  by_cases d:y<(((pv ⟨w,h,q,pic⟩ b (x !=0)).1.length:Nat):Int)
  ·rw[if_pos d]
   rw[if_pos d]at hk
   intro p
   exact hk p _ _ _ _ (.inr ⟨rfl,sz,co⟩)
  ·rw[if_neg d]
   rw[if_neg d]at hk
   intro p
   exact hk p _ _ _ _ (.inr ⟨rfl,sz,Qn sz⟩)
theorem Qc {b:df} (hb:b.length<=65536) (hk:∀pp w' h' q' jc,IW (bw (some ⟨w,h,q,pic⟩) (.read b (b.length:Nat))).1 w' h' q' jc->kk (.ptr pp) ((pp,.lst (((bw (some ⟨w,h,q,pic⟩) (.read b (b.length:Nat))).2.value::(bw (some ⟨w,h,q,pic⟩) (.read b (b.length:Nat))).2.numbers).map .int))::eu CC P a w' h' q' jc)):
  Iu CC P [.ptr a,dl (Rd16.ints b)] (eu CC P a w h q pic) kk:=by
 refine⟨a,w,h,q,pic,b,co,sz,hb,rfl,rfl,?_⟩
 simp only[bw]at hk
 have e0:b.length=0->pz ⟨w,h,q,pic⟩ b=none:=λh=>by
  rw[jP.mp h]
  rfl
 cases Vq:pz ⟨w,h,q,pic⟩ b with
 |none=>
  rw[Vq]at hk
  intro p
  have hk:=hk p w h q pic
  split at hk
  ·exact hk (.inr ⟨rfl,sz,co⟩)
  ·exact hk (.inr ⟨rfl,sz,co⟩)
 |some p'=>
  rw[Vq]at hk
  rw[if_neg (by
   unfold Rd16.MOST
   have:b.length≠0:=λh=>by rw[e0 h]at Vq;cases Vq
   lia)]at hk
  intro p
  exact hk p _ _ _ _ (.inr ⟨rfl,sz,Qy sz Vq⟩)
theorem HH {x:Int} (hk:∀pp w' h' q' jc,IW (bw (some ⟨w,h,q,pic⟩) (.picture x)).1 w' h' q' jc->kk (.ptr pp) ((pp,.lst (((bw (some ⟨w,h,q,pic⟩) (.picture x)).2.value::(bw (some ⟨w,h,q,pic⟩) (.picture x)).2.numbers).map .int))::eu CC P a w' h' q' jc)):
  vK CC P [.ptr a,.int x] (eu CC P a w h q pic) kk:=by
 refine⟨a,w,h,q,pic,x,co,sz.w.2.1,sz.h.2.1,rfl,rfl,λp=>?_⟩
 have hk:=hk p w h q pic
 simp only[bw]at hk
 cases pic with
 |none=>exact hk (.inr ⟨rfl,sz,co⟩)
 |some pc=>
  simp only at hk
  by_cases c:x=((w*h:Nat):Int)
  ·rw[if_pos c]at hk
   simp only[kS,fT,i8,fM,decide_eq_true c,if_true]
   exact hk (.inr ⟨rfl,sz,co⟩)
  ·rw[if_neg c]at hk
   simp only[kS,fT,i8,fM,decide_eq_false c,cq,if_false]
   exact hk (.inr ⟨rfl,sz,co⟩)
theorem Qw {b:df} (hk:∀pp w' h' q' jc,IW (bw (some ⟨w,h,q,pic⟩) (.show_ b)).1 w' h' q' jc->kk (.ptr pp) ((pp,.lst (((bw (some ⟨w,h,q,pic⟩) (.show_ b)).2.value::(bw (some ⟨w,h,q,pic⟩) (.show_ b)).2.numbers).map .int))::eu CC P a w' h' q' jc)):
  IU CC P [.ptr a,dl (Rd16.ints b)] (eu CC P a w h q pic) kk:=by
 refine⟨a,w,h,q,pic,b,co,sz.w.2.1,sz.h.2.1,rfl,rfl,λp=>?_⟩
 have hk:=hk p w h q pic
 simp only[bw]at hk
 cases pic with
 |none=>exact hk (.inr ⟨rfl,sz,co⟩)
 |some pc=>
  simp only at hk
  by_cases c:b.length=w*h
  ·rw[if_neg (by simpa using c)]at hk
   simp only[kS,fT,i8,fM,decide_eq_true c,if_true]
   exact hk (.inr ⟨rfl,sz,co⟩)
  ·rw[if_pos c]at hk
   simp only[kS,fT,i8,fM,decide_eq_false c,cq,if_false]
   exact hk (.inr ⟨rfl,sz,co⟩)
theorem Lc {i j x y:Int} {b:df} (hb:b.length=256) (hk:∀pp w' h' q' jc,IW (bw (some ⟨w,h,q,pic⟩) (.search i j b x y)).1 w' h' q' jc->kk (.ptr pp) ((pp,.lst (((bw (some ⟨w,h,q,pic⟩) (.search i j b x y)).2.value::(bw (some ⟨w,h,q,pic⟩) (.search i j b x y)).2.numbers).map .int))::eu CC P a w' h' q' jc)):
  yN CC P [.ptr a,.int i,.int j,.int x,.int y,dl (Rd16.ints b)] (eu CC P a w h q pic) kk:=by
 refine⟨a,w,h,q,pic,i,j,x,y,b.map λc=>c.toNat,co,sz.w.2.1,sz.h.2.1,by rw[ah,hb],by rw[Nq],rfl,λp=>?_⟩
 have hk:=hk p w h q pic
 simp only[bw]at hk
 cases pic with
 |none=>exact hk (.inr ⟨rfl,sz,co⟩)
 |some pc=>
  simp only at hk
  have ct:ij ⟨w,h,0,some pc⟩ i j=ij ⟨w,h,q,some pc⟩ i j:=rfl
  by_cases c:ij ⟨w,h,q,some pc⟩ i j=true/\iz (x,y)=true
  ·rw[if_pos c]at hk
   rw[if_pos (by unfold sO;rw[ct,c.1,c.2];rfl)]
   exact hk (.inr ⟨rfl,sz,co⟩)
  ·rw[if_neg c]at hk
   rw[if_neg (by unfold sO;rw[ct];intro z;simp only[fT,i8,fM,aH]at z;exact c ⟨z.2,z.1⟩)]
   exact hk (.inr ⟨rfl,sz,co⟩)
theorem N8 {i j x y:Int} (hk:∀pp w' h' q' jc,IW (bw (some ⟨w,h,q,pic⟩) (.moved i j x y)).1 w' h' q' jc->kk (.ptr pp) ((pp,.lst (((bw (some ⟨w,h,q,pic⟩) (.moved i j x y)).2.value::(bw (some ⟨w,h,q,pic⟩) (.moved i j x y)).2.numbers).map .int))::eu CC P a w' h' q' jc)):
  DD CC P [.ptr a,.int i,.int j,.int x,.int y] (eu CC P a w h q pic) kk:=by
 refine⟨a,w,h,q,pic,i,j,x,y,co,sz.w.2.1,sz.h.2.1,rfl,rfl,λp=>?_⟩
 have hk:=hk p w h q pic
 simp only[bw]at hk
 cases pic with
 |none=>exact hk (.inr ⟨rfl,sz,co⟩)
 |some pc=>
  simp only at hk
  have ct:ij ⟨w,h,0,some pc⟩ i j=ij ⟨w,h,q,some pc⟩ i j:=rfl
  by_cases c:ij ⟨w,h,q,some pc⟩ i j=true/\iz (x,y)=true
  ·rw[if_pos c]at hk
   unfold kS
   rw[if_pos (by unfold sO;rw[ct,c.1,c.2];rfl)]
   exact hk (.inr ⟨rfl,sz,co⟩)
  ·rw[if_neg c]at hk
   unfold kS
   rw[if_neg (by unfold sO;rw[ct];intro z;simp only[fT,i8,fM,aH]at z;exact c ⟨z.2,z.1⟩)]
   exact hk (.inr ⟨rfl,sz,co⟩)
theorem MU (hk:∀pp w' h' q' jc,IW (bw (some ⟨w,h,q,pic⟩) .about).1 w' h' q' jc->kk (.ptr pp) ((pp,.lst (((bw (some ⟨w,h,q,pic⟩) .about).2.value::(bw (some ⟨w,h,q,pic⟩) .about).2.numbers).map .int))::eu CC P a w' h' q' jc)):
  Df CC P [.ptr a] (eu CC P a w h q pic) kk:=
 ⟨a,w,h,q,pic,rfl,rfl,λp=>hk p w h q pic (.inr ⟨rfl,sz,co⟩)⟩
end
theorem Qb {a:List Int} (h:jL a=true):a.length=64/\∀z∈a,M.rH z:=by
 simp only[jL,aH,decide_eq_true_eq,o9]at h
 refine⟨h.1,λz hz=>?_⟩
 have:=h.2 z hz
 simp only[Rd16Neutral.ranged,aH,decide_eq_true_eq]at this
 unfold M.rH
 lia
theorem iB {s:Option fW} {c:List (List Int)} {x:Rd16.Call} (h:Rd16Neutral.callOf c=some x):b7 s c=((bw s x).1,(bw s x).2.value::(bw s x).2.numbers):=by
 unfold b7
 rw[h]
 simp only[List.map_id']
theorem nB {s:Option fW} {x:Rd16.Call} {a:Rd16.Ans} (h:Rd16.pure_ x=some a):bw s x=(s,a):=by
 cases x<;>first|(cases h;done)|(cases s<;>simp only[bw,h])
theorem l0:∀{l:List Int},l.length=0->l=[]
 |[],_=>rfl
theorem l1:∀{l:List Int},l.length=1->∃x,l=[x]
 |[x],_=>⟨x,rfl⟩
theorem l2:∀{l:List Int},l.length=2->∃x y,l=[x,y]
 |[x,y],_=>⟨x,y,rfl⟩
theorem l3:∀{l:List Int},l.length=3->∃x y z,l=[x,y,z]
 |[x,y,z],_=>⟨x,y,z,rfl⟩
theorem l4:∀{l:List Int},l.length=4->∃x y z u,l=[x,y,z,u]
 |[x,y,z,u],_=>⟨x,y,z,u,rfl⟩
structure One (s:Option fW) (p:Int) (wl r:List Int) (c:List (List Int)):Prop where
 hi:∀{CC P a:Addr} {w h q:Nat} {pic:Option Rd16.Pic} {kk:KD},p<8->IW s w h q pic->(∀pp w' h' q' jc,IW (b7 s c).1 w' h' q' jc->kk (.ptr pp) ((pp,.lst ((b7 s c).2.map .int))::eu CC P a w' h' q' jc))->Bs CC P a (eu CC P a w h q pic) kk [.ptr a,.int p,dl wl,dl r]
 lo:8<=p->(b7 s c).1=s/\RT [.int p,dl wl,dl r] ((b7 s c).2.map .int)
theorem me {s:Option fW} {w h q:Nat} {pic:Option Rd16.Pic} (h1:IW s w h q pic) (h2:s≠none):s=some ⟨w,h,q,pic⟩/\Dy w h q/\pM w h pic:=by
 rcases h1 with ⟨e,_⟩|h
 ·exact absurd e h2
 ·exact h
set_option maxHeartbeats 400000 in
theorem SJ {s:Option fW} {p:Int} {n k:Nat} {wl r:List Int} (hs:de p=some (n,k)) (hw:wl.length=n) (hr:k=0->r=[]) (hz:r.length<=65536)
  (ha:CP (gn (if k=0 then [p::wl]else [p::wl,r]))=true) (hb:s≠none\/lR (gn (if k=0 then [p::wl]else [p::wl,r]))=false):
  One s p wl r (gn (if k=0 then [p::wl]else [p::wl,r])):=by
 have go:∀{a:Int} {x y:Option (Nat×Nat)} {Q:Prop},(if p=a then x else y)=some (n,k)->(p=a->x=some (n,k)->Q)->(y=some (n,k)->Q)->Q:=λ{a x y Q} h h1 h2=>by
  by_cases e:p=a
  ·rw[if_pos e]at h;exact h1 e h
  ·rw[if_neg e]at h;exact h2 h
 unfold de at hs
 have Au:s≠none\/lR (gn (if k=0 then [p::wl]else [p::wl,r]))=false->lR (gn (if k=0 then [p::wl]else [p::wl,r]))=true->s≠none:=λh h2=>by
  rcases h with h|h
  ·exact h
  ·rw[h]at h2;cases h2
 refine go hs (λe h=>?_) λhs=>?_
 ·cases h;subst e
  obtain⟨x,y,z,rfl⟩:=l3 hw
  refine⟨λ_ p6 hk=>?_,λh=>absurd h (by decide)⟩
  rw[iB (x:= .init x y z) rfl]at hk
  exact .begin (Mn p6 hk)
 refine go hs (λe h=>?_) λhs=>?_
 ·cases h;subst e
  obtain⟨x,y,rfl⟩:=l2 hw
  have hn:=Au hb rfl
  change (_&&(_&&(_&&_)))=true at ha;simp only[aH,decide_eq_true_eq]at ha
  refine⟨λ_ p6 hk=>?_,λh=>absurd h (by decide)⟩
  obtain⟨rfl,sz,co⟩:=me p6 hn
  rw[iB (x:= .code (cC r) x y) rfl]at hk
  refine .code ?_
  rw[<-ma ha.2.2.1]
  exact P8 sz co (by rw[nM];exact hz) hk
 refine go hs (λe h=>?_) λhs=>?_
 ·cases h;subst e
  obtain rfl:=l0 hw
  have hn:=Au hb rfl
  change (Rd16Neutral.whole32 (r.length:Int)&&(pZ r&&Rd16Neutral.long r (r.length:Int) 1 1048576))=true at ha;simp only[aH]at ha
  refine⟨λ_ p6 hk=>?_,λh=>absurd h (by decide)⟩
  obtain⟨rfl,sz,co⟩:=me p6 hn
  rw[iB (x:= .read (cC r) (r.length:Int)) rfl,<-nM r]at hk
  refine .read ?_
  rw[<-ma ha.2.1]
  exact Qc sz co (by rw[nM];exact hz) hk
 refine go hs (λe h=>?_) λhs=>?_
 ·cases h;subst e
  obtain⟨x,rfl⟩:=l1 hw
  have hn:=Au hb rfl
  refine⟨λ_ p6 hk=>?_,λh=>absurd h (by decide)⟩
  obtain⟨rfl,sz,co⟩:=me p6 hn
  rw[iB (x:= .picture x) rfl]at hk
  exact .picture (HH sz co hk)
 refine go hs (λe h=>?_) λhs=>?_
 ·cases h;subst e
  obtain rfl:=l0 hw
  have hn:=Au hb rfl
  change (_&&(_&&_))=true at ha;simp only[aH,decide_eq_true_eq]at ha
  refine⟨λ_ p6 hk=>?_,λh=>absurd h (by decide)⟩
  obtain⟨rfl,sz,co⟩:=me p6 hn
  rw[iB (x:= .show_ (cC r)) rfl]at hk
  refine .show_ ?_
  rw[<-ma ha.1]
  exact Qw sz co hk
 refine go hs (λe h=>?_) λhs=>?_
 ·cases h;subst e
  obtain⟨x,y,z,u,rfl⟩:=l4 hw
  have hn:=Au hb rfl
  change (_&&(_&&(_&&(_&&(_&&_)))))=true at ha;simp only[aH,decide_eq_true_eq]at ha
  refine⟨λ_ p6 hk=>?_,λh=>absurd h (by decide)⟩
  obtain⟨rfl,sz,co⟩:=me p6 hn
  rw[iB (x:= .search x y (cC r) z u) rfl]at hk
  refine .search ?_
  rw[<-ma ha.2.2.2.2.1]
  exact Lc sz co (by rw[nM];exact ha.2.2.2.2.2) hk
 refine go hs (λe h=>?_) λhs=>?_
 ·cases h;subst e
  obtain⟨x,y,z,u,rfl⟩:=l4 hw
  have hn:=Au hb rfl
  refine⟨λ_ p6 hk=>?_,λh=>absurd h (by decide)⟩
  obtain⟨rfl,sz,co⟩:=me p6 hn
  rw[iB (x:= .moved x y z u) rfl]at hk
  exact .moved (N8 sz co hk)
 refine go hs (λe h=>?_) λhs=>?_
 ·cases h;subst e
  obtain rfl:=l0 hw
  have hn:=Au hb rfl
  refine⟨λ_ p6 hk=>?_,λh=>absurd h (by decide)⟩
  obtain⟨rfl,sz,co⟩:=me p6 hn
  rw[iB (x:= .about) rfl]at hk
  exact .about (MU sz co hk)
 refine go hs (λe h=>?_) λhs=>?_
 ·cases h;subst e
  obtain rfl:=l0 hw
  change jL r=true at ha
  obtain⟨h1,h2⟩:=Qb ha
  refine⟨λh=>absurd h (by decide),λ_=>?_⟩
  rw[iB (x:= .forward r) rfl,nB (a:=⟨0,jg r⟩) rfl]
  dsimp only
  exact⟨rfl,.f ⟨r,h1,h2,rfl,rfl⟩⟩
 refine go hs (λe h=>?_) λhs=>?_
 ·cases h;subst e
  obtain rfl:=l0 hw
  change jL r=true at ha
  obtain⟨h1,h2⟩:=Qb ha
  refine⟨λh=>absurd h (by decide),λ_=>?_⟩
  rw[iB (x:= .backward r) rfl,nB (a:=⟨0,eD r⟩) rfl]
  dsimp only
  exact⟨rfl,.b ⟨r,h1,h2,rfl,rfl⟩⟩
 refine go hs (λe h=>?_) λhs=>?_
 ·cases h;subst e
  obtain⟨x,rfl⟩:=l1 hw
  change (_&&_)=true at ha;simp only[aH,decide_eq_true_eq]at ha
  obtain⟨h1,h2⟩:=Qb ha.2
  refine⟨λh=>absurd h (by decide),λ_=>?_⟩
  rw[iB (x:= .levels r x) rfl,nB (a:=if bD x=true then ⟨0,ny x.toNat r⟩else xy) rfl]
  refine⟨rfl,.l ⟨x,r,h1,rfl,?_⟩⟩
  unfold kS
  split<;>rfl
 refine go hs (λe h=>?_) λhs=>?_
 ·cases h;subst e
  obtain⟨x,rfl⟩:=l1 hw
  change (_&&_)=true at ha;simp only[aH,decide_eq_true_eq]at ha
  obtain⟨h1,h2⟩:=Qb ha.2
  refine⟨λh=>absurd h (by decide),λ_=>?_⟩
  rw[iB (x:= .values r x) rfl,nB (a:=if bD x=true/\r.all (λy=>decide (y.natAbs*x.toNat<=32767))=true then ⟨0,i6 x.toNat r⟩else xy) rfl]
  refine⟨rfl,.v ⟨x,r,h1,h2,rfl,?_⟩⟩
  unfold kS w8
  by_cases c:bD x=true/\(r.all λy=>decide (y.natAbs*x.toNat<=32767))=true
  ·rw[if_pos c,if_pos (by rw[c.1,c.2];rfl)]
  ·rw[if_neg c,if_neg (by simpa using c)]
   rfl
 refine go hs (λe h=>?_) λhs=>by cases hs
 ·cases h;subst e
  obtain⟨x,y,z,rfl⟩:=l3 hw
  change (Rd16Neutral.whole32 x&&(Rd16Neutral.whole32 y&&(Rd16Neutral.whole32 z&&Rd16Neutral.points r x y)))=true at ha;simp only[aH,Rd16Neutral.points,decide_eq_true_eq]at ha
  refine⟨λh=>absurd h (by decide),λ_=>?_⟩
  rw[iB (x:= .smooth (cC r) x y z) rfl,nB (a:=if bp x=true/\bp y=true/\bD z=true then ⟨0,Rd16.ints (i7 z.toNat ⟨x.toNat,y.toNat,cC r⟩).points⟩else xy) rfl]
  refine⟨rfl,.s ⟨x,y,z,cC r,λh1 h2=>?_,by rw[ma ha.2.2.2.1],?_⟩⟩
  ·rw[nM,ha.2.2.2.2,if_pos ⟨h1,h2⟩]
  ·unfold kS
   by_cases c:bp x=true/\bp y=true/\bD z=true
   ·rw[if_pos c,if_pos (by rw[c.1,c.2.1,c.2.2];rfl)]
   ·rw[if_neg c,if_neg (by simpa using c)]
    rfl
abbrev yO:List D:=[.tup [.int 3,.int 0],.tup [.int 2,.int 1],.tup [.int 0,.int 1],.tup [.int 1,.int 0],.tup [.int 0,.int 1],.tup [.int 4,.int 1],.tup [.int 4,.int 0],.tup [.int 0,.int 0],.tup [.int 0,.int 1],.tup [.int 0,.int 1],.tup [.int 1,.int 1],.tup [.int 1,.int 1],.tup [.int 3,.int 1]]
theorem JM {p:Int} {n k:Nat} (hs:de p=some (n,k)):atI yO p=some (.tup [.int (n:Nat),.int (k:Nat)]):=by
 obtain⟨_,_,h1,h2⟩:=M.uf hs
 obtain⟨m,rfl⟩:=pW h1
 have hm:m<=12:=by lia
 match m,hm with
 |0,_=>cases hs;rfl
 |1,_=>cases hs;rfl
 |2,_=>cases hs;rfl
 |3,_=>cases hs;rfl
 |4,_=>cases hs;rfl
 |5,_=>cases hs;rfl
 |6,_=>cases hs;rfl
 |7,_=>cases hs;rfl
 |8,_=>cases hs;rfl
 |9,_=>cases hs;rfl
 |10,_=>cases hs;rfl
 |11,_=>cases hs;rfl
 |12,_=>cases hs;rfl
 |n+13,h=>exact absurd h (by lia)
theorem K6 {s:Option fW} {x:Rd16.Call} (h:s≠none):(bw s x).1≠none:=by
 cases s with
 |none=>exact absurd rfl h
 |some y=>
  cases x<;>simp only[bw,Rd16.pure_]<;>repeat' (first|exact Option.some_ne_none _|split)
theorem KG {s:Option fW} {c:List (List Int)} (h:s≠none):(b7 s c).1≠none:=by
 unfold b7
 split
 ·exact h
 ·exact K6 h
theorem Fx {s:Option fW} {c:List (List Int)} (h:CQ c=true):(b7 s c).1≠none:=by
 unfold CQ at h
 split at h
 ·rename_i a b q
  simp only[aH]at h
  rw[iB (x:= .init a b q) rfl]
  have e:bw s (.init a b q)=(some ⟨a.toNat,b.toNat,q.toNat,none⟩,⟨0,[]⟩):=by cases s<;>simp only[bw,if_pos h]
  rw[e]
  exact λz=>by cases z
 ·cases h
structure Vi (l:List Int) (place:Nat) (s:Option fW) (res:List Int) (cs:List (List (List Int))):Prop where
 le:place<=l.length
 cs_:∃f,ke de f (l.drop place)=some cs
 ans:dr l=res++F6 (BI b7 s (cs.map gn))
 ask:(cs.map gn).all CP=true
 beg:∃on,A8 on (cs.map gn)=true/\(on=true->s≠none)
theorem Om {l:List Int} (h:gp l=true):(∃cs,Vi l 0 none [] cs)/\(dr l).length<=10000000:=by
 unfold gp at h
 cases hc:PyRd16.calls l with
 |none=>rw[hc]at h;cases h
 |some L9=>
  rw[hc]at h
  simp only[aH]at h
  have Tx:=hc
  unfold PyRd16.calls at Tx
  cases hf:ke de l.length l with
  |none=>rw[hf]at Tx;cases Tx
  |some cs=>
   rw[hf]at Tx
   injection Tx with Tx
   subst Tx
   obtain⟨⟨_,h2⟩,h3⟩:=h
   unfold Rd16Neutral.asked at h2
   rw[aH]at h2
   refine⟨⟨cs,eS _,⟨l.length,hf⟩,?_,h2.1,false,h2.2,λh=>by cases h⟩,of_decide_eq_true h3⟩
   unfold dr
   rw[hc]
   rfl
theorem UA {l:List Int} {place:Nat} {s:Option fW} {res:List Int} {cs:List (List (List Int))} (h:Vi l place s res cs) (hp:l.length<=place):dr l=res:=by
 obtain⟨f,hf⟩:=h.cs_
 have:l.drop place=[]:=fJ hp
 rw[this]at hf
 have e:cs=[]:=by cases f<;>(simp only[ke,dY]at hf;exact hf.symm)
 have a:=h.ans
 rw[e]at a
 simpa[BI,F6] using a
structure R9 (l:List Int) (place:Nat) (s:Option fW) (res:List Int) (p:Int) (n k:Nat) (row:List Int) (nx:Nat) (c:List (List Int)):Prop where
 num:l[place]? =some p
 shp:de p=some (n,k)
 fit:place+1+n<=l.length
 row_:(k=0/\row=[]/\nx=place+1+n)\/(k=1/\∃m:Nat,l[place+1+n]? =some (m:Int)/\row=(l.drop (place+1+n+1)).take m/\nx=place+1+n+1+m/\nx<=l.length)
 one:One s p ((l.drop (place+1)).take n) row c
 nxt:∃L9,Vi l nx (b7 s c).1 (res++(((b7 s c).2.length:Nat):Int)::(b7 s c).2) L9
theorem PY {l:List Int} {place:Nat} {s:Option fW} {res:List Int} {cs:List (List (List Int))} (hl:l.length<=45000) (h:Vi l place s res cs) (hp:place<l.length):∃p n k row nx c,R9 l place s res p n k row nx c:=by
 obtain⟨f,hf⟩:=h.cs_
 have hd:l.drop place=l[place]::l.drop (place+1):=gm hp
 rw[hd]at hf
 obtain⟨f',c,t,L9,rfl,hc,YN,rfl⟩:=M.HI hf
 obtain⟨n,k,hs,hn,oY⟩:=M.HJ hc
 rw[ba]at hn
 have Ep:place+1+n<=l.length:=by omega
 have dd:∀m,(l.drop (place+1)).drop m=l.drop (place+1+m):=λm=>by rw[BD]
 rw[dd]at oY
 have acm:k=0\/k=1:=(M.uf hs).1
 have main:∀(row:List Int) (nx:Nat),((k=0/\row=[]/\nx=place+1+n)\/(k=1/\∃m:Nat,l[place+1+n]? =some (m:Int)/\row=(l.drop (place+1+n+1)).take m/\nx=place+1+n+1+m/\nx<=l.length))->c=(if k=0 then [l[place]::(l.drop (place+1)).take n]else [l[place]::(l.drop (place+1)).take n,row])->t=l.drop nx->nx<=l.length->∃p n k row nx c,R9 l place s res p n k row nx c:=by
  intro row nx hr Vk ht Vs
  have hrl:row.length<=65536:=by
   rcases hr with ⟨_,rfl,_⟩|⟨_,m,_,rfl,_⟩
   ·exact eS _
   ·rw[aA,ba];omega
  have ask:=h.ask
  rw[bg,D1,aH]at ask
  obtain⟨on,hb,hon⟩:=h.beg
  rw[bg]at hb
  unfold A8 at hb
  rw[aH,eP]at hb
  have Wf:s≠none\/lR (gn c)=false:=by
   rcases hb.1 with h|h
   ·exact .inl (hon h)
   ·exact .inr (by simpa using h)
  have wl:((l.drop (place+1)).take n).length=n:=by rw[aA,ba];omega
  have one:=SJ (s:=s) (wl:=(l.drop (place+1)).take n) (r:=row) hs wl (λh0=>by rcases hr with ⟨_,e,_⟩|⟨e,_⟩;exact e;omega) hrl (by rw[<-Vk];exact ask.1) (by rw[<-Vk];exact Wf)
  rw[<-Vk]at one
  refine⟨l[place],n,k,row,nx,gn c,aI hp,hs,Ep,hr,one,L9,Vs,⟨f',by rw[<-ht];exact YN⟩,?_,ask.2,_,hb.2,λh=>?_⟩
  ·rw[h.ans,bg]
   simp[BI,F6]
  ·rcases Bool.or_eq_true_iff.mp h with h|h
   ·exact KG (hon h)
   ·exact Fx h
 rcases oY with ⟨hk,WU,ht⟩|⟨hk,m,s',XS,hm,WU,ht⟩
 ·exact main [] (place+1+n) (.inl ⟨hk,rfl,rfl⟩) (by rw[if_pos hk];exact WU) ht Ep
 ·have jb:place+1+n<l.length:=by
   have:=congrArg h9 XS
   rw[ba,aJ]at this
   omega
  rw[gm jb]at XS
  injection XS with e1 e2
  have hlen:s'.length=l.length-(place+1+n+1):=by rw[<-e2,ba]
  refine main (s'.take m) (place+1+n+1+m) (.inr ⟨hk,m,by rw[aI jb,e1],by rw[e2],rfl,by omega⟩) (by rw[if_neg (by omega)];exact WU) (by rw[ht,<-e2,BD]) (by omega)
def JJ:tw:=λds O k=>∃l:List Int,l.length<=45000/\gp l=true/\ds=[.ro (l.map .int)]/\O=[]/\∀p,k (.ptr p) [(p,.lst ((dr l).map .int))]
theorem Kh {W:dg} {CC P:Addr} (B:Bn W) (gS:Gv W "SHAPES" (.tup yO)) (g8:Gv W "FIRST_WITHOUT_CODEC" (.int 8)) (T:dC W "answers" "answers" Cr ["calls"]) (mC:jC W "Codec" CC 1 (Mj CC)) (c1:ax W "answer_of_codec" 10 (LOf CC P)) (c2:ax W "answer_without_codec" 6 (cv RT)):ax W "answers" 11 JJ:=by
 refine aQ (N:=["calls","codec","result","place","number","count","rows","whole","row","answer"]) T (by walk_at "fs") (λds O k h=>?_) λX c ds O k h=>?_
 ·obtain⟨_,_,_,rfl,_⟩:=h;rfl
 ·obtain⟨l,hl,NL,rfl,rfl,hk⟩:=h
  obtain⟨⟨cs0,D7⟩,YY⟩:=Om NL
  have pre:∀{place:Nat} {s:Option fW} {res:List Int} {cs:List (List (List Int))},Vi l place s res cs->res.length<=10000000:=λh=>by
   have:=congrArg h9 h.ans
   rw[aj]at this
   lia
  change SV X [some (.ro (l.map .int)),none,none,none,none,none,none,none,none,none] [] _ _ _
  refine ey (lM (x:="codec") c (by decide+kernel) ⟨1,rfl⟩ ?_ rfl)
  refine N5 c mC (by decide) (by decide+kernel) λa=>⟨a,rfl,rfl,rfl,_,by walk_at "put",?_⟩
  change SV X [some (.ro (l.map .int)),some (.ptr a),none,none,none,none,none,none,none,none] (eu CC P a 0 0 0 none) _ _ _
  refine' gk (ds:=([]:List Int).map .int) (λb=>[some (.ro (l.map .int)),some (.ptr a),some (.ptr b),none,none,none,none,none,none,none]) c ?hl (dP az ?z) ?hx ?zh ?hs
  case hl=>decide+kernel
  case z=>exact eS _
  case hx=>intro q;walk_at "put"
  case hs=>rfl
  case zh=>
  intro rs
  refine SV.own (O':=eu CC P a 0 0 0 none++[(rs,.lst (([]:List Int).map .int))]) ?_ gg.1 gg.2
  refine' bK (d:= .int ((0:Nat):Int)) c ?hl ?he ?hp ?zh
  case hl=>decide+kernel
  case he=>
   walk_at "ec"
   rfl
  case hp=>walk_at "put"
  case zh=>
  have ll:(l.map D.int).length=l.length:=ah _
  refine ey (KH c (λm ρ1 O1=>∃(place w h q:Nat) (pic:Option Rd16.Pic) (s:Option fW) (res:List Int) (cs:List (List (List Int))) (d4 d5 d6 d7 d8 d9:Option D),m=l.length-place/\Vi l place s res cs/\IW s w h q pic/\
   ρ1=[some (.ro (l.map .int)),some (.ptr a),some (.ptr rs),some (.int (place:Nat)),d4,d5,d6,d7,d8,d9]/\O1=eu CC P a w h q pic++[(rs,.lst (res.map .int))]) l.length
   ⟨0,0,0,0,none,none,[],cs0,none,none,none,none,none,none,by lia,D7,.inl ⟨rfl,rfl,rfl,rfl,rfl⟩,rfl,rfl⟩ ?_)
  rintro m ρ1 O1 ⟨place,w,h,q,pic,s,res,cs,d4,d5,d6,d7,d8,d9,rfl,hat,p6,rfl,rfl⟩
  refine' nP.go (b:=decide ((place:Int)<(((l.map D.int).length:Nat):Int))) (Dh ?e1 (Ll c B ?zg ?e2)) ?nx
  case e1=>walk_at "n"
  case zg=>decide+kernel
  case e2=>walk_at "n"
  case nx=>
  rw[ll]
  by_cases hp:place<l.length
  case neg=>
   rw[if_neg (by simp;lia)]
   have e:=UA hat (by lia)
   have Ar:=hk rs
   rw[e]at Ar
   exact aT (EV.sub (bq.go (d:= .ptr rs) (by walk_at "n") ⟨_,λz hz=>bB _ hz,rP,Ar⟩))
  case pos=>
  rw[if_pos (by simp;lia)]
  obtain⟨p,n,kk,row,nx,cc,nc⟩:=PY hl hat hp
  obtain⟨L9,Vs⟩:=nc.nxt
  have XA:=pre Vs
  have fit:=nc.fit
  
  refine' bK (d:= .int p) c ?hl (zD (ds:=l.map .int) (i:=(place:Nat)) ?y1 ?y2 (vG (by rw[aE,nc.num];rfl)) ?y3) ?hp ?zh
  case hl=>decide+kernel
  case y1=>walk_at "n"
  case y2=>walk_at "n"
  case y3=>intro _ _;rfl
  case hp=>walk_at "put"
  case zh=>
  
  refine' Pn (tgs:=[]) (kk:=0) (d:= .tup [.int (n:Nat),.int (kk:Nat)]) (Iw (ds:=yO) (i:=p) ?y1 ?y2 (JM nc.shp) ?y3) ?tg ?zh
  case y1=>walk_at "e"
  case y2=>walk_at "n"
  case y3=>intro _ _;rfl
  case tg=>walk_at "tg2"
  case zh=>
  
  refine' bK (d:=dl ((l.drop (place+1)).take n)) c ?hl (bq.cast (cD.pev (Ek (ds:=l.map .int) (l:=some ((place+1:Nat):Int)) (h:=some ((place+1+n:Nat):Int)) ?y1 (dO (bq.cast (jr ?y2 bI) ?q1)) (dO (bq.cast (jr (jr ?y3 bI) ?y4) ?q2)))) ?q3) ?hp ?zh
  case hl=>decide+kernel
  case y1=>walk_at "n"
  case y2=>walk_at "n"
  case y3=>walk_at "n"
  case y4=>walk_at "n"
  case q1=>exact congrArg D.int (by push_cast;rfl)
  case q2=>exact congrArg D.int (by push_cast;rfl)
  case q3=>rw[j9,pY]
  case hp=>walk_at "put"
  case zh=>
  
  refine' DP (i:=(place:Nat)) (j:=1+(n:Nat)) c ?hl ?hg ?he ?hp ?zh
  case hl=>decide+kernel
  case hg=>walk_at "get"
  case he=>walk_at "e"
  case hp=>walk_at "put"
  case zh=>
  have e1:(place:Int)+(1+(n:Int))=((place+1+n:Nat):Int):=by push_cast;lia
  rw[e1]
  
  refine' bK (d:=dl []) c ?hl (cD.pev (dP az ?z)) ?hp ?zh
  case hl=>decide+kernel
  case z=>exact eS _
  case hp=>walk_at "put"
  case zh=>
  refine' wI (λρ1 O1=>ρ1=[some (.ro (l.map .int)),some (.ptr a),some (.ptr rs),some (.int (nx:Nat)),some (.int p),some (.int (n:Nat)),some (.int (kk:Nat)),some (dl ((l.drop (place+1)).take n)),some (dl row),d9]/\O1=eu CC P a w h q pic++[(rs,.lst (res.map .int))]) (rA (i:=(kk:Nat)) (j:=1) ?y1 bI) ?h1 ?h2 ?hj
  case y1=>walk_at "n"
  case h1=>
   intro hf
   have hf:kk=1:=by have:=of_decide_eq_true hf;lia
   rcases nc.row_ with ⟨h0,_⟩|⟨_,mm,hm,oY,SD,adR⟩
   ·lia
   have atm:atI (l.map D.int) ((place+1+n:Nat):Int)=some (.int (mm:Int)):=vG (by rw[aE,hm];rfl)
   refine' bK (d:=dl row) c ?hl (bq.cast (cD.pev (Ek (ds:=l.map .int) (l:=some ((place+1+n+1:Nat):Int)) (h:=some ((place+1+n+1+mm:Nat):Int)) ?y1 (dO (bq.cast (jr ?y2 bI) ?q1)) (dO (bq.cast (jr (jr ?y3 bI) (zD (ds:=l.map .int) (i:=((place+1+n:Nat):Int)) ?y4 ?y5 atm ?y6)) ?q2)))) ?q3) ?hp ?zh
   case hl=>decide+kernel
   case y1=>walk_at "n"
   case y2=>walk_at "n"
   case y3=>walk_at "n"
   case y4=>walk_at "n"
   case y5=>walk_at "n"
   case y6=>intro _ _;rfl
   case q1=>exact congrArg D.int (by push_cast;rfl)
   case q2=>exact congrArg D.int (by push_cast;rfl)
   case q3=>rw[j9,pY,oY]
   case hp=>walk_at "put"
   case zh=>
   refine' DP (i:=((place+1+n:Nat):Int)) (j:=1+(mm:Nat)) c ?hl ?hg (jr bI (zD (ds:=l.map .int) (i:=((place+1+n:Nat):Int)) ?y4 ?y5 atm ?y6)) ?hp ?zh
   case hl=>decide+kernel
   case hg=>walk_at "get"
   case y4=>walk_at "n"
   case y5=>walk_at "n"
   case y6=>intro _ _;rfl
   case hp=>walk_at "put"
   case zh=>
   have e2:((place+1+n:Nat):Int)+(1+(mm:Int))=(nx:Int):=by rw[SD];push_cast;lia
   rw[e2]
   exact aL (Wk.refl _) ⟨rfl,rfl⟩
  case h2=>
   intro hf
   have hf:¬kk=1:=by have:=of_decide_eq_false hf;lia
   rcases nc.row_ with ⟨_,oY,SD⟩|⟨h1,_⟩
   ·rw[oY,SD]
    exact aL (Wk.refl _) ⟨rfl,rfl⟩
   ·exact absurd h1 hf
  case hj=>
  rintro ρ2 O2 ⟨rfl,rfl⟩
  generalize V9:(b7 s cc).2=ans at Vs XA
  refine' wI (λρ1 O1=>∃(pp:Addr) (w' h' q':Nat) (jc:Option Rd16.Pic),IW (b7 s cc).1 w' h' q' jc/\ρ1=[some (.ro (l.map .int)),some (.ptr a),some (.ptr rs),some (.int (nx:Nat)),some (.int p),some (.int (n:Nat)),some (.int (kk:Nat)),some (dl ((l.drop (place+1)).take n)),some (dl row),some (.ptr pp)]/\O1=(pp,.lst (ans.map .int))::(eu CC P a w' h' q' jc++[(rs,.lst (res.map .int))])) (Dh (i:=p) (j:=8) ?y1 ?y2) ?h1 ?h2 ?hj
  case y1=>walk_at "n"
  case y2=>walk_at "e"
  case h1=>
   intro hf
   have hf:=of_decide_eq_true hf
   refine ey (lM (x:="answer") c (by decide+kernel) ⟨9,rfl⟩ ?_ rfl)
   refine' jU c c1 (by decide) ?zg (ir.go (ds:=[.ptr a,.int p,dl ((l.drop (place+1)).take n),dl row]) ?za ⟨eu CC P a w h q pic,[(rs,.lst (res.map .int))],rfl,a,w,h,q,pic,rfl,nc.one.hi hf p6 λpp w' h' q' jc MO=>⟨_,by walk_at "put",aL (Wk.refl _) ⟨pp,w',h',q',jc,MO,rfl,by rw[V9];rfl⟩⟩⟩)
   case zg=>decide+kernel
   case za=>walk_at "es"
  case h2=>
   intro hf
   have hf:=of_decide_eq_false hf
   obtain⟨T7,hwo⟩:=nc.one.lo (by lia)
   rw[V9]at hwo
   refine ey (lM (x:="answer") c (by decide+kernel) ⟨9,rfl⟩ ?_ rfl)
   refine' EV.own_k (aV c c2 (by decide) ?zg ?za hwo) λpp=>⟨_,by walk_at "put",aL (Wk.refl _) ⟨pp,w,h,q,pic,by rw[T7];exact p6,rfl,rfl⟩⟩
   case zg=>decide+kernel
   case za=>walk_at "es"
  case hj=>
  rintro ρ3 O3 ⟨pp,w',h',q',jc,MO,rfl,rfl⟩
  refine IE (ρ':=[some (.ro (l.map .int)),some (.ptr a),some (.ptr rs),some (.int (nx:Nat)),some (.int p),some (.int (n:Nat)),some (.int (kk:Nat)),some (dl ((l.drop (place+1)).take n)),some (dl row),some (dl ans)]) (by walk_at "fz") ?_
  have la:(ans.map D.int).length=ans.length:=ah _
  have lr:(res.map D.int).length=res.length:=ah _
  rw[aj,aJ]at XA
  refine' fE (sx (q:=rs) ?ho ⟨_,ai _ ae⟩ (bq.go (d:= .int ((ans.map D.int).length:Nat)) (kH c B ?zg ?he rfl) ⟨res.map .int,_,.there .here,?hz,?hk⟩))
  case ho=>walk_at "n"
  case zg=>decide+kernel
  case he=>walk_at "n"
  case hz=>rw[lr,af];lia
  case hk=>
  refine' fE (gQ (q:=rs) ?ho ⟨_,ai _ ae⟩ (bq.go (d:=dl ans) ?he ⟨res.map .int++[.int ((ans.map D.int).length:Nat)],ans.map .int,_,rfl,.there .here,?hz,?hk⟩))
  case ho=>walk_at "n"
  case he=>walk_at "n"
  case hz=>rw[aj,lr,la,af];simp;lia
  case hk=>
  refine aL (Wk.refl _) ⟨l.length-nx,?_,nx,w',h',q',jc,_,_,L9,some (.int p),some (.int (n:Nat)),some (.int (kk:Nat)),some (dl ((l.drop (place+1)).take n)),some (dl row),some (dl ans),rfl,Vs,MO,rfl,?_⟩
  ·have:=Vs.le
   rcases nc.row_ with ⟨_,_,e⟩|⟨_,mm,_,_,e,_⟩<;>lia
  ·show _=_++_
   rw[la]
   simp
end G
namespace G
open PySem PySem.Spec L2 PyProof.Rows
theorem Ik {K:ag} {F:Hp}:∀ns:List Int,cg K F (ns.map D.int) (ns.map V.int)
 |[]=>rfl
 |n::ns=>⟨.int n,ns.map .int,rfl,rfl,Ik ns⟩
theorem Js {K:ag} {F:Hp}:∀{ns:List Int} {vs:List V},cg K F (ns.map D.int) vs->vs=ns.map V.int
 |[],_,h=>h
 |n::ns,_,⟨v,r,e,hv,hr⟩=>by rw[e,show v=V.int n from hv,Js hr];rfl
theorem TQ {K:ag} {H:Hp} {a:Addr} {ns:List Int} {E:XK} (hS:iL K H a (ns.map V.int)) (hl:ns.length<=45000) (ha:gp ns=true):
  x8 K JJ [.ref a] H (λv H'=>∃p,v= .ref p/\H' p=some (.lst ((dr ns).map V.int))) E:=
 ⟨H,[.ro (ns.map .int)],[],λd O'=>∃p,d= .ptr p/\O'=[(p,.lst ((dr ns).map .int))],bX.refl _,⟨_,[],rfl,⟨a,_,rfl,hS,Ik ns⟩,rfl⟩,⟨List.nodup_nil,λq hq=>by cases hq⟩,⟨ns,hl,ha,rfl,rfl,λp=>⟨p,rfl,rfl⟩⟩,
  λv d O' F' H' g su ow r ⟨p,e1,e2⟩=>by
   subst e1;subst e2
   obtain⟨_,vs,hv,hr⟩:=ow.at_ _ ae
   exact⟨p,r,by rw[hv,Js hr]⟩⟩
theorem J5 {P:bR} {w:du} {K:ag} {mg mb:Str->Option Value} {k:Nat} {fa a:Addr} {s₁:ao} {vs:List Value} {ns:List Int}
  (KX:K.In s₁.heap) (Xp:s₁.heap.Ns bS mg) (hb:s₁.heap.Ns Sn mb) (hbb:∀x:Str,x≠"__name__"->mb x=dv x) (Y0:s₁.heap.NoLimit) (hg:s₁.gens=#[])
  (ha:s₁.heap.get? a=some {cls:= .type "list",data:= .seq vs.toArray}) (hi:t9 vs ns) (hl:ns.length<=45000) (NL:gp ns=true) (hr:lE k LL) (XB:mg "answers"=some (.ref fa))
  (F:∀base:Heap,K.In base->base.Ns bS mg->ax ⟨P,w,K,mg,base⟩ "answers" k JJ):
  codeAny (aU P w) LL (.call (.ref fa) ⟨[.ref a],[]⟩) (λr s'=>(∃p us n,r= .ok (.ret (.ref p))/\s'.heap.get? p=some {cls:= .type "list",data:= .seq us.toArray n}/\b8 ((dr ns).map V.int) us)/\OldK s₁.heap s'.heap/\s'.os=s₁.os/\xh s'.gens) s₁:=by
 have rv:=CA hi
 have aao:=hi.length
 have hlz:ns.length<=sizeLine:=by rw[wz];lia
 have core:∀H:Hp,X2 H->iL K H a (ns.map V.int)->yn P w H s₁.heap->(∀b,H b≠none->b=a)->(H a≠none->K.lookup a=none)->
   codeAny (aU P w) LL (.call (.ref fa) ⟨[.ref a],[]⟩) (λr s'=>(∃p us n,r= .ok (.ret (.ref p))/\s'.heap.get? p=some {cls:= .type "list",data:= .seq us.toArray n}/\b8 ((dr ns).map V.int) us)/\OldK s₁.heap s'.heap/\s'.os=s₁.os/\xh s'.gens) s₁:=by
  intro H hO hS hok hA hK
  have base_of:∀{b:Addr} {o:Obj},s₁.heap.get? b=some o->H b=none->(Dd s₁.heap H).get? b=some o:=λe n=>NQ e n
  have noA:∀{b:Addr} {o:Obj} {es:Array DictEntry} {ep:Nat},s₁.heap.get? b=some o->o.data= .dict es ep->H b=none:=λ{b o es ep} e d=>by
   cases q:H b with
   |none=>rfl
   |some u=>
    have e':b=a:=hA b (by rw[q];simp)
    subst e'
    rw[ha]at e;cases e
    have d':Data.seq vs.toArray _=Data.dict es ep:=d
    cases d'
  have Xq:∀{b:Addr} {m:Str->Option Value},s₁.heap.Ns b m->(Dd s₁.heap H).Ns b m:=λ{b m} ⟨o,es,ep,e,d,r⟩=>⟨o,es,ep,base_of e (noA e d),d,r⟩
  have hKb:K.In (Dd s₁.heap H):=λb o e=>base_of (KX b o e) (by
   cases q:H b with
   |none=>rfl
   |some u=>
    have e':b=a:=hA b (by rw[q];simp)
    subst e'
    rw[hK (by rw[q];simp)]at e;cases e)
  have hM:Mod K mg (Dd s₁.heap H):=⟨hKb,Xq Xp,⟨mb,Xq hb,hbb⟩,let ⟨mc,h1,h2⟩:=Y0;⟨mc,Xq h1,h2⟩⟩
  have e0:HB P w K mg (Dd s₁.heap H) LL [] s₁ H:=⟨rfl,hM,λb o e=>QF e,ko (J0 _ _),trivial,λb hb=>absurd (show b∈([]:List Addr)from hb) (by simp),hok,.of_eq hg⟩
  obtain⟨f,fd,ps,F1,hm,_,hbd⟩:=(F _ hKb (Xq Xp)).ex
  have ef:f=fa:=by
   have:=hm.symm.trans XB
   injection this with this
   injection this
  subst ef
  have SM:=TQ (E:=E0) hS hl NL
  have hlen:[V.ref a].length=ps.length:=F1.len _ _ _ _ SM
  refine AY (F1.run LL [] s₁ H ⟨[bt a],[]⟩ ([bt a]++[]) [V.ref a] _ _ hr e0 (hbd s₁ [bt a] KX hlen) (show b8 [V.ref a] [bt a]from .cons rfl .nil) SM) λr s' h=>?_
  cases r with
  |error e=>exact eW h
  |ok fl=>
   cases fl with
   |next=>exact eW h
   |brk=>exact eW h
   |cont=>exact eW h
   |ret u=>
    obtain⟨v,H',os,bare,un,WL,r',p,rfl,hp⟩:=h
    obtain rfl:u=bt p:=r'
    obtain⟨_,us,n,r2,e2⟩:=WL p _ hp
    refine⟨⟨p,us,n,rfl,e2,r2⟩,OldK.of_keep λb o e=>?_,os,bare⟩
    cases q:H b with
    |none=>exact un.keep b o e q (by intro z;exact absurd (show b∈([]:List Addr)from z) (by simp)) (by simp)
    |some u=>
     rcases hO b with z|⟨ob,xs,z⟩
     ·rw[q]at z;cases z
     ·have z2:=un.frzs b ob _ z
      obtain⟨e1,_⟩:=hok b _ z
      obtain⟨e2,_⟩:=WL b _ z2
      rw[e]at e1;cases e1
      exact e2
 cases hk:K.lookup a with
 |some o=>
  have e:=KX a o hk
  rw[ha]at e
  cases e
  refine core (λ_=>none) (λ_=> .inl rfl) (.inr ⟨_,vs.toArray,_,hk,rfl,rfl,rfl,by rw[aG,aao];exact hlz,by simpa using rv⟩) (λb u z=>by have z':(none:Option HO)=some u:=z;cases z') (λb z=>absurd rfl z) λz=>absurd rfl z
 |none=>
  refine core (λb=>if b=a then some (.frz {cls:= .type "list",data:= .seq vs.toArray} (.lst (ns.map V.int)))else none) (λb=>?_) (.inl (.inr ⟨{cls:= .type "list",data:= .seq vs.toArray},if_pos rfl⟩)) (λb u z=>?_) (λb z=>?_) λ_=>hk
  ·by_cases hb:b=a
   ·exact .inr ⟨_,_,if_pos hb⟩
   ·exact .inl (if_neg hb)
  ·by_cases hb:b=a
   ·have z':=(if_pos hb).symm.trans z
    cases z'
    subst hb
    exact⟨ha,by rw[ah];exact hlz,vs,_,rv,ha⟩
   ·have z':=(if_neg hb).symm.trans z
    cases z'
  ·by_cases hb:b=a
   ·exact hb
   ·exact absurd (if_neg hb) z
theorem Hr {R:PySem.W.WRecords} {cl:Str->Option Addr} {h:Heap} (ns:List Int):∀{us:List Value},b8 (ns.map V.int) us->PySem.W.ReadsAllW R cl h us (ns.map PySem.W.WData.int) []:=by
 induction ns with
 |nil=>intro us hv;cases hv;exact .nil
 |cons n ns ih=>
  intro us hv
  cases hv with
  |cons r hr=>
   obtain⟨t,e⟩:=r
   subst e
   exact .cons (as:=[]) (bs:=[]) (.int n t) (ih hr)
end G
namespace G
open PySem PySem.W PySem.Calls L2 PyProof.Rows
theorem QR {args:List WData} {vals:List Value} {P:Params} {h:Heap} (Q6:cj.wellSaid=true) (SK:cj.pre args=true) (VN:WellAll P h vals args):
  ∃a vs ns,vals=[bt a]/\args=[WData.list (ns.map sT)]/\h.get? a=some {cls:= .type "list",data:= .seq vs.toArray}/\t9 vs ns/\ns.length<=45000/\gp ns=true/\
   ∀ds,cj.claim.post args (.list ((dr ns).map sT)) ds=true:=by
 obtain⟨x,h1,h2,e⟩:=(OpenSpec.pre_iff Q6 args).mp SK
 have hp:=λds=>(OpenSpec.post_iff Q6 h1 (.list ((dr x.1).map sT)) ds).mpr rfl
 have hl:Codec.inLen 0 45000 x.1=true:=(Codec.and_of (Codec.and_of h1).1).1
 have Ae:x.1.length<=45000:=(Codec.inNat_iff.mp hl).2
 have e':args=[WData.list (x.1.map sT)]:=e
 subst e'
 cases VN with
 |cons w1 w2=>
  cases w2
  cases w1 with
  |list ho To=>exact⟨_,_,x.1,rfl,rfl,ho,Att.yt x.1 _ To,Ae,h2,hp⟩
theorem WO {q:bR} {loose:List Str} {XP:(Str->Option Value)->Heap->Prop} {YP:du->Heap->Prop} {d:DefRec} {K:Params->Frag} (Q6:cj.wellSaid=true) (hdf:d.params.defaults=[]) (hnm:d.name="answers")
  (hY:∀(w:du) (h:Heap),YP w h->(K w.params).In h)
  (F:∀(w:du) (mg:Str->Option Value) (h:Heap),(K w.params).In h->h.Ns bS mg->∀base:Heap,(K w.params).In base->base.Ns bS mg->ax ⟨cj.prog,w,K w.params,mg,base⟩ "answers" 11 JJ):
  WalkOS q loose XP YP cj d [] (λf vs=>PySem.call f vs):=by
 intro w s₀ s₁ mg mb G Y fa o pm cd doc dV kV ho hd Ir hD XB hg args vals as SK adi Vq VN hlo
 obtain rfl:dV= .none:=Dflts.none hD hdf
 obtain rfl:kV= .none:=Dflts.noKw hD
 obtain⟨a,vs,ns,rfl,rfl,ZT,hints,hlen,NL,V1⟩:=QR Q6 SK VN
 have KX:=hY w _ Y
 rw[hnm]at XB
 refine enter_call (AY (J5 KX G.T.g G.T.b G.T.builtins G.T.nolimit hg ZT hints hlen NL ⟨rfl,by decide,by decide⟩ XB (F w mg _ KX G.T.g)) λr s' hq=>?_)
 obtain⟨⟨p,us,n,rfl,he,hv⟩,h2,h3,h4⟩:=hq
 refine⟨.inl ⟨.ref p,.list ((dr ns).map sT),_,rfl,λ_=>rfl,ReadsW.list he rfl rfl (by simpa using Hr (dr ns) hv),V1 _,λh=>absurd h aw⟩,h2,h3,h4⟩
end G
namespace G
open PySem PySem.Spec L2
structure Tx1 (W:dg):Prop where
 bn:Bn W
 d_answer_backward:dC W "answer_backward" "answer_backward" mU ["block"]
 d_answer_forward:dC W "answer_forward" "answer_forward" nY ["block"]
 d_answer_levels:dC W "answer_levels" "answer_levels" pD ["step","block"]
 d_answer_of_codec:dC W "answer_of_codec" "answer_of_codec" mM ["codec","number","whole","row"]
 d_answer_smooth:dC W "answer_smooth" "answer_smooth" pP ["wide","high","step","points"]
 d_answer_values:dC W "answer_values" "answer_values" pN ["step","levels"]
 d_answer_without_codec:dC W "answer_without_codec" "answer_without_codec" jW ["number","whole","row"]
 d_answers:dC W "answers" "answers" Cr ["calls"]
 d_are_sizes_and_step:dC W "are_sizes_and_step" "are_sizes_and_step" kT ["wide","high","step"]
 d_backward:dC W "backward" "backward" Ay ["block"]
 d_between:dC W "between" "between" Cy ["rows","x","y"]
 d_block_bits:dC W "block_bits" "block_bits" vI ["levels"]
 d_cheapest_place:dC W "cheapest_place" "cheapest_place" nN ["square","near","hint","places"]
 d_cheapest_way:dC W "cheapest_way" "cheapest_way" rV ["sheet","square","i","j","hint"]
 d_columns_backward:dC W "columns_backward" "columns_backward" l8 ["block"]
 d_columns_forward:dC W "columns_forward" "columns_forward" mJ ["block"]
 d_cut:dC W "cut" "cut" R4 ["points","wide","left","top","side"]
 d_cut_square:dC W "cut_square" "cut_square" vQ ["picture","i","j"]
 d_edge_shift:dC W "edge_shift" "edge_shift" vb ["p1","p0","q0","q1","step"]
 d_edge_shifts:dC W "edge_shifts" "edge_shifts" tI ["before_last","last","first","second","step"]
 d_expected_square:dC W "expected_square" "expected_square" mV ["sheet","kind","i","j","vector"]
 d_find_vector:dC W "find_vector" "find_vector" tU ["picture","i","j","square","hint"]
 d_flat_point:dC W "flat_point" "flat_point" vy ["picture","i","j"]
 d_forward:dC W "forward" "forward" CD ["block"]
 d_is_size:dC W "is_size" "is_size" CF ["number"]
 d_is_step:dC W "is_step" "is_step" BL ["number"]
 d_joined:dC W "joined" "joined" EK ["rows"]
 d_lay:dC W "lay" "lay" Sm ["points","wide","left","top","side","piece"]
 d_lay_square:dC W "lay_square" "lay_square" vj ["picture","i","j","square"]
 d_leftover_bits:dC W "leftover_bits" "leftover_bits" pB ["blocks"]
 d_leftover_levels:dC W "leftover_levels" "leftover_levels" mH ["step","square","guess"]
 d_level_of:dC W "level_of" "level_of" z7 ["step","number"]
 d_levels_of:dC W "levels_of" "levels_of" xF ["step","block"]
 d_may_be:dC W "may_be" "may_be" ER ["sheet","kind","i","j"]
 d_means:dC W "means" "means" Jb ["first","second"]
 d_moved_square:dC W "moved_square" "moved_square" rT ["picture","i","j","x","y"]
 d_number_bits:dC W "number_bits" "number_bits" tY ["number"]
 d_number_length:dC W "number_length" "number_length" pR ["number"]
 d_packed:dC W "packed" "packed" EE ["bits"]
 d_places_beside:dC W "places_beside" "places_beside" pQ ["x","y"]
 d_points_above:dC W "points_above" "points_above" rq ["picture","i","j"]
 d_points_left:dC W "points_left" "points_left" tT ["picture","i","j"]
 d_read_block:dC W "read_block" "read_block" vY ["reader","step"]
 d_read_leftover:dC W "read_leftover" "read_leftover" pT ["reader","step"]
 d_read_picture:dC W "read_picture" "read_picture" qY ["wide","high","step","before","row"]
 d_read_square:dC W "read_square" "read_square" m6 ["reader","sheet","i","j","hint"]
 d_read_vector:dC W "read_vector" "read_vector" tZ ["reader","hint"]
 d_rows_of:dC W "rows_of" "rows_of" B9 ["points","wide"]
 d_shifted:dC W "shifted" "shifted" B2 ["row","shifts"]
 d_shown_square:dC W "shown_square" "shown_square" rk ["step","guess","blocks"]
 d_signed_bits:dC W "signed_bits" "signed_bits" tF ["number"]
 d_signed_length:dC W "signed_length" "signed_length" pG ["number"]
 d_smoothed:dC W "smoothed" "smoothed" zz ["picture","step"]
 d_smoothed_rows:dC W "smoothed_rows" "smoothed_rows" pJ ["rows","step"]
 d_spread_across:dC W "spread_across" "spread_across" pA ["points"]
 d_starts_of_rows:dC W "starts_of_rows" "starts_of_rows" nD ["wide","left","top","side"]
 d_tell:dC W "tell" "tell" Nl ["sheet","points"]
 d_turned:dC W "turned" "turned" FT ["points","wide"]
 d_unpacked:dC W "unpacked" "unpacked" zW ["row"]
 d_unsigned:dC W "unsigned" "unsigned" Aq ["number"]
 d_values_of:dC W "values_of" "values_of" xH ["step","levels"]
 d_vector_cost:dC W "vector_cost" "vector_cost" tm ["square","points","x","y","hint"]
 d_way_cost:dC W "way_cost" "way_cost" zT ["step","square","shown","count"]
 d_way_of:dC W "way_of" "way_of" EB ["sheet","square","kind","i","j","hint"]
 d_whole_places:dC W "whole_places" "whole_places" qH []
 d_window:dC W "window" "window" FL ["picture","left","top","side"]
 g_ACROSS:Gv W "ACROSS" (.int 4)
 g_AS_BEFORE:Gv W "AS_BEFORE" (.int 0)
 g_CORNERS:Gv W "CORNERS" FN
 g_DOWN:Gv W "DOWN" (.int 3)
 g_FARTHEST:Gv W "FARTHEST" (.int 15)
 g_FIRST_WITHOUT_CODEC:Gv W "FIRST_WITHOUT_CODEC" (.int 8)
 g_FLAT:Gv W "FLAT" (.int 2)
 g_GREATEST:Gv W "GREATEST" (.int 32767)
 g_HIGHEST_COST:Gv W "HIGHEST_COST" (.int 65535)
 g_MOST_BYTES:Gv W "MOST_BYTES" (.int 1048576)
 g_MOST_ZEROS:Gv W "MOST_ZEROS" (.int 20)
 g_MOVED:Gv W "MOVED" (.int 1)
 g_ORDER:Gv W "ORDER" Tp
 g_SHAPES:Gv W "SHAPES" (.tup yO)
 g_SIDE:Gv W "SIDE" (.int 16)
 g_STEPS:Gv W "STEPS" Gx
structure ZY (W:dg) (P:Addr):Prop where
 mk_:pK W "Picture" P "Picture.__init__" rD ["self","wide","high","points"]
 cl:iS W.K P
 n_high:aM W.K P "high"
 n_points:aM W.K P "points"
 n_wide:aM W.K P "wide"
structure ZA (W:dg) (S:Addr):Prop where
 mk_:pK W "Sheet" S "Sheet.__init__" uX ["self","wide","high","step","before"]
 cl:iS W.K S
 n_before:aM W.K S "before"
 n_shown:aM W.K S "shown"
 n_step:aM W.K S "step"
structure TxC (W:dg) (C:Addr):Prop where
 mk_:pK W "Way" C "Way.__init__" AI ["self","vector","bits","square","cost"]
 cl:iS W.K C
 n_bits:aM W.K C "bits"
 n_cost:aM W.K C "cost"
 n_square:aM W.K C "square"
 n_vector:aM W.K C "vector"
structure TF (W:dg) (CC:Addr):Prop where
 mk_:pK W "Codec" CC "Codec.__init__" vA ["self"]
 cl:iS W.K CC
 m_about:jH W CC "about" "Codec.about" tK ["self"]
 m_begin:jH W CC "begin" "Codec.begin" tQ ["self","wide","high","step"]
 m_can_move:jH W CC "can_move" "Codec.can_move" nO ["self","i","j","x","y"]
 m_code:jH W CC "code" "Codec.code" vZ ["self","key","most","points"]
 m_moved:jH W CC "moved" "Codec.moved" tX ["self","i","j","x","y"]
 m_picture:jH W CC "picture" "Codec.picture" pU ["self","most"]
 m_read:jH W CC "read" "Codec.read" ve ["self","row"]
 m_search:jH W CC "search" "Codec.search" rG ["self","i","j","x","y","square"]
 m_show:jH W CC "show" "Codec.show" u0 ["self","mask"]
 n_before:aM W.K CC "before"
 n_high:aM W.K CC "high"
 n_step:aM W.K CC "step"
 n_wide:aM W.K CC "wide"
structure S7 (W:dg) (BR:Addr):Prop where
 mk_:pK W "BitReader" BR "BitReader.__init__" nG ["self","row"]
 cl:iS W.K BR
 m_finish:jH W BR "finish" "BitReader.finish" lY ["self"]
 m_take_bit:jH W BR "take_bit" "BitReader.take_bit" kU ["self"]
 m_take_number:jH W BR "take_number" "BitReader.take_number" jy ["self"]
 m_take_signed:jH W BR "take_signed" "BitReader.take_signed" jA ["self"]
 n_bits:aM W.K BR "bits"
 n_place:aM W.K BR "place"
theorem TH {W:dg} {P S C CC BR R:Addr} (T:Tx1 W) (TP:ZY W P) (TS:ZA W S) (TC:TxC W C) (kM:TF W CC) (AJ:S7 W BR) (hR:xb W R):ax W "answers" 11 JJ:=by
 have mI:=yw (W:=W) T.bn T.d_number_length
 have lx:=Be (W:=W) T.bn T.d_number_bits mI
 have vP:=GR (W:=W) T.d_unsigned
 have vX:=yq (W:=W) T.d_signed_length mI vP
 have yz:=Bz (W:=W) T.d_signed_bits lx vP
 have GN:=NW (W:=W) T.bn T.d_packed
 have CU:=Hl (W:=W) T.bn T.d_unpacked
 have mE:=JS (W:=W) T.bn T.d_rows_of
 have l9:=Ny (W:=W) T.d_joined
 have ui:=MJ (W:=W) T.bn T.d_turned l9
 have mh:=xc (W:=W) T.bn T.d_starts_of_rows
 have Iq:=VF (W:=W) T.bn T.d_cut l9 mh
 have Ig:=VO (W:=W) T.bn T.d_lay mE mh
 have qX:=C9 (W:=W) (P:=P) TP.cl TP.n_points TP.n_wide T.g_SIDE T.d_cut_square Iq
 have qN:=DR (W:=W) (P:=P) TP.cl TP.n_points TP.n_wide T.g_SIDE T.d_lay_square Ig
 have zU:=Mz (W:=W) (P:=P) T.bn TP.cl TP.n_points TP.n_wide TP.n_high T.d_window
 have Kw:=Qs (W:=W) T.bn T.d_means
 have xM:=K2 (W:=W) T.bn T.g_SIDE T.d_between Kw
 have yl:=By (W:=W) T.bn T.g_HIGHEST_COST T.d_vector_cost vX
 have xa:=zy (W:=W) T.bn T.d_whole_places
 have vU:=yp (W:=W) T.d_places_beside
 have uk:=wH (W:=W) T.g_SIDE T.g_HIGHEST_COST T.d_cheapest_place yl xM
 have pC:=Bw (W:=W) (P:=P) T.g_SIDE T.d_find_vector zU uk xa vU
 have nQ:=zu (W:=W) (P:=P) T.g_SIDE T.d_moved_square zU xM
 have DQ:=GZ (W:=W) T.bn T.g_GREATEST T.d_level_of
 have tD:=Fu (W:=W) T.g_ORDER T.d_levels_of DQ
 have tf:=Ff (W:=W) T.bn T.g_ORDER T.d_values_of
 have sJ:=vJ (W:=W) T.bn T.g_STEPS T.d_columns_forward mE l9
 have xP:=KJ (W:=W) T.d_forward sJ ui
 have sR:=va (W:=W) T.bn T.g_SIDE T.g_CORNERS T.d_leftover_levels Iq tD xP
 have As:=Dp (W:=W) T.bn T.d_block_bits lx
 have wg:=yk (W:=W) T.bn T.d_leftover_bits As
 have nK:=zJ (W:=W) (P:=P) TP.cl TP.n_points TP.n_wide T.g_SIDE T.d_points_above
 have pL:=Bg (W:=W) (P:=P) TP.cl TP.n_points TP.n_wide T.g_SIDE T.d_points_left
 have vq:=x6 (W:=W) T.g_SIDE T.d_spread_across
 have zA:=C0 (W:=W) (P:=P) T.bn T.d_flat_point nK pL
 have Ag:=Oe (W:=W) (P:=P) (S:=S) TS.cl TS.n_before T.g_AS_BEFORE T.g_MOVED T.g_FLAT T.g_DOWN T.g_ACROSS T.d_may_be
 have lC:=vH (W:=W) (P:=P) (S:=S) TS.cl TS.n_before TS.n_shown T.g_SIDE T.g_AS_BEFORE T.g_MOVED T.g_DOWN T.g_ACROSS T.d_expected_square qX nQ nK pL vq zA
 have FU:=Kn (W:=W) T.d_is_size
 have qI:=Kj (W:=W) T.d_is_step
 have tO:=Fj (W:=W) T.d_are_sizes_and_step FU qI
 have zH:=DE (W:=W) T.bn T.d_edge_shift
 have ES:=KO (W:=W) T.bn T.d_shifted
 have x5:=Bq (W:=W) T.bn T.d_edge_shifts zH
 have vi:=ya (W:=W) T.bn T.d_smoothed_rows x5 ES
 have mX:=JQ (W:=W) (P:=P) TP.cl TP.n_wide TP.n_high TP.n_points TP.mk_
 have QS:=Xe (W:=W) (P:=C) TC.cl TC.n_vector TC.n_bits TC.n_square TC.n_cost TC.mk_
 have oE:=G3 (W:=W) (P:=P) TP.cl TP.n_wide TP.n_high TP.n_points T.d_smoothed mX mE l9 ui vi
 have B5:=Ro (W:=W) (S:=S) (P:=P) TS.cl TS.n_step TS.n_before TS.n_shown TS.mk_ mX
 have Dk:=Hs (W:=W) T.bn T.d_way_cost
 have uA:=wG (W:=W) T.d_answer_forward xP
 have vc:=ym (W:=W) T.d_answer_levels qI tD
 have uS:=yf (W:=W) T.bn T.g_GREATEST T.d_answer_values qI tf
 have vB:=yx (W:=W) (P:=P) TP.cl TP.n_points T.d_answer_smooth mX tO oE
 have Kd:=Qq (W:=W) (CC:=CC) kM.cl kM.n_wide kM.n_high kM.n_step kM.n_before kM.mk_
 have KN:=Q7 (W:=W) (CC:=CC) (P:=P) kM.cl kM.n_wide kM.n_high kM.n_step kM.n_before kM.m_begin tO
 have J4:=PH (W:=W) (CC:=CC) (P:=P) kM.cl kM.n_wide kM.n_high kM.n_step kM.n_before kM.m_about
 have vM:=GI (W:=W) (CC:=CC) (P:=P) T.bn kM.cl kM.n_wide kM.n_high kM.n_before T.g_FARTHEST T.g_SIDE kM.m_can_move
 have JX:=Rl (W:=W) (CC:=CC) (P:=P) kM.cl kM.n_before kM.m_moved vM nQ
 have Fy:=JP (W:=W) (CC:=CC) (P:=P) kM.cl kM.n_wide kM.n_high kM.n_before TP.cl TP.n_points kM.m_picture
 have GK:=N6 (W:=W) (CC:=CC) (P:=P) T.bn kM.cl kM.n_before kM.m_search vM pC
 have NV:=Us (W:=W) (CC:=CC) (P:=P) T.bn kM.cl kM.n_wide kM.n_high kM.n_before TP.cl TP.n_points kM.m_show
 have rC:=uB (W:=W) T.bn (Q8 T.bn) T.g_STEPS T.d_columns_backward mE l9
 have v5:=G1 (W:=W) T.d_backward rC ui
 have Bb:=E8 (W:=W) (BR:=BR) AJ.cl AJ.n_bits AJ.n_place AJ.mk_ CU
 have lJ:=m_take_bit (W:=W) (BR:=BR) (R:=R) T.bn AJ.cl AJ.n_bits AJ.n_place hR AJ.m_take_bit
 have ly:=m_take_number (W:=W) (BR:=BR) (R:=R) T.bn AJ.cl hR T.g_MOST_ZEROS AJ.m_take_number lJ
 have yh:=m_take_signed (W:=W) (BR:=BR) (R:=R) AJ.cl AJ.m_take_signed ly
 have HN:=m_finish (W:=W) (BR:=BR) (R:=R) T.bn AJ.cl AJ.n_bits AJ.n_place hR AJ.m_finish
 have yj:=Bo (W:=W) (BR:=BR) (R:=R) T.bn AJ.cl hR T.g_FARTHEST T.d_read_vector yh
 have zG:=DL (W:=W) (BR:=BR) (R:=R) T.bn AJ.cl hR T.g_GREATEST T.d_read_block lJ ly
 have vR:=yc (W:=W) (BR:=BR) (R:=R) AJ.cl T.g_CORNERS T.d_read_leftover lJ zG
 have nR:=AB (W:=W) T.bn T.g_SIDE T.g_CORNERS T.d_shown_square Ig tf v5
 have Hz:=Nz (W:=W) (P:=P) (S:=S) (C:=C) T.bn TS.cl TS.n_before TS.n_step T.g_AS_BEFORE T.g_MOVED T.d_way_of QS lx pC yz lC sR nR wg Dk
 have wX:=Ah (W:=W) (P:=P) (S:=S) (C:=C) T.bn TC.cl TC.n_cost T.d_cheapest_way Ag Hz
 have M7:=Ts (W:=W) (P:=P) (S:=S) (C:=C) T.bn TP.cl TP.n_wide TP.n_high TS.cl TS.n_before TS.n_shown TC.cl TC.n_square TC.n_bits TC.n_vector T.g_SIDE T.d_tell mX wX qX qN
 have sQ:=vn (W:=W) T.d_answer_backward v5
 have LR:=S2 (W:=W) (CC:=CC) (P:=P) (S:=S) T.bn kM.cl kM.n_wide kM.n_high kM.n_step kM.n_before TS.cl TS.n_shown T.g_MOST_BYTES kM.m_code B5 M7 GN oE
 have m9:=oZ (W:=W) T.d_answer_without_codec uA sQ vc uS vB
 have yb:=Bi (W:=W) (BR:=BR) (R:=R) (P:=P) (S:=S) AJ.cl hR TP.cl TS.cl TS.n_step TS.n_shown T.g_AS_BEFORE T.g_MOVED T.d_read_square ly Ag yj lC vR nR qN
 have w9:=Ai (W:=W) (BR:=BR) (R:=R) (P:=P) (S:=S) T.bn AJ.cl hR TS.cl TS.n_shown T.g_SIDE T.d_read_picture Bb B5 lJ yb HN
 have N9:=Ug (W:=W) (CC:=CC) (P:=P) (BR:=BR) (R:=R) kM.cl kM.n_wide kM.n_high kM.n_step kM.n_before hR kM.m_read w9 oE
 have sM:=vL (W:=W) (CC:=CC) (P:=P) kM.cl T.d_answer_of_codec KN LR N9 Fy NV GK JX J4
 have EU:=Kh (W:=W) (CC:=CC) (P:=P) T.bn T.g_SHAPES T.g_FIRST_WITHOUT_CODEC T.d_answers Kd sM m9
 exact EU
theorem Qp {W:dg} (T:Tx1 W) (hP:∃a,ZY W a) (hS:∃a,ZA W a) (hC:∃a,TxC W a) (hCC:∃a,TF W a) (hB:∃a,S7 W a) (hR:∃a,xb W a):ax W "answers" 11 JJ:=by
 obtain⟨_,TP⟩:=hP
 obtain⟨_,TS⟩:=hS
 obtain⟨_,TC⟩:=hC
 obtain⟨_,kM⟩:=hCC
 obtain⟨_,AJ⟩:=hB
 obtain⟨_,TR⟩:=hR
 exact TH T TP TS TC kM AJ TR
section
variable {P:bR} {w:du} {K:ag} {mg:Str->Option Value} {base h:Heap} {x qual m:Str} {st:Stmt} {ps:List Str} {f C:Addr} {oc kV doc pm mw ct:Value} {od an:Option Addr} {He:Array (Option Value)}
theorem Ub (X:K.In h) (G:h.Ns bS mg) (a:dA K bS x=some (some (.ref f))) (l:K.lookup f=some ⟨oc,od,.func (eX x qual (kI st) (fo st) (bQ st) .none kV doc pm an mw ct),He⟩) (c:jO K mw qual=true) (k:cT K (.ref f)=true)
  (b:∀(kV doc pm:Value) (an:Option Addr) (mw ct:Value) (us:List Value),us.length=ps.length->Gd (eX x qual (kI st) (fo st) (bQ st) .none kV doc pm an mw ct) ⟨us,[]⟩=pure (ps.zip us)):dC ⟨P,w,K,mg,base⟩ x qual st ps:=
 have F:=GJ (st:=st) l c k
 ⟨f,_,F,sZ X G a,F.binds b⟩
theorem Mr (X:K.In h) (G:h.Ns bS mg) (aC:dA K bS x=some (some (.ref C))) (mk:xV K C=true) (kc:cT K (.ref C)=true) (a:er K (.ref C) "__init__"=some (some (.ref f))) (i:ou K (.ref f)=true)
  (l:K.lookup f=some ⟨oc,od,.func (eX "__init__" qual (kI st) (fo st) (bQ st) .none kV doc pm an mw ct),He⟩) (c:jO K mw qual=true) (k:cT K (.ref f)=true)
  (b:∀(kV doc pm:Value) (an:Option Addr) (mw ct:Value) (us:List Value),us.length=ps.length->Gd (eX "__init__" qual (kI st) (fo st) (bQ st) .none kV doc pm an mw ct) ⟨us,[]⟩=pure (ps.zip us)):pK ⟨P,w,K,mg,base⟩ x C qual st ps:=
 have F:=GJ (st:=st) l c k
 ⟨f,_,F,⟨mk,a,i,kc⟩,sZ X G aC,F.binds b⟩
theorem Rv (a:er K (.ref C) m=some (some (.ref f))) (i:ou K (.ref f)=true) (l:K.lookup f=some ⟨oc,od,.func (eX m qual (kI st) (fo st) (bQ st) .none kV doc pm an mw ct),He⟩) (c:jO K mw qual=true) (k:cT K (.ref f)=true)
  (b:∀(kV doc pm:Value) (an:Option Addr) (mw ct:Value) (us:List Value),us.length=ps.length->Gd (eX m qual (kI st) (fo st) (bQ st) .none kV doc pm an mw ct) ⟨us,[]⟩=pure (ps.zip us)):jH ⟨P,w,K,mg,base⟩ C m qual st ps:=
 have F:=GJ (st:=st) l c k
 ⟨f,_,F,⟨a,i,k⟩,F.binds b⟩
mutual
inductive Qu (K:ag):D->Value->Prop where
 |int {i:Int} {t:Tok}:Qu K (.int i) (.int i t)
 |tup {a:Addr} {ds:List D} {bW:Array Value} {n:Nat} {od:Option Addr} {He:Array (Option Value)}:K.lookup a=some ⟨.type "tuple",od,.seq bW n,He⟩->bW.size<=sizeLine->Bu K ds bW.toList->Qu K (.tup ds) (.ref a)
inductive Bu (K:ag):List D->List Value->Prop where
 |nil:Bu K [] []
 |cons {d:D} {ds:List D} {u:Value} {us:List Value}:Qu K d u->Bu K ds us->Bu K (d::ds) (u::us)
end
mutual
theorem Qu.rep:∀{d:D} {u:Value},Qu K d u->∃v,dQ v u/\∀F,sP K F d v
 |_,_,.int (i:=i) (t:=t)=>⟨.int i,⟨t,rfl⟩,λ_=>rfl⟩
 |_,_,.tup (a:=a) l z h=>let ⟨vs,h1,h2⟩:=Bu.rep h;⟨.ref a,rfl,λF=>⟨a,vs,rfl,.inr ⟨_,_,_,l,rfl,rfl,z,h1⟩,h2 F⟩⟩
theorem Bu.rep:∀{ds:List D} {us:List Value},Bu K ds us->∃vs,b8 vs us/\∀F,cg K F ds vs
 |_,_,.nil=>⟨[],.nil,λ_=>rfl⟩
 |_,_,.cons h t=>let ⟨v,h1,h2⟩:=Qu.rep h;let ⟨vs,h3,h4⟩:=Bu.rep t;⟨v::vs,.cons h1 h3,λF=>⟨v,vs,rfl,h2 F,h4 F⟩⟩
end
theorem R5 {d:D} {u:Value} (X:K.In h) (G:h.Ns bS mg) (a:dA K bS x=some (some u)) (r:Qu K d u):Gv ⟨P,w,K,mg,base⟩ x d:=
 let ⟨v,h1,h2⟩:=r.rep
 ⟨v,u,sZ X G a,h1,h2⟩
theorem TL {i:Int} {t:Tok} (X:K.In h) (G:h.Ns bS mg) (a:dA K bS x=some (some (.int i t))):Gv ⟨P,w,K,mg,base⟩ x (.int i):=R5 X G a .int
theorem WM (X:K.In h) (G:h.Ns bS mg) (a1:dA K bS "len"=some none) (a2:dA K bS "range"=some none) (a3:dA K bS "zip"=some none) (a4:dA K bS "min"=some none) (a5:dA K bS "max"=some none)
  (a6:dA K bS "abs"=some none) (a7:dA K bS "sum"=some none) (a8:dA K bS "any"=some none) (a9:dA K bS "list"=some none) (a10:dA K bS "reversed"=some none):Bn ⟨P,w,K,mg,base⟩:=
 ⟨dm X G a1,dm X G a2,dm X G a3,dm X G a4,dm X G a5,dm X G a6,dm X G a7,dm X G a8,dm X G a9,dm X G a10⟩
theorem Qa {bmB:List Value} {newId:String} (X:K.In h) (q:A9 K C bmB newId=true) (hm:mg x=some (.ref C)):A7 x C bmB newId mg h:=by
 refine⟨hm,?_⟩
 unfold A9 at q
 split at q
 case h_2=>cases q
 rename_i d1 cl1 s1 look
 split at q
 case h_2=>cases q
 rename_i C1 tl j0 j1 j2 j3 nid j5 Wy YC
 simp only[aH,beq_iff_eq,nz]at q
 obtain⟨⟨⟨⟨⟨q1,q2⟩,q3⟩,q4⟩,q5⟩,q6⟩:=q
 subst q1
 subst q2
 obtain⟨cnm,cbs,adE,cns,cqn,chd,csn,YO,cab,aac,ad7⟩:=cl1
 dsimp only at Wy q3 q5 q6
 subst Wy
 subst q3
 obtain⟨lst⟩:=s1
 simp only at YC
 subst YC
 exact⟨tl,cns,cnm,cqn,cbs,chd,csn,YO,cab,aac,d1,j0,j1,j2,j3,j5,_,X _ _ look,.of_isNs (PySem.W.isNs_of_in X q5),PySem.W.nsMap_none_of_in X q5 q6,PySem.W.tail_of_in X q4⟩
theorem U2 {R:Addr} (X:K.In h) (G:h.Ns bS mg) (KB:K.In base) (a:dA K bS "Refused"=some (some (.ref R))) (q:A9 K R YD "ValueError.__new__"=true):xb ⟨P,w,K,mg,base⟩ R:=⟨Qa KB q (sZ X G a)⟩
end
theorem bc {P:List PySem.Value->Prop} {n:Nat} (h:∀a us,us.length=n->P (a::us)):∀us,us.length=n+1->P us
 |[],e=>by cases e
 |a::us,e=>h a us (Nat.succ.inj e)
theorem bn {P:List PySem.Value->Prop} (h:P []):∀us,us.length=0->P us
 |[],_=>h
end G
open PySem PySem.W PyProof.Rows
local macro_rules | `(tactic| walk_at "bd") => `(tactic| (intro _ _ _ _ _ _; (repeat (refine G.bc ?_; intro _)); exact G.bn rfl))
local macro_rules | `(tactic| walk_at "kr") => `(tactic| first | exact G.Qu.int | ((refine' G.Qu.tup ?kl ?kz ?kh); (case kl => k_is); (case kz => (rw [PySem.sizeLine_eq]; decide)); (case kh => walk_at "krs")))
local macro_rules | `(tactic| walk_at "krs") => `(tactic| first | exact G.Bu.nil | ((refine' G.Bu.cons ?k1 ?k2); (case k1 => walk_at "kr"); (case k2 => walk_at "krs")))
local macro_rules | `(tactic| walk_at "kf") => `(tactic| first
  | ((refine' G.Ub ?x ?g ?a ?l ?c ?k ?b); (case x => assumption); (case g => assumption); (case a => k_is); (case l => k_is); (case c => k_is); (case k => k_is); (case b => walk_at "bd"))
  | ((refine' G.Mr ?x ?g ?a ?m ?n ?i ?j ?l ?c ?k ?b); (case x => assumption); (case g => assumption); (case a => k_is); (case m => k_is); (case n => k_is); (case i => k_is); (case j => k_is); (case l => k_is); (case c => k_is); (case k => k_is); (case b => walk_at "bd"))
  | ((refine' G.Rv ?a ?i ?l ?c ?k ?b); (case a => k_is); (case i => k_is); (case l => k_is); (case c => k_is); (case k => k_is); (case b => walk_at "bd"))
  | ((refine' G.TL ?x ?g ?a); (case x => assumption); (case g => assumption); (case a => k_is))
  | ((refine' G.R5 ?x ?g ?a ?r); (case x => assumption); (case g => assumption); (case a => k_is); (case r => walk_at "kr"))
  | ((refine' L2.iS.mk ?a ?b ?c ?d) <;> (dsimp only; k_is))
  | (unfold L2.aM; dsimp only; k_is)
  | ((refine' G.WM ?x ?g ?a1 ?a2 ?a3 ?a4 ?a5 ?a6 ?a7 ?a8 ?a9 ?b0); (case x => assumption); (case g => assumption); all_goals k_is))
local macro_rules | `(tactic| walk_at "kt") => `(tactic| (constructor <;> walk_at "kf"))
section
variable (w:World) (mg:Str->Option Value) (h:Heap) (KX:(Hd.K w.params).In h) (G0:h.Ns mainGlobals mg) (base:Heap) (KB:(Hd.K w.params).In base)
include KX G0
set_option maxHeartbeats 0
theorem Hd.f1 : G.Tx1 ⟨PySem.Challenge.rw_greyreel_s01_answers.prog,w,Hd.K w.params,mg,base⟩ := by
  k_fillS
  constructor <;> walk_at "kf"
theorem Hd.f2 : ∃a,G.ZY ⟨PySem.Challenge.rw_greyreel_s01_answers.prog,w,Hd.K w.params,mg,base⟩ a := by
  k_fillS
  refine' Exists.intro _ (G.ZY.mk ?p0 ?p1 ?p2 ?p3 ?p4)
  (case p0 => walk_at "kf")
  (case p1 => walk_at "kf")
  (case p2 => walk_at "kf")
  (case p3 => walk_at "kf")
  (case p4 => walk_at "kf")
theorem Hd.f3 : ∃a,G.ZA ⟨PySem.Challenge.rw_greyreel_s01_answers.prog,w,Hd.K w.params,mg,base⟩ a := by
  k_fillS
  refine' Exists.intro _ (G.ZA.mk ?p0 ?p1 ?p2 ?p3 ?p4)
  (case p0 => walk_at "kf")
  (case p1 => walk_at "kf")
  (case p2 => walk_at "kf")
  (case p3 => walk_at "kf")
  (case p4 => walk_at "kf")
theorem Hd.f4 : ∃a,G.TxC ⟨PySem.Challenge.rw_greyreel_s01_answers.prog,w,Hd.K w.params,mg,base⟩ a := by
  k_fillS
  refine' Exists.intro _ (G.TxC.mk ?p0 ?p1 ?p2 ?p3 ?p4 ?p5)
  (case p0 => walk_at "kf")
  (case p1 => walk_at "kf")
  (case p2 => walk_at "kf")
  (case p3 => walk_at "kf")
  (case p4 => walk_at "kf")
  (case p5 => walk_at "kf")
theorem Hd.f5 : ∃a,G.TF ⟨PySem.Challenge.rw_greyreel_s01_answers.prog,w,Hd.K w.params,mg,base⟩ a := by
  k_fillS
  refine' Exists.intro _ (G.TF.mk ?p0 ?p1 ?p2 ?p3 ?p4 ?p5 ?p6 ?p7 ?p8 ?p9 ?p10 ?p11 ?p12 ?p13 ?p14)
  (case p0 => walk_at "kf")
  (case p1 => walk_at "kf")
  (case p2 => walk_at "kf")
  (case p3 => walk_at "kf")
  (case p4 => walk_at "kf")
  (case p5 => walk_at "kf")
  (case p6 => walk_at "kf")
  (case p7 => walk_at "kf")
  (case p8 => walk_at "kf")
  (case p9 => walk_at "kf")
  (case p10 => walk_at "kf")
  (case p11 => walk_at "kf")
  (case p12 => walk_at "kf")
  (case p13 => walk_at "kf")
  (case p14 => walk_at "kf")
theorem Hd.f6 : ∃a,G.S7 ⟨PySem.Challenge.rw_greyreel_s01_answers.prog,w,Hd.K w.params,mg,base⟩ a := by
  k_fillS
  refine' Exists.intro _ (G.S7.mk ?p0 ?p1 ?p2 ?p3 ?p4 ?p5 ?p6 ?p7)
  (case p0 => walk_at "kf")
  (case p1 => walk_at "kf")
  (case p2 => walk_at "kf")
  (case p3 => walk_at "kf")
  (case p4 => walk_at "kf")
  (case p5 => walk_at "kf")
  (case p6 => walk_at "kf")
  (case p7 => walk_at "kf")
include KB
theorem Hd.f7 : ∃a,G.xb ⟨PySem.Challenge.rw_greyreel_s01_answers.prog,w,Hd.K w.params,mg,base⟩ a := by
  k_fillS
  refine' Exists.intro _ (G.U2 KX G0 KB ?r1 ?r2)
  (case r1 => k_is)
  (case r2 => kernel_rfl)
end
set_option maxHeartbeats 0 in
theorem PySem.Challenge.cw_greyreel_s01_answers_holds : PySem.Challenge.rw_greyreel_s01_answers.Holds := by
  w_on
  refine holds_os (q:=Hd.vw) (loose:=[]) (Xt:=Hd.Xt Hd.vw) (XP:=XL Hd.vw []) (Yf:=Hook.obs (kHook Hd.K Hd.asL Hd.eK)) (Ya:=Hook.val (kHook Hd.K Hd.asL Hd.eK))
    (YP:=Hook.says (kHook Hd.K Hd.asL Hd.eK)) (N:=8834) Hd.lO (Hook.of _) (Hook.keeps _)
    (λs e=>xl_of s (Bool.and_eq_true_iff.mp e).1) XL.keeps (by rfl) (by rfl) (by rfl)
    (λs e=>recFacts_of (Bool.and_eq_true_iff.mp e).2) os_shapes Hd.ws (by decide +kernel)
    Hd.br ⟨[.list []],by decide +kernel,by decide +kernel⟩ ?hc
  k_fillS
  refine G.WO Hd.ws rfl rfl (λw h Y => PySem.W.kIn_of Y) λw mg h X Y b B _=>G.Qp (Hd.f1 w mg h X Y b) (Hd.f2 w mg h X Y b) (Hd.f3 w mg h X Y b) (Hd.f4 w mg h X Y b) (Hd.f5 w mg h X Y b) (Hd.f6 w mg h X Y b) (Hd.f7 w mg h X Y b B)
