import PyProof.Rows.All
import Wide.All
import OpenK.AllK
import Wide.FinOn
import PyProof.EqAt
import PyProof.EqKinds
import PyProof.TupleCall
import KE.BitLaws
import Open.SpecLaws
import KE.OsHead
import KE.OsGo
import PyProof.ExcBaseAll.Exception
import PySem.Challenge.RW_fardisk_s01_answers
set_option Elab.async false
set_option linter.all false
set_option genSizeOf false
set_option maxRecDepth 100000
set_option maxHeartbeats 4000000
open Array renaming length_toList->yE,getElem?_eq_none->LZ,append_assoc->SI
open Bool renaming false_ne_true->bJ,and_eq_true->cz,noConfusion->eU,false_or->gc,or_eq_false_iff->iD,or_eq_true->ky,false_eq_true->mD,decide_or->nH,eq_iff_iff->pJ,or_false->sO,false_and->w9,true_and->Ki,true_or->M7,and_eq_false_iff->O9,and_eq_true_iff->Pq,not_eq_true'->Vu
open Int renaming toNat_natCast->DF,fdiv_eq_ediv_of_nonneg->J0
open Int.ofNat renaming inj->nE
open List renaming mem_cons->ak,not_mem_nil->ao,length_append->az,getElem?_eq_some_iff->aE,length_map->aK,length_cons->aN,mem_singleton->aO,replicate->aQ,getElem?_eq_getElem->aX,length_take->bf,mem_cons_of_mem->bo,map_cons->bp,length_set->br,getElem?_map->bz,getElem?_set->bC,size_toArray->bG,mem_cons_self->bI,getD_eq_getElem?_getD->bK,length_nil->bN,map_append->bW,nil_append->cx,take_of_length_le->cA,mem_map->cG,length_drop->cO,cons_append->cP,nodup_cons->cU,map_map->cY,mem_append->du,find?_cons->dv,all_eq_true->dI,length_replicate->dQ,append_assoc->dW,getElem?_take_of_lt->d7,pairwise_cons->d8,append_nil->eT,any_cons->fg,flatten_cons->fi,getElem?_append_left->ft,mem_of_find?_eq_some->fw,mem_append_right->fM,ext_getElem?->fO,take_add_one->fP,getElem?_append_right->fX,drop_of_length_le->gg,map_congr_left->gr,getElem?_eq_none->gz,take_length->gJ,drop_drop->gX,length->hU,drop_eq_getElem_cons->ib,mem_of_getElem?->iC,length_range->iK,foldl_cons->iU,filterMap_cons->iY,filter_cons->i8,mem_of_mem_drop->jy,replicate_succ->jN,filter_eq_self->jO,lookup_cons->jP,length_eq_zero_iff->jT,find?_eq_none->kl,find?_some->kz,drop_length->lJ,mem_or_eq_of_mem_set->lQ,lookup->mG,getElem?_replicate->mH,any_map->nB,nodup_nil->nG,sum_cons->oX,mem_of_mem_take->o5,getElem?_range->pQ,takeWhile_cons->pS,getElem?_drop->qM,take_take->qN,drop_left->qO,foldl_append->si,map_take->sQ,map_drop->sR,all_toArray->s_,getElem_mem->tj,getElem?_set_self->uX,drop_eq_nil_of_le->uZ,mem_append_left->wZ,getElem?_set_ne->w8,length_pos_iff->yN,findSome?_cons->yO,drop_succ_cons->yP,flatten_append->yQ,all_cons->zL,range->Am,mem_filterMap->An,foldl->Ao,take_sublist->Bv,map_nil->Bw,all_map->By,nodup_append->BA,of_mem_zip->FQ,filter_map->FT,mem_range->Hu,drop_zero->Hx,drop_take->Hy,Pairwise->Kh,getElem?_cons_zero->L0,map_set->M_,length_filter_le->O8,take_append_drop->O_,contains_iff_mem->Pa,getElem?_append->Pu,set->Pw,map_id->Px,take_succ_cons->SK,toList_toArray->SM,filter_sublist->SU,any_eq_false->Vr,find?_append->Vv,getElem_inj->Wj,any_eq_true->Wl
open List.Pairwise renaming nil->fC
open List.Perm renaming refl->SS,nil->To
open List.cons renaming inj->we
open Nat renaming le_refl->bw,zero_le->bQ,lt_of_lt_of_le->cB,ne_of_lt->cE,le_trans->cZ,min_eq_left->dM,lt_irrefl->gW,min_eq_right->jb,mod_lt->lC,le_of_not_lt->oZ,testBit_xor->pR,zero_add->qD,add_zero->qE,toDigits->qF,mod_two_eq_zero_or_one->rn,le_of_succ_le->sP,ne_of_gt->vk,le_of_eq->vo,eq_of_testBit_eq->yG,testBit_two_pow->zM,xor_lt_two_pow->A6,lt_succ_of_lt->DG,lt_trans->DH,lt_succ_self->EM,one_mul->FR,div_add_mod->Hr,digitChar->L1,toDigits_of_lt_base->M9,add_sub_cancel_left->Na,le_of_lt->O4,add_comm->O6,mul_comm->O7,add_mul->SO,mul_le_mul_right->SQ,testBit_div_two->Ti,div_mul_le_self->Tj,lt_of_le_of_lt->Vs
open Ne renaming symm->aL
open Option renaming isNone->rE,none->DK,isSome_iff_exists->Hv,isSome_some->Po,getD_none->Th
open Option.some renaming inj->af
open Or renaming inl->Wk
open Prod.mk renaming inj->di
open PyFlat renaming calls->ju,played->lV,told->rA,call->DM
open PyProof.Rows renaming callWith_type1->j3,envOfC->i6
open PyQl73 renaming whole->cI,shape->gf,answers->kX,answers_asked->wg
open PySem renaming mem_of_lookup->cN,boot_len->wX,Within->LY,evalArgs_none->Pp,Addr->aB,sizeLine->aH,Value->aM,Shared->bq,starEach->bE,Str->bL,wpAny_bind->bR,wpAny->b8,model->cg,Program->cq,wpAny_pure->dc,World->dH,mainGlobals->dX,Heap->gD,compareOp->gN,wpAny_mono->ip,sysModules->iX,Expr->jx,backTo->ku,Around->lE,Stmt->lR,FuncData->mz,Obj->mU,keywordEach->pH,Scope->ql,backToKw->yJ,DictEntry->yR,Env->J3,callWith->J4,Pos->Nd,Tok->SV,Sem->acL
open PySem.Builtin renaming bitAnd->cj,bitOr->rm,bitXor->vm
open PySem.Builtin.Dict renaming updateFrom->DI
open PySem.Builtin.List renaming listTooLong->kW
open PySem.Builtin.Str renaming strKind->gd,occurrences->qG,strKind->w_,partsBetween->DJ
open PySem.Challenge renaming pw_fardisk_s01_answers->rB,rw_fardisk_s01_answers->rC
open PySem.F renaming plainAttrs_list->dg,slot_list_extend->gx,type_list_extend->gy,slot_dict_get->nD,slot_list_append->rp,type_list_append->rq,plainAttrs_dict->sg,slot_list_index->Hw,entry_dict_get->J2,slot_dict_pop->Kf,type_dict_get->Kg
open PySem.Heap renaming get?_push_of_some->bx,lt_size->bF,get?_push_size->cv,size_push->gB,SameBut->Bu,FlyingW->Bx,get?_update_other->M6
open PySem.Heap.DictOf renaming new->M8
open PySem.P renaming truthy_int->O5
open PySem.PassesOwn renaming never->d9,leaving->Nb
open PySem.SeqAt renaming shaped->pP,canLay_of_shaped->L3
open PySem.SeqAt.EqAt renaming int_str->Kb,str_int->Kc
open PySem.Str renaming ofString->ay
open PySem.Value renaming ref->dZ,int->qk,type->qC,none->zJ,str->DB,bool->Hq
open PySem.Value.type renaming inj->Pt
open PySem.W renaming Frag->aq,fnOf->fk,findIn->gw,emptyDict->gO,keepIn->gP,instObj->jj,mg_of->jw,hideAll_get->lB,codeIn->mI,nsIn->pG,plainGet->sf,isFn->sX,lookIn->vn,plainGet_of->wV,callWith_K0->wW,callWith_K->yF,hasDictIn->zK,hideAll->DC,takerIn->DD,makesIn->DE,length_le_weightAllW->DL,cellsFrom_some->J1,methodCall_KW->Ke,of_hideAll->O3,plainOver->Pn,handedIn->SJ,WRecords->SN,WalkOS->Vt,excIn->Wm
open Ql73 renaming ascii->ag,field->ax,part->aD,Session->aJ,bytes->aY,header->cw,names->dP,sense->dT,St->eC,decimal->eE,gives->fA,REJECT->fJ,fault->fY,isLine->fZ,only->gh,goes->gA,perform->gE,work->gK,feed->gZ,YES->ie,loginAnswer->il,isDigit->iy,without->iz,framed->iE,ends->iL,goOn->iM,line->i9,again->jE,Done->jQ,Disk->jR,read->jS,digest->ke,number->kg,login->k9,counted->lK,command->lL,write->mE,NONE->mJ,finish->mK,spec->mL,rejects->nF,isKey->oM,BLOCKS->o6,says->qH,padded->sj,tells->uY,crc->xa,pieces->xc,W->xd,Ans->xf,NO->yH,Call->yI,Task_->Ap,fresh->Aq,INQUIRY->Bz,key->BC,LONGEST->BD,data->DP,ROOM->DQ,begun->Hz,NAME->L5,keys->L6,Refused->Nc,BLOCK->Tn,IN->Vw
open Ql73.Rest renaming of->cF
open Ql73.St renaming line->sY
open Ql73Neutral renaming nats->dD,step->iO,asked1->jF,natural->kO,callOf->o3,most->qI,begins->vp,asked->Kj,long->L7,S->Py
open Sum renaming inr->bY,inl->eQ
open Sum.inl renaming inj->qK
open Sum.inr renaming inj->qL
local macro_rules | `(tactic| exists $a,*) => `(tactic| refine ⟨$a,*, ?_⟩)
local macro_rules | `(tactic| nomatch $a,*) => `(tactic| refine ⟨$a,*⟩)
namespace L2
open PySem PySem.Spec PyProof.Rows
abbrev Key:=Sum Int bL
def tm:Key->aM->Bool
 | .inl k,v=>Value.isInt k v
 | .inr x,v=>Value.isStrOf x v
def acM(w:dH):Key->Int
 | .inl k=>hashInt k
 | .inr x=>hashStr w x
theorem iQ:∀{k:Key}{v:aM},tm k v=true->(∃i t,k=eQ i/\v=qk i t)\/(∃x t,k=bY x/\v=DB x t)
 | .inl i,v,h=>by obtain⟨t,e⟩:=Value.isInt_shape (k:=i) (v:=v) h;exact .inl ⟨i,t,rfl,e⟩
 | .inr x,v,h=>by obtain⟨t,e⟩:=Value.isStrOf_shape (x:=x) (v:=v) h;exact .inr ⟨x,t,rfl,e⟩
def Nf(i:Int)(t:SV):tm (.inl i) (.int i t)=true:=by simp[tm,Value.isInt]
def yS(x:bL)(t:SV):tm (.inr x) (.str x t)=true:=by simp[tm,Value.isStrOf]
def Wn(a b:Int):decide ((eQ a:Key)=eQ b)=(a==b):=by
 by_cases e:a=b
 .subst e;simp
 .have h:¬(eQ a:Key)=eQ b:=λq=>e (qK q);rw[decide_eq_false h];exact(beq_eq_false_iff_ne.mpr e).symm
def Wo(a b:bL):decide ((bY a:Key)=bY b)=decide (a=b):=by
 by_cases e:a=b
 .subst e;simp
 .have h:¬(bY a:Key)=bY b:=λq=>e (qL q);rw[decide_eq_false h,decide_eq_false e]
def Wq(a:Int)(b:bL):decide ((eQ a:Key)=bY b)=false:=decide_eq_false (λq=>nomatch q)
def Ws(a:bL)(b:Int):decide ((bY a:Key)=eQ b)=false:=decide_eq_false (λq=>nomatch q)
def hW(prog:cq)(w:dH):PySem.KeyKind prog w Key where
 is:=tm
 hash:=acM w
 inj:=λv a b ha hb=>by
  rcases iQ ha with⟨i,t,rfl,rfl⟩|⟨x,t,rfl,rfl⟩
  .rcases iQ hb with⟨j,u,rfl,e⟩|⟨y,u,rfl,e⟩
   .injection e with e1 _;rw[e1]
   .exact nomatch e
  .rcases iQ hb with⟨j,u,rfl,e⟩|⟨y,u,rfl,e⟩
   .exact nomatch e
   .injection e with e1 _;rw[e1]
 byValue:=λk v h=>by
  rcases iQ h with⟨i,t,rfl,rfl⟩|⟨x,t,rfl,rfl⟩<;>rfl
 pyHash:=λhv h=>by
  rcases iQ hv with⟨i,t,rfl,rfl⟩|⟨x,t,rfl,rfl⟩
  .exact wpAny_pyHash_int h
  .exact wpAny_pyHash_str h
 eqBool:=λhu hv h=>by
  rcases iQ hu with⟨i,t,rfl,rfl⟩|⟨x,t,rfl,rfl⟩
  .rcases iQ hv with⟨j,u,rfl,rfl⟩|⟨y,u,rfl,rfl⟩
   .rw[Wn]at h;exact wpAny_eqBool_int h
   .rw[Wq]at h;exact Kb i t y u _ _ _ _ h
  .rcases iQ hv with⟨j,u,rfl,rfl⟩|⟨y,u,rfl,rfl⟩
   .rw[Ws]at h;exact Kc x t j u _ _ _ _ h
   .rw[Wo]at h;exact wpAny_eqBool_str h
 «strs»:=λk x t v h=>by
  rcases iQ h with⟨i,u,rfl,e⟩|⟨y,u,rfl,e⟩
  .exact nomatch e
  .injection e with e1 _
   subst e1
   cases v<;>rfl
def HA(prog:cq)(w:dH)(i:Int)(t:SV):(hW prog w).is (.inl i) (.int i t)=true:=Nf i t
def HB(prog:cq)(w:dH)(x:bL)(t:SV):(hW prog w).is (.inr x) (.str x t)=true:=yS x t
inductive V where
 |eY|bl (b:Bool)|int (i:Int)|str (x:bL)|DS (b:Array UInt8)|Zw (b:UInt64)|ref (a:aB)|ty (n:String)
 deriving DecidableEq
def RelV:V->aM->Prop
 | .eY,u=>u=zJ
 | .bl b,u=>u=Hq b
 | .int i,u=>∃t,u=qk i t
 | .str x,u=>∃t,u=DB x t
 | .DS b,u=>∃t,u=Value.bytes b t
 | .Zw b,u=>∃t,u=Value.float b t
 | .ref a,u=>u=dZ a
 | .ty n,u=>u=qC n
abbrev Vals:List V->List aM->Prop:=Paired RelV
theorem Vals.length(r:Vals xs us):xs.length=us.length:=Paired.length r
theorem Vals.get:∀{xs:List V}{us:List aM}{i:Nat}{x:V},Vals xs us->xs[i]? =some x->∃u,us[i]? =some u/\RelV x u
 |_,_,_,_,.nil,e=>by simp at e
 |_,_,0,_,.cons r _,e=>by simp at e;subst e;nomatch _,rfl,r
 |_,_,i+1,x,.cons _ t,e=>by obtain⟨u,h1,h2⟩:=Vals.get (i:=i) (x:=x) t (by simpa using e);nomatch u,by simpa using h1,h2
theorem Vals.set(r:RelV x u):∀{xs:List V}{us:List aM}(i:Nat),Vals xs us->Vals (xs.set i x) (us.set i u)
 |_,_,_,.nil=>.nil
 |_,_,0,.cons _ t=>.cons r t
 |_,_,i+1,.cons q t=>.cons q (Vals.set r i t)
theorem Vals.append:∀{xs ys:List V}{us ws:List aM},Vals xs us->Vals ys ws->Vals (xs++ys) (us++ws)
 |_,_,_,_,.nil,s=>s
 |_,_,_,_,.cons r t,s=>.cons r (Vals.append t s)
theorem Vals.take:∀{xs:List V}{us:List aM}(n:Nat),Vals xs us->Vals (xs.take n) (us.take n)
 |_,_,0,_=>.nil
 |_,_,_+1,.nil=>.nil
 |_,_,n+1,.cons r t=>.cons r (Vals.take n t)
theorem Vals.drop:∀{xs:List V}{us:List aM}(n:Nat),Vals xs us->Vals (xs.drop n) (us.drop n)
 |_,_,0,r=>r
 |_,_,_+1,.nil=>.nil
 |_,_,n+1,.cons _ t=>Vals.drop n t
def tq:Option V->Option aM->Prop
 |some v,some u=>RelV v u
 |none,none=>True
 |_,_=>False
def KV{κ:Type}:List (κ×V)->List (κ×aM)->Prop:=Paired λ(p:κ×V)(q:κ×aM)=>p.1=q.1/\RelV p.2 q.2
def kV:Key->V
 | .inl i=>.int i
 | .inr x=>.str x
inductive HO where
 |lst(xs:List V)
 |tup(xs:List V)
 |dK(dh:List (Key×V))
 |ins(C dx:aB)(fs:List (bL×V))
 |own(x:aB)
 |gm(o:mU)(u:HO)
 |Wt(ps:Array aM)
abbrev Hp:=aB->Option HO
def upd(H:Hp)(a:aB)(o:HO):Hp:=λb=>if b=a then some o else H b
def ae:upd H a o a=some o:=by unfold upd;rw[if_pos rfl]
def aG(h:b≠a):upd H a o b=H b:=by unfold upd;rw[if_neg h]
def bS:upd (upd H a o) a u=upd H a u:=by funext b;unfold upd;split<;>rfl
def bV{H:Hp}{a b:aB}{o u:HO}(h:H a=some o)(h':H b=some u)(d:o≠u):a≠b:=by intro e;subst e;rw[h]at h';exact d (af h')
def ai{H:Hp}{a b:aB}{o:HO}(h:H a=some o)(h':H b=none):a≠b:=by intro e;subst e;rw[h]at h';cases h'
section
variable(P:cq)(w:dH)
def jG(H:Hp)(h:gD)(a:aB):HO->Prop
 | .lst xs=>xs.length<=aH/\∃(dj:List aM)(n:Nat),Vals xs dj/\h.get? a=some {cls:=.type "list",data:=.seq dj.toArray n}
 | .tup xs=>xs.length<=aH/\∃dj:List aM,Vals xs dj/\IsTup h a dj.toArray
 | .dK dh=>dh.length<=aH/\(a==iX)=false/\∃vs,KV dh vs/\h.DictOf (hW P w) a vs
 | .ins C dx fs=>H dx=some (.own a)/\fs.length<=1000/\dx≠a/\h.get? a=some (jj C dx)/\ ∃mA,h.Ns1 dx mA/\(∀f,tq (fs.lookup f) (mA f))/\LY mA (fs.map (·.1))
 | .own _=>∃o,h.get? a=some o
 | .gm o u=>h.get? a=some o/\jG H h a u
 | .Wt ps=>h.get? a=some {cls:=.none,data:=.fields ps}
def u7(H:Hp)(h:gD):Prop:=∀a o,H a=some o->jG P w H h a o
end
section
theorem jG.lt(x:jG P w H h a o):a<h.objs.size:=by
 cases o with
 |lst xs=>obtain⟨_,_,_,_,e⟩:=x;exact bF e
 |tup xs=>obtain⟨_,_,_,p⟩:=x;exact p.lt
 |dK dh=>obtain⟨_,_,_,_,o,_,_,e,_⟩:=x;exact bF e
 |ins C dx fs=>obtain⟨_,_,_,e,_⟩:=x;exact bF e
 |own y=>obtain⟨_,e⟩:=x;exact bF e
 |gm ob u=>obtain⟨e,_⟩:=x;exact bF e
 |Wt ps=>exact bF (show h.get? a=some _ from x)
def jG.yT(x:jG P w H h a o)(k:∀b u,(b=a\/H b=some (.own a))->h.get? b=some u->h'.get? b=some u) (ho:∀b,H b=some (.own a)->H' b=some (.own a)) (ht:∀b xs,H b=some (.tup xs)->H' b=some (.tup xs)):jG P w H' h' a o:=by
 induction o with
 |lst xs=>obtain⟨z,dj,n,r,e⟩:=x;nomatch z,dj,n,r,k _ _ (.inl rfl) e
 |tup xs=>obtain⟨z,dj,r,ob,e,c⟩:=x;nomatch z,dj,r,ob,k _ _ (.inl rfl) e,c
 |dK dh=>obtain⟨z,y,vs,r,ob,es,ep,e,c⟩:=x;nomatch z,y,vs,r,ob,es,ep,k _ _ (.inl rfl) e,c
 |ins C dx fs=>obtain⟨d,z,ne,e,mA,⟨od,es,ep,e2,c⟩,r⟩:=x;nomatch ho _ d,z,ne,k _ _ (.inl rfl) e,mA,⟨od,es,ep,k _ _ (.inr d) e2,c⟩,r
 |own y=>obtain⟨ob,e⟩:=x;nomatch ob,k _ _ (.inl rfl) e
 |gm ob u ih=>obtain⟨e,q⟩:=x;nomatch k _ _ (.inl rfl) e,ih q
 |Wt ps=>have e:h.get? a=some {cls:=.none,data:=.fields ps}:=x;show h'.get? a=some {cls:=.none,data:=.fields ps};exact k a _ (.inl rfl) e
theorem u7.lt(x:u7 P w H h)(e:H a=some o):a<h.objs.size:=(x a o e).lt
def u7.fresh(x:u7 P w H h)(e:h.objs.size<=a):H a=none:=by
 cases q:H a with
 |none=>rfl
 |some u=>exact absurd (cB (x.lt q) e) (gW _)
def u7.kept(x:u7 P w H h)(k:∀b u,h.get? b=some u->h'.get? b=some u):u7 P w H h':=λa o e=>(x a o e).yT (λb u _ q=>k b u q) (λ_ q=>q) λ_ _ q=>q
def u7.laid(x:u7 P w H h)(k:∀b u,h.get? b=some u->h'.get? b=some u)(hp:h.objs.size<=a)(new:jG P w (upd H a o) h' a o):u7 P w (upd H a o) h':=λb u e=>by
 have hn:=x.fresh hp;by_cases hb:b=a
 .subst hb;rw[ae]at e;cases e;exact new
 .rw[aG hb]at e;exact(x b u e).yT (λc v _ q=>k c v q) (λc q=>by rw[aG (ai q hn)];exact q) λc xs q=>by rw[aG (ai q hn)];exact q
end
def Rd(H:Hp)(a:aB)(u:HO):Prop:=H a=some u\/∃o,H a=some (.gm o u)
def Rd.ok(r:Rd H a u)(x:u7 P w H h):jG P w H h a u:=by
 rcases r with r|⟨o,r⟩
 .exact x a u r
 .obtain⟨_,q⟩:=x a _ r;exact q
def Vx:Option HO->Prop
 |some (.lst _)=>True
 |some (.dK _)=>True
 |some (.ins _ _ _)=>True
 |_=>False
section
def u7.write(ok:u7 P w H h)(mu:Vx (H x))(he:e=x\/H e=some (.own x))(k:∀b u,b≠e->h.get? b=some u->h'.get? b=some u)(YN:∃u,h'.get? e=some u) (new:jG P w (upd H x o') h' x o'):u7 P w (upd H x o') h':=λb u q=>by
 have Zx:∀c y,H c=some (.own y)->c≠x:=λc y r z=>by subst z;rw[r]at mu;exact mu
 have acN:∀c xs,H c=some (.tup xs)->c≠x:=λc xs r z=>by subst z;rw[r]at mu;exact mu
 by_cases hb:b=x
 .subst hb;rw[ae]at q;cases q;exact new
 .rw[aG hb]at q;by_cases Pb:b=e
  .have q':H b=some (.own x):=by
    rcases he with z|z
    .exact absurd (Pb.trans z) hb
    .rw[Pb];exact z
   rw[q]at q';cases q';obtain⟨v,hv⟩:=YN;nomatch v,by rw[Pb];exact hv
  .refine(ok b u q).yT (λc v hc r=>k c v ?_ r) (λc r=>by rw[aG (Zx c b r)];exact r) λc xs r=>by rw[aG (acN c xs r)];exact r
   rcases hc with rfl|hc
   .exact Pb
   .rintro rfl;rcases he with z|z
    .exact Zx c b hc z
    .rw[hc]at z;cases z;exact hb rfl
end
structure Un(fs ex:List aB)(H H':Hp)(h h':gD):Prop where
 keep:∀b o,h.get? b=some o->H b=none->b∉fs->b∉ex->h'.get? b=some o
 slot:∀b o,h.get? b=some o->H b=none->b∈fs->b∉ex->∃sl,h'.get? b=some {o with slots:=sl}
 free:∀b o,h.get? b=some o->H b=none->b∉ex->H' b=none
 there:∀b o,h.get? b=some o->b∉ex->∃o',h'.get? b=some o'
 xg:∀b xs,H b=some (.tup xs)->H' b=some (.tup xs)
 tD:∀b o u,H b=some (.gm o u)->H' b=some (.gm o u)
 xh:∀b ps,H b=some (.Wt ps)->∃more,H' b=some (.Wt (ps++more))
section
def Un.any(u:Un fs ex H H1 h h1)(q:h.get? b=some ob)(n:H b=none)(hx:b∉ex):∃sl,h1.get? b=some {ob with slots:=sl}:=by
 by_cases hb:b∈fs
 .exact u.slot b ob q n hb hx
 .nomatch ob.slots,u.keep b ob q n hb hx
def Un.kept(k:∀b u,h.get? b=some u->h'.get? b=some u):Un fs ex H H h h':=⟨λb ob q _ _ _=>k b ob q,λb ob q _ _ _=>⟨ob.slots,k b ob q⟩,λ_ _ _ n _=>n,λb ob q _=>⟨ob,k b ob q⟩,λ_ _ q=>q,λ_ _ _ q=>q,λ_ ps q=>⟨#[],by rw[q];simp⟩⟩
def Un.refl:Un fs ex H H h h:=Un.kept λ_ _ q=>q
def Un.laid(k:∀b u,h.get? b=some u->h'.get? b=some u)(hp:h.objs.size<=a)(hn:H a=none):Un fs ex H (upd H a o) h h' where
 keep:=λb u q _ _ _=>k b u q
 slot:=λb u q _ _ _=>⟨u.slots,k b u q⟩
 free:=λb u q n _=>by rw[aG (cE (cB (bF q) hp))];exact n
 there:=λb u q _=>⟨u,k b u q⟩
 xg:=λb xs q=>by rw[aG (ai q hn)];exact q
 tD:=λb u xs q=>by rw[aG (ai q hn)];exact q
 xh:=λb ps q=>⟨#[],by rw[aG (ai q hn),q];simp⟩
def Un.write(mu:Vx (H x))(he:e=x\/H e=some (.own x))(k:∀b u,b≠e->h.get? b=some u->h'.get? b=some u)(YN:∃u,h'.get? e=some u):Un fs ex H (upd H x o) h h':=by
 have hx:∀b,H b=none->b≠x:=λb n z=>by subst z;rw[n]at mu;exact mu
 have hb:∀b,H b=none->b≠e:=λb n z=>by
  subst z;rcases he with r|r
  .exact hx b n r
  .rw[n]at r;cases r
 have hm:∀b u,H b=some u->¬Vx (some u)->b≠x:=λb u q nm z=>by subst z;rw[q]at mu;exact nm mu
 nomatch λb u q n _ _=>k b u (hb b n) q,λb u q n _ _=>⟨u.slots,k b u (hb b n) q⟩,λb u q n _=>by rw[aG (hx b n)];exact n,λb u q _=>?_,
  λb xs q=>by rw[aG (hm b _ q λz=>z)];exact q,λb u xs q=>by rw[aG (hm b _ q λz=>z)];exact q,λb ps q=>⟨#[],by rw[aG (hm b _ q λz=>z),q];simp⟩
 by_cases Pb:b=e
 .subst Pb;exact YN
 .nomatch u,k b u Pb q
end
def trk(h:gD)(H:Hp):List aB:=(Am h.objs.size).filter λa=>(H a).isSome
def FU(h:gD)(H:Hp):gD:=DC h (trk h H)
def Ng(h:gD)(H:Hp):(FU h H).objs.size=h.objs.size:=PySem.W.hideAll_size _ _
def Pz(e:h.get? b=some o)(n:H b=none):(FU h H).get? b=some o:=lB _ e λhm=>by have q:(H b).isSome=true:=(List.mem_filter.mp hm).2;rw[n]at q;simp at q
def Tp(e:(FU h H).get? b=some o):h.get? b=some o/\H b=none:=by
 have e':h.get? b=some o:=O3 (trk h H) e;exists e';cases q:H b with
 |none=>rfl
 |some x=>have hm:b∈trk h H:=List.mem_filter.mpr ⟨Hu.mpr (bF e'),by simp[q]⟩;have z:(FU h H).get? b=none:=PySem.W.hideAll_none (trk h H) hm;rw[z]at e;cases e
structure Mod(K:aq)(mg:bL->Option aM)(base:gD):Prop where
 Zy:K.In base
 glob:base.Ns dX mg
 blt:∃mb,base.Ns builtinsNs mb/\∀x:bL,x≠"__name__"->mb x=bootBuiltins x
 nolimit:base.NoLimit
structure Cx where
 prog:cq
 w:dH
 K:aq
 mg:bL->Option aM
 base:gD
 A:lE
 N:List bL
 EN:bq
 Wu:Hp
 env:J3
 outer:List J3
 stack:List J3
 ex:List aB
 fn:bL->Bool
 calm:Bool
 pn:List (aB×mU)
 xe:aM->bq->Prop
def rF(l:List J3):List aB:=l.filterMap (·.frame)
abbrev Cx.fs(X:Cx):List aB:=rF X.outer
def Zz(sc:ql)(x:bL):Prop:=sc.names.lookup x=some .local\/sc.names.lookup x=some .cell\/sc.names.lookup x=some .free
def Loc(sc:ql)(x:bL):Prop:=sc.names.lookup x=some .local\/sc.names.lookup x=some .cell
def Look(env:J3)(h:gD)(m:bL->Option aM)(x:bL)(u:aM):Prop:=(env.kindOf x=some .local/\m x=some u)\/((env.kindOf x=some .cell\/env.kindOf x=some .free)/\∃c,env.cells.lookup x=some c/\h.IsCell c (some u))
structure Cx.Ok(X:Cx):Prop where
 mod:Mod X.K X.mg X.base
 kind:X.env.scope.kind= .function
 glob:X.env.globals=dX
 blt:X.env.builtins=builtinsNs
 above:X.EN.heap.objs.size<=X.env.locals
 inj:∀x y c,X.env.cells.lookup x=some c->X.env.cells.lookup y=some c->x=y
 has:∀x,(X.env.kindOf x=some .cell\/X.env.kindOf x=some .free)->∃c,X.env.cells.lookup x=some c
 Tq:∀x c,X.fn x=true->X.env.cells.lookup x=some c->X.EN.heap.objs.size<=c
 hd:X.calm=true->X.A.handled=none
 frames:X.A.frames=some X.stack
 SW:X.stack=X.outer\/(X.stack=X.env::X.outer/\X.env.frame=some X.env.locals)
 Vy:∀b∈X.ex,b≠X.env.locals/\∀x c,X.env.cells.lookup x=some c->c≠b
 bs:∀b o,X.base.get? b=some o->X.EN.heap.get? b=some o/\X.Wu b=none
 Nh:X.base.objs.size<=X.EN.heap.objs.size
 FV:∀b o,X.base.get? b=some o->b∉X.ex
 FW:∀b∈X.ex,b∉X.fs
 tE:X.EN.heap.FunFrames X.base X.outer
 PB:∀b∈X.fs,X.Wu b=none
structure Inv(X:Cx)(pins:List (aB×mU))(σ:List (Option V))(H:Hp)(s:bq):Prop where
 ok:X.Ok
 os:s.os=X.EN.os
 bare:AllBare s.gens
 base:Un X.fs X.ex X.Wu H X.EN.heap s.heap
 loc:∃m,s.heap.Ns X.env.locals m/\∀(i:Nat)(x:bL)(v:V),X.N[i]? =some x->σ[i]? =some (some v)->Zz X.env.scope x->∃u,RelV v u/\Look X.env s.heap m x u
 cell:∀x c,X.env.cells.lookup x=some c->∃v,s.heap.IsCell c v
 free:H X.env.locals=none
 nI:∀x c,X.env.cells.lookup x=some c->H c=none
 pin:∀p∈X.pn++pins,s.heap.get? p.1=some p.2/\H p.1=none/\p.1≠X.env.locals/\p.1∉X.fs/\∀v,p.2.data≠ .cell v
 gI:u7 X.prog X.w H s.heap
 len:σ.length=X.N.length
section
variable{X:Cx}
def Cx.Ok.acO(ok:X.Ok)(e:X.base.get? b=some o):b∉X.fs:=λhb=>by have:=(ok.tE.mem hb).1;rw[e]at this;cases this
theorem Inv.bs(I:Inv X aA σ H s):∀b o,X.base.get? b=some o->s.heap.get? b=some o/\H b=none:=λb o e=>⟨I.base.keep b o (I.ok.bs b o e).1 (I.ok.bs b o e).2 (I.ok.acO e) (I.ok.FV b o e),I.base.free b o (I.ok.bs b o e).1 (I.ok.bs b o e).2 (I.ok.FV b o e)⟩
def Inv.bk(I:Inv X aA σ H s):∀b o,X.base.get? b=some o->s.heap.get? b=some o:=λb o e=>(I.bs b o e).1
theorem Inv.mod(I:Inv X aA σ H s):Mod X.K X.mg X.base:=I.ok.mod
def Inv.DT(I:Inv X aA σ H s):X.K.In s.heap:=I.ok.mod.Zy.keeps I.bk
theorem Inv.lt(I:Inv X aA σ H s):X.env.locals<s.heap.objs.size:=let⟨_,hn,_⟩:=I.loc;hn.lt
def Inv.sz(I:Inv X aA σ H s):X.EN.heap.objs.size<=s.heap.objs.size:=cZ I.ok.above (O4 I.lt)
def Inv.acP(I:Inv X aA σ H s)(h:s.heap.objs.size<=a):a∉X.fs:=λhb=>by obtain⟨_,o,ho,_⟩:=I.ok.tE.mem hb;exact absurd (cB (bF ho) (cZ I.sz h)) (gW _)
def Inv.Wv(I:Inv X aA σ H s):∀x c,X.env.cells.lookup x=some c->c≠X.env.locals:=λx c e z=>by obtain⟨v,o,ho,hd⟩:=I.cell x c e;obtain⟨m,⟨o',es,ep,u9,DN,_⟩,_⟩:=I.loc;rw[z,u9]at ho;cases ho;rw[DN]at hd;cases hd
theorem Inv.tE(I:Inv X aA σ H s):s.heap.FunFrames X.base X.outer:=by
 have all:∀(l:List J3),(∀b∈rF l,b∈X.fs)->X.EN.heap.FunFrames X.base l->s.heap.FunFrames X.base l:=by
  intro l;induction l with
  |nil=>intro _ _;trivial
  |cons env r ih=>intro hs hl;obtain⟨hk,⟨L,o,hf,hn,ho,hd⟩,hr⟩:=hl;have hL:L∈X.fs:=hs L (by unfold rF;rw[iY,hf];exact bI);obtain⟨sl,e⟩:=I.base.slot L o ho (I.ok.PB L hL) hL λz=>I.ok.FW L z hL;nomatch hk,⟨L,_,hf,hn,e,hd⟩,ih (λb hb=>hs b (by unfold rF;rw[iY,hf];exact bo _ hb)) hr
 exact all X.outer (λ_ hb=>hb) I.ok.tE
theorem Inv.stack(I:Inv X aA σ H s):s.heap.FunFrames X.base X.stack:=by
 rcases I.ok.SW with e|⟨e,hf⟩
 .rw[e];exact I.tE
 .rw[e];obtain⟨m,hn,_⟩:=I.loc;refine .cons (by rw[I.ok.kind];decide) hf hn ?_ I.tE;exact Heap.get?_none_of_le (cZ I.ok.Nh I.ok.above)
def Inv.BE(I:Inv X aA σ H s):∀b∈rF X.stack,b∈X.env.locals::X.fs:=λb hb=>by
 rcases I.ok.SW with e|⟨e,hf⟩
 .rw[e]at hb;exact bo _ hb
 .rw[e]at hb;unfold rF at hb;rw[iY,hf]at hb;exact hb
def Inv.FX(I:Inv X aA σ H s):∀b∈rF X.stack,H b=none:=λb hb=>by
 rcases ak.mp (I.BE b hb)with e|hb
 .rw[e];exact I.free
 .obtain⟨_,o,ho,_⟩:=I.ok.tE.mem hb;exact I.base.free b o ho (I.ok.PB b hb) λz=>I.ok.FW b z hb
def Inv.step{g':Array GenState}{t':Nat}{d':Drawn}{ch:List aB}(I:Inv X aA σ H s) (SX:∀b∈ch,(b∈X.ex\/X.EN.heap.objs.size<=b)/\b≠X.env.locals/\(∀x c,X.env.cells.lookup x=some c->c≠b)/\∀p∈X.pn++aA,p.1≠b) (keep:∀b o,b≠X.env.locals->b∉X.fs->b∉ch->s.heap.get? b=some o->H b=none->h'.get? b=some o) (slot:∀b o,b≠X.env.locals->b∈X.fs->b∉ch->s.heap.get? b=some o->H b=none->∃sl,h'.get? b=some {o with slots:=sl}) (free:∀b o,b∉ch->s.heap.get? b=some o->H b=none->H' b=none) (there:∀b o,b∉ch->s.heap.get? b=some o->∃o',h'.get? b=some o') (xg:∀b xs,H b=some (.tup xs)->H' b=some (.tup xs)) (tD:∀b o u,H b=some (.gm o u)->H' b=some (.gm o u)) (xh:∀b ps,H b=some (.Wt ps)->∃more,H' b=some (.Wt (ps++more))) (ns:∀m,s.heap.Ns X.env.locals m->h'.Ns X.env.locals m) (gI:u7 X.prog X.w H' h') (hg:AllBare g'): Inv X aA σ H' {s with heap:=h',gens:=g',drawn:=d',toks:=t'}:=by
 have neL:∀b o,X.EN.heap.get? b=some o->b≠X.env.locals:=λb o e=>cE (cB (bF e) I.ok.above);have neC:∀b o,X.EN.heap.get? b=some o->b∉X.ex->b∉ch:=λb o e hx hb=>by
  rcases(SX b hb).1 with z|z
  .exact hx z
  .exact absurd (cB (bF e) z) (gW _)
 have cellK:∀x c,X.env.cells.lookup x=some c->∀v,s.heap.IsCell c v->h'.IsCell c v:=λx c e v⟨o,ho,hd⟩=>by
  have ZA:c∉ch:=λz=>(SX c z).2.2.1 x c e rfl;by_cases hc:c∈X.fs
  .obtain⟨sl,q⟩:=slot c o (I.Wv x c e) hc ZA ho (I.nI x c e);nomatch _,q,hd
  .nomatch o,keep c o (I.Wv x c e) hc ZA ho (I.nI x c e),hd
 nomatch I.ok,I.os,hg,⟨λb o e n hb hx=>?_,λb o e n hb hx=>?_,λb o e n hx=>?_,λb o e hx=>?_,λb xs e=>xg b xs (I.base.xg b xs e),λb o xs e=>tD b o xs (I.base.tD b o xs e),λb ps e=>?_⟩,?_,λx c e=>?_,?_,λx c e=>?_,λp hp=>?_,gI,I.len
 .exact keep b o (neL b o e) hb (neC b o e hx) (I.base.keep b o e n hb hx) (I.base.free b o e n hx)
 .obtain⟨sl,e1⟩:=I.base.slot b o e n hb hx;obtain⟨sl',e2⟩:=slot b _ (neL b o e) hb (neC b o e hx) e1 (I.base.free b o e n hx);nomatch sl',e2
 .obtain⟨o',e1⟩:=I.base.there b o e hx;exact free b o' (neC b o e hx) e1 (I.base.free b o e n hx)
 .obtain⟨o',e1⟩:=I.base.there b o e hx;exact there b o' (neC b o e hx) e1
 .obtain⟨m1,e1⟩:=I.base.xh b ps e;obtain⟨m2,e2⟩:=xh b _ e1;nomatch m1++m2,by rw[e2,SI]
 .obtain⟨m,hn,hl⟩:=I.loc;nomatch m,ns m hn,λi x v e1 e2 e3=>?_
  obtain⟨u,r,l⟩:=hl i x v e1 e2 e3;exists u,r;rcases l with l|⟨k,c,e,z⟩
  .exact .inl l
  .exact .inr ⟨k,c,e,cellK x c e _ z⟩
 .obtain⟨v,z⟩:=I.cell x c e;nomatch v,cellK x c e v z
 .obtain⟨m,⟨o,_,_,ho,_⟩,_⟩:=I.loc;exact free _ o (λz=>(SX _ z).2.1 rfl) ho I.free
 .obtain⟨v,o,ho,hd⟩:=I.cell x c e;exact free c o (λz=>(SX c z).2.2.1 x c e rfl) ho (I.nI x c e)
 .obtain⟨e,n,ne,nf,d⟩:=I.pin p hp;have ZA:p.1∉ch:=λz=>(SX p.1 z).2.2.2 p hp rfl;nomatch keep p.1 p.2 ne nf ZA e n,free p.1 p.2 ZA e n,ne,nf,d
def Inv.un(I:Inv X aA σ H s)(u:Un X.fs [] H H' s.heap h')(gI:u7 X.prog X.w H' h'):Inv X aA σ H' {s with heap:=h',toks:=t'}:=by obtain⟨m,⟨o,es,ep,ho,r⟩,_⟩:=id I.loc;obtain⟨sl,hL⟩:=u.any ho I.free (by simp);exact I.step (g':=s.gens) (d':=s.drawn) (ch:=[]) (λ_ z=>nomatch z) (λb o _ hb _ e n=>u.keep b o e n hb (by simp)) (λb o _ hb _ e n=>u.slot b o e n hb (by simp)) (λb o _ e n=>u.free b o e n (by simp)) (λb o _ e=>u.there b o e (by simp)) u.xg u.tD u.xh (λm' hm=>by obtain⟨o',Vz,VA,u9,r'⟩:=hm;rw[ho]at u9;cases u9;nomatch _,Vz,VA,hL,r') gI I.bare
def Inv.call(I:Inv X aA σ H s)(u:Un (rF X.stack) ch H H' s.heap h')(gI:u7 X.prog X.w H' h')(hg:AllBare g') (SX:∀b∈ch,(b∈X.ex\/X.EN.heap.objs.size<=b)/\b≠X.env.locals/\(∀x c,X.env.cells.lookup x=some c->c≠b)/\∀p∈X.pn++aA,p.1≠b): Inv X aA σ H' {s with heap:=h',gens:=g',drawn:=d',toks:=t'}:=by obtain⟨m,⟨o,es,ep,ho,r⟩,_⟩:=id I.loc;obtain⟨sl,hL⟩:=u.any ho I.free λz=>(SX _ z).2.1 rfl;exact I.step (ch:=ch) SX (λb o hL hb hc e n=>u.keep b o e n (λz=>(ak.mp (I.BE b z)).elim hL hb) hc) (λb o _ _ hc e n=>u.any e n hc) (λb o hc e n=>u.free b o e n hc) (λb o hc e=>u.there b o e hc) u.xg u.tD u.xh (λm' hm=>by obtain⟨o',Vz,VA,u9,r'⟩:=hm;rw[ho]at u9;cases u9;nomatch _,Vz,VA,hL,r') gI hg
def Inv.turned(I:Inv X aA σ H s)(k:∀b o,b≠it->s.heap.get? b=some o->h'.get? b=some o)(hn:H it=none)(hL:it≠X.env.locals) (h1:it∈X.ex\/X.EN.heap.objs.size<=it) (h2:∀x c,X.env.cells.lookup x=some c->c≠it) (h3:∀p∈X.pn++aA,p.1≠it):Inv X aA σ H {s with heap:=h',toks:=t'}:=by
 have ZC:∀b u,H b=some u->b≠it:=λb u e z=>by rw[z,hn]at e;cases e
 refine I.step (g':=s.gens) (d':=s.drawn) (ch:=[it]) (λb hb=>?_) (λb o _ _ hc e _=>k b o (λz=>hc (by simp[z])) e) (λb o _ _ hc e _=>⟨o.slots,k b o (λz=>hc (by simp[z])) e⟩) (λ_ _ _ _ n=>n) (λb o hc e=>⟨o,k b o (λz=>hc (by simp[z])) e⟩) (λ_ _ e=>e) (λ_ _ _ e=>e) (λb ps e=>⟨#[],by rw[e];simp⟩) (λm hm=>?_) (λb u e=>?_) I.bare
 .have e:b=it:=by simpa using hb
  subst e;nomatch h1,hL,h2,h3
 .obtain⟨o,es,ep,ho,r⟩:=hm;nomatch o,es,ep,k _ o (aL hL) ho,r
 .refine(I.gI b u e).yT (λc v hc q=>k c v ?_ q) (λ_ q=>q) λ_ _ q=>q;rcases hc with z|z
  .rw[z];exact ZC b u e
  .exact ZC c _ z
def Inv.tok(I:Inv X aA σ H s)(t:Nat):Inv X aA σ H {s with toks:=t}:=I.un (h':=s.heap) (t':=t) Un.refl I.gI
theorem Inv.kept(I:Inv X aA σ H s)(k:∀b u,s.heap.get? b=some u->h'.get? b=some u):Inv X aA σ H {s with heap:=h',toks:=t'}:=I.un (Un.kept k) (I.gI.kept k)
theorem Inv.laid(I:Inv X aA σ H s)(k:∀b u,s.heap.get? b=some u->h'.get? b=some u)(hp:s.heap.objs.size<=a)(new:jG X.prog X.w (upd H a o) h' a o): Inv X aA σ (upd H a o) {s with heap:=h',toks:=t'}:=I.un (Un.laid k hp (I.gI.fresh hp)) (I.gI.laid k hp new)
theorem Inv.write(I:Inv X aA σ H s)(mu:Vx (H x))(he:e=x\/H e=some (.own x))(k:∀b u,b≠e->s.heap.get? b=some u->h'.get? b=some u)(YN:∃u,h'.get? e=some u) (new:jG X.prog X.w (upd H x o) h' x o):Inv X aA σ (upd H x o) {s with heap:=h',toks:=t'}:=I.un (Un.write mu he k YN) (I.gI.write mu he k YN new)
def Inv.weak(I:Inv X aA σ H s)(hl:σ'.length=σ.length)(w:∀(i:Nat) v,σ'[i]? =some (some v)->σ[i]? =some (some v)):Inv X aA σ' H s:=⟨I.ok,I.os,I.bare,I.base,let⟨m,hn,VB⟩:=I.loc;⟨m,hn,λi x v e1 e2 e3=>VB i x v e1 (w i v e2) e3⟩,I.cell,I.free,I.nI,I.pin,I.gI,hl.trans I.len⟩
def Inv.L8(I:Inv X aA σ H s)(h:∀p∈L9,s.heap.get? p.1=some p.2/\H p.1=none/\p.1≠X.env.locals/\p.1∉X.fs/\∀v,p.2.data≠ .cell v):Inv X L9 σ H s:=⟨I.ok,I.os,I.bare,I.base,I.loc,I.cell,I.free,I.nI,λp hp=>(du.mp hp).elim (λz=>I.pin p (wZ _ z)) (h p),I.gI,I.len⟩
def BF{N:List bL}(hN:N.Nodup){i j:Nat}{x:bL}(a:N[i]? =some x)(b:N[j]? =some x):i=j:=by obtain⟨h1,e1⟩:=aE.mp a;obtain⟨h2,e2⟩:=aE.mp b;exact(Wj hN).mp (e1.trans e2.symm)
def EO(I:Inv X aA σ H s)(hN:X.N.Nodup)(hi:X.N[i]? =some x)(hx:Loc X.env.scope x)(r:RelV v u) (h:∀s',Inv X aA (σ.set i (some v)) H s'->(∃a,Bu a s.heap s'.heap/\(a=X.env.locals\/X.env.cells.lookup x=some a))->Q () s') (hf:X.fn x=true\/X.env.scope.names.lookup x=some .local:=by first|exact .inl rfl|exact .inr rfl|assumption):b8 M A (storeName X.env x u) Q E s:=by
 obtain⟨m,hn,hl⟩:=id I.loc;have Ww:(X.env.scope.kind== .class||(X.env.scope.kind== .module&&X.env.locals !=X.env.globals))=false:=by rw[I.ok.kind];rfl
 have hiσ:i<σ.length:=by rw[I.len];exact(aE.mp hi).1
 have Wv:=I.Wv;have tracked:∀{a:aB}{h':gD},(∃o,s.heap.get? a=some o/\H a=none)->Bu a s.heap h'->u7 X.prog X.w H h':=fun{a h'} ha hs b ob e=>by
  obtain⟨_,_,ER⟩:=ha;refine(I.gI b ob e).yT (λc w' hc q=>(hs.2 c ?_).trans q) (λ_ q=>q) λ_ _ q=>q;rintro rfl;rcases hc with rfl|hc
  .rw[ER]at e;cases e
  .rw[ER]at hc;cases hc
 rcases hx with hk|hk
 .refine wpAny_storeName_local hk hn (λh' hn' hs=>?_) Ww;obtain⟨oL,_,_,hoL,_⟩:=id hn;refine h _ ⟨I.ok,I.os,I.bare,⟨λb o e n hb hx=>?_,λb o e n hb hx=>?_,I.base.free,λb o e hx=>?_,I.base.xg,I.base.tD,I.base.xh⟩,⟨_,hn',λj y v' e1 e2 e3=>?_⟩,λy c e=>?_,I.free,I.nI,λp hp=>?_,tracked ⟨oL,hoL,I.free⟩ hs,by simpa using I.len⟩ ⟨_,hs,.inl rfl⟩
  .exact(hs.2 b (cE (cB (bF e) I.ok.above))).trans (I.base.keep b o e n hb hx)
  .obtain⟨sl,e1⟩:=I.base.slot b o e n hb hx;nomatch sl,(hs.2 b (cE (cB (bF e) I.ok.above))).trans e1
  .obtain⟨o',e1⟩:=I.base.there b o e hx;nomatch o',(hs.2 b (cE (cB (bF e) I.ok.above))).trans e1
  .by_cases hj:j=i
   .subst hj;rw[hi]at e1;cases e1;rw[uX hiσ]at e2;cases e2;nomatch u,r,.inl ⟨hk,by simp⟩
   .rw[w8 (aL hj)]at e2;obtain⟨u',r',q⟩:=hl j y v' e1 e2 e3;exists u',r';rcases q with⟨k,e⟩|⟨k,c,e,z⟩
    .refine .inl ⟨k,?_⟩;have:y≠x:=λe=>hj (BF hN e1 (e▸hi));simp[this,e]
    .exact .inr ⟨k,c,e,z.sameBut hs (Wv y c e)⟩
  .obtain⟨w',z⟩:=I.cell y c e;nomatch w',z.sameBut hs (Wv y c e)
  .obtain⟨e,n,ne,nf,d⟩:=I.pin p hp;nomatch(hs.2 p.1 ne).trans e,n,ne,nf,d
 .have hfn:X.fn x=true:=by
   rcases hf with z|z
   .exact z
   .rw[z]at hk;cases hk
  obtain⟨c,hc⟩:=I.ok.has x (.inl hk);obtain⟨w',z⟩:=I.cell x c hc;refine wpAny_storeName_cell I.ok.kind hk hc z (λh' HC hs=>?_);obtain⟨oc,hoc,acR⟩:=id z;refine h {s with heap:=h'} ⟨I.ok,I.os,I.bare,⟨λb o e n hb hx=>?_,λb o e n hb hx=>?_,I.base.free,λb o e hx=>?_,I.base.xg,I.base.tD,I.base.xh⟩,⟨m,hn.sameBut hs (aL (Wv x c hc)),λj y v' e1 e2 e3=>?_⟩,λy c' e=>?_,I.free,I.nI,λp hp=>?_,tracked ⟨oc,hoc,I.nI x c hc⟩ hs,by simpa using I.len⟩ ⟨c,hs,.inr hc⟩
  .exact(hs.2 b (cE (cB (bF e) (I.ok.Tq x c hfn hc)))).trans (I.base.keep b o e n hb hx)
  .obtain⟨sl,e1⟩:=I.base.slot b o e n hb hx;nomatch sl,(hs.2 b (cE (cB (bF e) (I.ok.Tq x c hfn hc)))).trans e1
  .obtain⟨o',e1⟩:=I.base.there b o e hx;nomatch o',(hs.2 b (cE (cB (bF e) (I.ok.Tq x c hfn hc)))).trans e1
  .by_cases hj:j=i
   .subst hj;rw[hi]at e1;cases e1;rw[uX hiσ]at e2;cases e2;nomatch u,r,.inr ⟨.inl hk,c,hc,HC⟩
   .rw[w8 (aL hj)]at e2;obtain⟨u',r',q⟩:=hl j y v' e1 e2 e3;exists u',r';rcases q with q|⟨k,c',e,z'⟩
    .exact .inl q
    .refine .inr ⟨k,c',e,z'.sameBut hs ?_⟩;rintro rfl;exact hj (BF hN e1 (I.ok.inj _ _ _ e hc▸hi))
  .by_cases hcc:c'=c
   .subst hcc;nomatch _,HC
   .obtain⟨w2,z2⟩:=I.cell y c' e;nomatch w2,z2.sameBut hs hcc
  .obtain⟨e,n,ne,nf,d⟩:=I.pin p hp;nomatch(hs.2 p.1 ?_).trans e,n,ne,nf,d
   intro q;rw[q,hoc]at e;have q':oc=p.2:=af e;exact d w' (by rw[<-q'];exact acR)
def HD(I:Inv X aA σ H s)(hN:X.N.Nodup)(hi:X.N[i]? =some x)(hx:Loc X.env.scope x)(r:RelV v u) (h:∀s',Inv X aA (σ.set i (some v)) H s'->Q () s') (hf:X.fn x=true\/X.env.scope.names.lookup x=some .local:=by first|exact .inl rfl|exact .inr rfl|assumption):b8 M A (storeName X.env x u) Q E s:=EO I hN hi hx r (λs' I' _=>h s' I') hf
def Inv.ZD(I:Inv X aA σ H s)(ho:s'.os=s.os)(u:Un (rF X.stack) ch H H' s.heap s'.heap)(gI:u7 X.prog X.w H' s'.heap)(hg:AllBare s'.gens) (SX:∀b∈ch,(b∈X.ex\/X.EN.heap.objs.size<=b)/\b≠X.env.locals/\(∀x c,X.env.cells.lookup x=some c->c≠b)/\∀p∈X.pn++aA,p.1≠b):Inv X aA σ H' s':=by obtain⟨h',g',d',t',o'⟩:=s';have e:o'=s.os:=ho;subst e;exact I.call (g':=g') (t':=t') (d':=d') u gI hg SX
end
abbrev XK:=aM->Option aB->Hp->Prop
abbrev St:=List (Option V)
abbrev VK:=V->Hp->Prop
abbrev TE:=St->Hp->VK->Prop
abbrev TT:=St->Hp->(Bool->Hp->Prop)->Prop
abbrev TA:=St->Hp->(List V->Hp->Prop)->Prop
structure Ends where
 nx:St->Hp->Prop
 rt:VK
 bk:St->Hp->Prop:=λ_ _=>False
 ct:St->Hp->Prop:=λ_ _=>False
abbrev TS:=Ends->St->Hp->Prop
inductive EP(X:Cx)(aA:List (aB×mU))(σ:St)(Q:VK)(u:aM)(s':bq):Prop
 |mk(v:V)(H':Hp)(_:Inv X aA σ H' s')(_:RelV v u)(_:Q v H')
inductive TP(X:Cx)(aA:List (aB×mU))(σ:St)(Q:Bool->Hp->Prop)(b:Bool)(s':bq):Prop
 |mk(H':Hp)(_:Inv X aA σ H' s')(_:Q b H')
inductive AP(X:Cx)(aA:List (aB×mU))(σ:St)(Q:List V->Hp->Prop)(us:List aM)(s':bq):Prop
 |mk(vs:List V)(H':Hp)(_:Inv X aA σ H' s')(_:Vals vs us)(_:Q vs H')
def SP(X:Cx)(aA:List (aB×mU))(D:Ends)(f:Flow)(s':bq):Prop:=match f with
 | .next=>∃σ' H',Inv X aA σ' H' s'/\D.nx σ' H'
 | .brk=>∃σ' H',Inv X aA σ' H' s'/\D.bk σ' H'
 | .cont=>∃σ' H',Inv X aA σ' H' s'/\D.ct σ' H'
 | .ret u=>∃v σ' H',Inv X aA σ' H' s'/\RelV v u/\D.rt v H'
def PE(X:Cx)(e:jx)(t:TE):Prop:=∀(aA:List (aB×mU))(s:bq)(σ:St)(H:Hp)(Q:VK),Inv X aA σ H s->t σ H Q->b8 (cg X.prog X.w) X.A (eval e X.env) (EP X aA σ Q) X.xe s
def PT(X:Cx)(e:jx)(t:TT):Prop:=∀(aA:List (aB×mU))(s:bq)(σ:St)(H:Hp)(Q:Bool->Hp->Prop),Inv X aA σ H s->t σ H Q->b8 (cg X.prog X.w) X.A (isTrue e X.env (eval e X.env)) (TP X aA σ Q) X.xe s
def PW(X:Cx)(e:jx)(t:TT):Prop:=∀(whole:acL aM)(aA:List (aB×mU))(s:bq)(σ:St)(H:Hp)(Q:Bool->Hp->Prop),Inv X aA σ H s->t σ H Q->b8 (cg X.prog X.w) X.A (isTrue e X.env whole) (TP X aA σ Q) X.xe s
def PW.pt(h:PW X e t):PT X e t:=h _
def PA(X:Cx)(es:List jx)(t:TA):Prop:=∀(d_:Nd)(aA:List (aB×mU))(s:bq)(σ:St)(H:Hp)(Q:List V->Hp->Prop),Inv X aA σ H s->t σ H Q->b8 (cg X.prog X.w) X.A (spliced (ku d_ (bE es X.env))) (AP X aA σ Q) X.xe s
def PS(X:Cx)(st:lR)(t:TS):Prop:=∀(aA:List (aB×mU))(s:bq)(σ:St)(H:Hp)(D:Ends),Inv X aA σ H s->t D σ H->b8 (cg X.prog X.w) X.A (exec st X.env) (SP X aA D) X.xe s
def HE(X:Cx)(st:List lR)(t:TS):Prop:=∀(aA:List (aB×mU))(s:bq)(σ:St)(H:Hp)(D:Ends),Inv X aA σ H s->t D σ H->b8 (cg X.prog X.w) X.A (execs st X.env) (SP X aA D) X.xe s
def ic(h:b8 M A t Q E s)(hQ:∀a s,Q a s->Q' a s):b8 M A t Q' E s:=ip h hQ λ_ _ x=>x
section
inductive jU(i:Nat)(σ:St)(H:Hp)(Q:VK):Prop
 |mk(v:_)(mV:σ[i]? =some (some v))(mW:Q v H)
def tC(v:V):TE:=λ_ H Q=>Q v H
def Wx(hN:X.N[i]? =some x)(hv:Zz X.env.scope x)(hd:(x==("__debug__":bL))=false:=by decide)(Pc:(x==("__classdict__":bL))=false:=by decide):PE X (.Name x d_) (jU i):=by
 intro aA s σ H Q I h;obtain⟨v,e,h⟩:=h;obtain⟨m,hn,hl⟩:=I.loc;obtain⟨u,r,l⟩:=hl i x v hN e hv;have fin:EP X aA σ Q u s:=⟨v,H,I,r,h⟩;rcases l with⟨hk,hm⟩|⟨hk,c,hc,VC⟩
 .exact wpAny_Name (wpAny_loadName_local I.ok.kind hk hn hm fin) hd
 .rcases hk with hk|hk
  .exact wpAny_Name (wpAny_loadName_cell I.ok.kind hk hc VC fin) hd
  .exact wpAny_Name (wpAny_loadName_free I.ok.kind hk hc VC fin Pc) hd
def au{i j d_}:PE X (.Constant (.int i) j d_) (tC (.int i)):=λ_ _ _ H _ I h=>wpAny_Constant_int ⟨.int i,H,I.tok _,⟨_,rfl⟩,h⟩
def kP{b j d_}:PE X (.Constant (.bool b) j d_) (tC (.bl b)):=λ_ _ _ H _ I h=>Constant_bool ⟨.bl b,H,I,rfl,h⟩
def jz{j d_}:PE X (.Constant .none j d_) (tC .eY):=λ_ _ _ H _ I h=>Constant_none ⟨.eY,H,I,rfl,h⟩
def dS{x j d_}:PE X (.Constant (.str x) j d_) (tC (.str x)):=λ_ _ _ H _ I h=>Calls.Constant_str ⟨.str x,H,I.tok _,⟨_,rfl⟩,h⟩
def Gl(X:Cx)(x:bL):Prop:=X.env.kindOf x=some .globalImplicit
def rG(I:Inv X aA σ H s)(hg:Gl X x)(hm:X.mg x=some u)(h:Q u s) (hd:(x==("__debug__":bL))=false:=by decide):b8 (cg X.prog X.w) X.A (eval (.Name x d_) X.env) Q E s:=Calls.Name_function_global I.ok.kind hg (Calls.loadGlobal_global (by rw[I.ok.glob];exact I.mod.glob.keeps I.bk) hm h) hd
def BG(I:Inv X aA σ H s)(hg:Gl X x)(hm:X.mg x=none)(hv:bootBuiltins x=some u)(h:Q u s) (hn:x≠"__name__":=by decide) (hd:(x==("__debug__":bL))=false:=by decide):b8 (cg X.prog X.w) X.A (eval (.Name x d_) X.env) Q E s:=by obtain⟨mb,h1,h2⟩:=I.mod.blt;exact Calls.Name_function_global I.ok.kind hg (Calls.loadGlobal_builtin (by rw[I.ok.glob];exact I.mod.glob.keeps I.bk) hm (by rw[I.ok.blt];exact h1.keeps I.bk) ((h2 x hn).trans hv) h) hd
def rH(hg:Gl X x)(hm:X.mg x=some u)(r:RelV v u)(hd:(x==("__debug__":bL))=false:=by decide):PE X (.Name x d_) (tC v):=λ_ _ _ H _ I h=>rG I hg hm ⟨v,H,I,r,h⟩ hd
def PC(X:Cx)(op:CmpOp)(a b:jx)(t:TE):Prop:=∀(aA:List (aB×mU))(s:bq)(σ:St)(H:Hp)(Q:VK),Inv X aA σ H s->t σ H Q-> b8 (cg X.prog X.w) X.A (eval a X.env) (λv s₁=>b8 (cg X.prog X.w) X.A (eval b X.env) (λu s₂=>b8 (cg X.prog X.w) X.A (gN op v u) (EP X aA σ Q) X.xe s₂) X.xe s₁) X.xe s
def HF(b:jx)(h:op≠ .In)(h2:op≠ .NotIn):behindInMarks op b=false:=by
 have e1:(op==CmpOp.In)=false:=by cases op<;>first|rfl|exact absurd rfl h
 have e2:(op==CmpOp.NotIn)=false:=by cases op<;>first|rfl|exact absurd rfl h2
 cases b<;>simp[behindInMarks,e1,e2]
def ZE(ta:TE):TE:=fun σ H Q=>ta σ H λx H1=>Q (.bl (decide (x= .eY))) H1
def VD(ta:TE):TE:=fun σ H Q=>ta σ H λx H1=>Q (.bl (!decide (x= .eY))) H1
def RelV.HG(r:RelV x v):(v==zJ)=decide (x= .eY):=by
 cases x with
 |eY=>cases r;rfl
 |bl _=>cases r;rfl
 |int _=>obtain⟨t,rfl⟩:=r;rfl
 |str _=>obtain⟨t,rfl⟩:=r;rfl
 |DS _=>obtain⟨t,rfl⟩:=r;rfl
 |Zw _=>obtain⟨t,rfl⟩:=r;rfl
 |ref _=>cases r;rfl
 |ty _=>cases r;rfl
def mX{j pos'}(ha:PE X a ta):PC X .Is a (.Constant .none j pos') (ZE ta):=by intro aA s σ H Q I h;refine ic (ha aA s σ H _ I h) λv s1⟨x,H1,I1,r1,q1⟩=>?_;exact Constant_none (is_none_gen ⟨.bl _,H1,I1,by rw[r1.HG];rfl,q1⟩)
def xi{j pos'}(ha:PE X a ta):PC X .IsNot a (.Constant .none j pos') (VD ta):=by intro aA s σ H Q I h;refine ic (ha aA s σ H _ I h) λv s1⟨x,H1,I1,r1,q1⟩=>?_;exact Constant_none (isnot_none_gen ⟨.bl _,H1,I1,by rw[r1.HG];rfl,q1⟩)
inductive acS(Q:(Bool->Hp->Prop))(x:V)(H1:Hp):Prop
 |mk(c:_)(mV:x= .bl c)(mW:Q c H1)
def tB(t:TE):TT:=fun σ H Q=>t σ H λx H1=>acS Q x H1
def Wy(h:PC X op a b t)(h1:behindInMarks op b=false:=by first|exact HF _ (by decide) (by decide)|rfl):PE X (.Compare a [op] [b] d_) t:=λaA s σ H Q I hw=>wpAny_Compare1 (h aA s σ H Q I hw) h1
def i_(h:PC X op a b t)(h1:behindInMarks op b=false:=by first|exact HF _ (by decide) (by decide)|rfl):PT X (.Compare a [op] [b] d_) (tB t):=by intro aA s σ H Q I hw;refine wpAny_isTrue_Compare1 (ic (h aA s σ H _ I hw) λv s1 h1=>ic h1 λu s2 h2=>ic h2 λc s3⟨x,H1,I1,r1,q1⟩=>?_) h1;obtain⟨d,rfl,q⟩:=q1;cases r1;exact wpAny_truthy_bool ⟨H1,I1,q⟩
def dA(h:PE X e t)(he:∀whole,isTrue e X.env whole=(do let v <-whole;standAt e.pos;holding [v] (truthy v)):=by intro _;rfl):PT X e (tB t):=by intro aA s σ H Q I hw;refine isTrue_plain (ic (h aA s σ H _ I hw) λv s1⟨x,H1,I1,r1,q1⟩=>?_) (he _);obtain⟨d,rfl,q⟩:=q1;cases r1;exact wpAny_truthy_bool ⟨H1,I1,q⟩
def acT(t u:TT):TT:=fun σ H Q=>t σ H λc H1=>if c=true then u σ H1 Q else Q false H1
def tOr(t u:TT):TT:=fun σ H Q=>t σ H λc H1=>if c=true then Q true H1 else u σ H1 Q
def acU(t:TT):TT:=fun σ H Q=>t σ H λc H1=>Q (!c) H1
def lF(ha:PT X a tA):PW X (.BoolOp .And [a] d_) tA:=by
 intro wh aA s σ H Q I h;refine isTrue_and (ic (ha aA s σ H Q I h) λc s1 e=>?_);cases c with
 |true=>exact isTrue_and_nil e
 |false=>exact e
def j6(ha:PT X a tA):PW X (.BoolOp .Or [a] d_) tA:=by
 intro wh aA s σ H Q I h;refine isTrue_or (ic (ha aA s σ H Q I h) λc s1 e=>?_);cases c with
 |false=>exact isTrue_or_nil e
 |true=>exact e
def nZ(ha:PT X a tA)(hb:PW X (.BoolOp .And (b::sZ) d_) tB'):PW X (.BoolOp .And (a::b::sZ) d_) (acT tA tB'):=by
 intro wh aA s σ H Q I h;refine isTrue_and (ic (ha aA s σ H _ I h) λc s1⟨H1,I1,q1⟩=>?_);cases c with
 |true=>exact hb wh aA s1 σ H1 Q I1 q1
 |false=>nomatch H1,I1,q1
def kR(ha:PT X a tA)(hb:PW X (.BoolOp .Or (b::sZ) d_) tB'):PW X (.BoolOp .Or (a::b::sZ) d_) (tOr tA tB'):=by
 intro wh aA s σ H Q I h;refine isTrue_or (ic (ha aA s σ H _ I h) λc s1⟨H1,I1,q1⟩=>?_);cases c with
 |true=>nomatch H1,I1,q1
 |false=>exact hb wh aA s1 σ H1 Q I1 q1
def iH(ha:PT X a tA):PT X (.UnaryOp .Not a d_) (acU tA):=by intro aA s σ H Q I h;exact isTrue_not (ic (ha aA s σ H (λc H1=>Q (!c) H1) I h) λc s1⟨H1,I1,q1⟩=>⟨H1,I1,q1⟩)
inductive Tr(tb:TE)(σ:St)(Q:VK)(x:V)(H1:Hp):Prop
 |mk(c:_)(mV:x= .bl c)(mW:if c=true then tb σ H1 Q else Q (.bl false) H1)
def ZF(ta tb:TE):TE:=fun σ H Q=>ta σ H λx H1=>Tr tb σ Q x H1
inductive Wz(tb:TE)(σ:St)(Q:VK)(x:V)(H1:Hp):Prop
 |mk(c:_)(mV:x= .bl c)(mW:if c=true then Q (.bl true) H1 else tb σ H1 Q)
def acW(ta tb:TE):TE:=fun σ H Q=>ta σ H λx H1=>Wz tb σ Q x H1
inductive Ts(Q:VK)(x:V)(H1:Hp):Prop
 |mk(c:_)(mV:x= .bl c)(mW:Q (.bl (!c)) H1)
def ZG(ta:TE):TE:=fun σ H Q=>ta σ H λx H1=>Ts Q x H1
def FY{op}(h:PE X a t):PE X (.BoolOp op [a] d_) t:=λaA s σ H Q I hw=>BoolOp_one (h aA s σ H Q I hw)
def Kk(ha:PE X a ta)(hb:PE X (.BoolOp .And (b::sZ) d_) tb):PE X (.BoolOp .And (a::b::sZ) d_) (ZF ta tb):=by
 intro aA s σ H Q I h;refine BoolOp_and (ic (ha aA s σ H _ I h) λv s1⟨x,H1,I1,r1,q1⟩=>?_);obtain⟨c,rfl,q1⟩:=q1;cases r1;refine wpAny_truthy_bool ?_;cases c with
 |true=>exact hb aA s1 σ H1 Q I1 q1
 |false=>nomatch .bl false,H1,I1,rfl,q1
def VE(ha:PE X a ta)(hb:PE X (.BoolOp .Or (b::sZ) d_) tb):PE X (.BoolOp .Or (a::b::sZ) d_) (acW ta tb):=by
 intro aA s σ H Q I h;refine BoolOp_or (ic (ha aA s σ H _ I h) λv s1⟨x,H1,I1,r1,q1⟩=>?_);obtain⟨c,rfl,q1⟩:=q1;cases r1;refine wpAny_truthy_bool ?_;cases c with
 |false=>exact hb aA s1 σ H1 Q I1 q1
 |true=>nomatch .bl true,H1,I1,rfl,q1
def PD(ha:PE X a ta):PE X (.UnaryOp .Not a d_) (ZG ta):=by intro aA s σ H Q I h;refine UnaryOp_ (ic (ha aA s σ H _ I h) λv s1⟨x,H1,I1,r1,q1⟩=>?_);obtain⟨c,rfl,q1⟩:=q1;cases r1;exact not_of (wpAny_truthy_bool ⟨.bl (!c),H1,I1,rfl,q1⟩)
def tIf(t:TT)(ta tb:TE):TE:=fun σ H Q=>t σ H λc H1=>if c=true then ta σ H1 Q else tb σ H1 Q
def kC(hc:PT X c tA)(ha:PE X a ta)(hb:PE X b tb):PE X (.IfExp c a b d_) (tIf tA ta tb):=by
 intro aA s σ H Q I h;refine wpAny_IfExp (ic (hc aA s σ H _ I h) λd s1⟨H1,I1,q1⟩=>?_);cases d with
 |true=>exact ha aA s1 σ H1 Q I1 q1
 |false=>exact hb aA s1 σ H1 Q I1 q1
end
def fT(K:aq)(H:Hp)(a:aB)(xs:List V):Prop:=Rd H a (.lst xs)\/ ∃(o:mU)(dj:Array aM)(n:Nat),K.lookup a=some o/\o.cls= .type "list"/\o.dict=none/\o.data= .seq dj n/\dj.size<=aH/\Vals xs dj.toList
def l_(K:aq)(H:Hp)(a:aB)(xs:List V):Prop:=Rd H a (.tup xs)\/ ∃(o:mU)(dj:Array aM)(n:Nat),K.lookup a=some o/\o.cls= .type "tuple"/\o.data= .seq dj n/\dj.size<=aH/\Vals xs dj.toList
def acX:aM->Option V
 | .none=>some .eY
 | .bool b=>some (.bl b)
 | .int i _=>some (.int i)
 | .str x _=>some (.str x)
 | .bytes b _=>some (.DS b)
 | .float b _=>some (.Zw b)
 | .ref a=>some (.ref a)
 | .type n=>some (.ty n)
 |_=>none
def RelV.abs(r:RelV x u):acX u=some x:=by
 cases x with
 |eY=>cases r;rfl
 |bl _=>cases r;rfl
 |int _=>obtain⟨t,rfl⟩:=r;rfl
 |str _=>obtain⟨t,rfl⟩:=r;rfl
 |DS _=>obtain⟨t,rfl⟩:=r;rfl
 |Zw _=>obtain⟨t,rfl⟩:=r;rfl
 |ref _=>cases r;rfl
 |ty _=>cases r;rfl
def RelV.inj(r:RelV x u)(q:RelV y u):x=y:=af (r.abs.symm.trans q.abs)
theorem Vals.inj:∀{xs ys:List V}{us:List aM},Vals xs us->Vals ys us->xs=ys
 |_,_,_,.nil,.nil=>rfl
 |_,_,_,.cons r t,.cons r' t'=>by rw[r.inj r',Vals.inj t t']
section
def fT.of{K:aq}(h:H a=some (.lst xs)):fT K H a xs:=.inl (.inl h)
def l_.of{K:aq}(h:H a=some (.tup xs)):l_ K H a xs:=.inl (.inl h)
def Inv.list(I:Inv X aA σ H s)(h:fT X.K H a xs):∃dj:List aM,Vals xs dj/\PlainL s.heap a dj.toArray/\xs.length<=aH:=by
 rcases h with h|⟨o,dj,n,hk,hc,hd,hs,hz,r⟩
 .obtain⟨z,dj,n,r,e⟩:=h.ok I.gI;nomatch dj,r,⟨_,n,e,rfl,rfl,rfl⟩,z
 .exists dj.toList,r,⟨o,n,I.DT a o hk,hc,hd,by simpa using hs⟩;have e:=r.length;simp only[yE]at e;lia
def Inv.tuple(I:Inv X aA σ H s)(h:l_ X.K H a xs):∃dj:List aM,Vals xs dj/\IsTup s.heap a dj.toArray/\xs.length<=aH:=by
 rcases h with h|⟨o,dj,n,hk,hc,hs,hz,r⟩
 .obtain⟨z,dj,r,p⟩:=h.ok I.gI;nomatch dj,r,p,z
 .exists dj.toList,r,⟨o,I.DT a o hk,hc,n,by simpa using hs⟩;have e:=r.length;simp only[yE]at e;lia
def Inv.HH(I:Inv X aA σ H s)(h:fT X.K H a xs)(h':fT X.K H a ys):xs=ys:=by
 obtain⟨dj,r,⟨o,n,e,_,_,d⟩,_⟩:=I.list h;obtain⟨its',r',⟨o',n',e',_,_,d'⟩,_⟩:=I.list h';rw[e]at e';cases e';rw[d]at d';injection d' with d1 _;have:dj=its':=by simpa using congrArg Array.toList d1
 subst this;exact r.inj r'
end
abbrev Cx.DU(X:Cx)(E:aM->bq->Prop):Cx:={X with xe:=E}
abbrev Cx.ZH(X:Cx):Cx:=X.DU λ_ _=>False
theorem Cx.Ok.DU{X:Cx}(ok:X.Ok)(E:aM->bq->Prop):(X.DU E).Ok:=⟨ok.mod,ok.kind,ok.glob,ok.blt,ok.above,ok.inj,ok.has,ok.Tq,ok.hd,ok.frames,ok.SW,ok.Vy,ok.bs,ok.Nh,ok.FV,ok.FW,ok.tE,ok.PB⟩
def Cx.Ok.tF{X:Cx}{E:aM->bq->Prop}(ok:(X.DU E).Ok):X.Ok:=⟨ok.mod,ok.kind,ok.glob,ok.blt,ok.above,ok.inj,ok.has,ok.Tq,ok.hd,ok.frames,ok.SW,ok.Vy,ok.bs,ok.Nh,ok.FV,ok.FW,ok.tE,ok.PB⟩
section
theorem Inv.DU(I:Inv X aA σ H s)(E:aM->bq->Prop):Inv (X.DU E) aA σ H s:=⟨I.ok.DU E,I.os,I.bare,I.base,I.loc,I.cell,I.free,I.nI,I.pin,I.gI,I.len⟩
theorem Inv.tF(I:Inv (X.DU E) aA σ H s):Inv X aA σ H s:=⟨I.ok.tF,I.os,I.bare,I.base,I.loc,I.cell,I.free,I.nI,I.pin,I.gI,I.len⟩
theorem SP.tF(h:SP (X.DU E) aA D f s'):SP X aA D f s':=by
 cases f with
 |next=>obtain⟨σ',H',I,q⟩:=h;nomatch σ',H',I.tF,q
 |brk=>obtain⟨σ',H',I,q⟩:=h;nomatch σ',H',I.tF,q
 |cont=>obtain⟨σ',H',I,q⟩:=h;nomatch σ',H',I.tF,q
 |ret u=>obtain⟨v,σ',H',I,r,q⟩:=h;nomatch v,σ',H',I.tF,r,q
theorem HE.ZH{st:List lR}{t:TS}(h:HE X.ZH st t):HE X st t:=λaA s σ H D I hw=>ip (h aA s σ H D (I.DU _) hw) (λ_ _ q=>q.tF) λ_ _ z=>False.elim z
end
section
variable{X:Cx}{st:lR}{sZ:List lR}{t u:TS}
def L_:TS:=λD σ H=>D.nx σ H
def PF(t u:TS):TS:=λD σ H=>t {D with nx:=u D} σ H
def aZ:HE X [] L_:=λ_ _ σ H _ I h=>wpAny_execs_nil ⟨σ,H,I,h⟩
def aa(h1:PS X st t)(h2:HE X sZ u):HE X (st::sZ) (PF t u):=by
 intro aA s σ H D I h;refine wpAny_execs_cons (ic (h1 aA s σ H {D with nx:=u D} I h) λf s1 q=>?_);cases f with
 |next=>obtain⟨σ',H',I',q⟩:=q;exact h2 aA s1 σ' H' D I' q
 |ret v=>exact q
 |brk=>exact q
 |cont=>exact q
def aj(h1:PS X st t):HE X [st] t:=by
 intro aA s σ H D I h;refine wpAny_execs_cons (ic (h1 aA s σ H D I h) λf s1 q=>?_);cases f with
 |next=>exact wpAny_execs_nil q
 |ret v=>exact q
 |brk=>exact q
 |cont=>exact q
def WA:TS:=λD σ H=>D.bk σ H
def PH:PS X (.Break d_) WA:=λ_ _ σ H _ I h=>wpAny_Break ⟨σ,H,I,h⟩
def Inv.quiet(I:Inv X aA σ H s):interactive X.env=false:=by simp[interactive,I.ok.kind]
def Ma(te:TE):TS:=λD σ H=>te σ H λ_ H1=>D.nx σ H1
def bj(he:PE X e te)(hs:swapsWith e none d_.line X.env=pure false:=by rfl):PS X (.Expr e d_) (Ma te):=by intro aA s σ H D I h;exact wpAny_Expr_any (ic (he aA s σ H _ I h) λv s1⟨x,H1,I1,r1,q1⟩=>⟨σ,H1,I1,q1⟩) I.quiet hs
def ZI(te:TE):TS:=λD σ H=>te σ H D.rt
def aP(he:PE X e te):PS X (.Return (some e) d_) (ZI te):=by intro aA s σ H D I h;exact wpAny_Return_some (ic (he aA s σ H _ I h) λv s1⟨x,H1,I1,r1,q1⟩=>⟨x,σ,H1,I1,r1,q1⟩)
def ZJ:TS:=λD _ H=>D.rt .eY H
def A7:PS X (.Return none d_) ZJ:=λ_ _ σ H _ I h=>wpAny_Return_none ⟨.eY,σ,H,I,rfl,h⟩
def Tu(c:TT)(t u:TS):TS:=λD σ H=>c σ H λb H1=>if b=true then t D σ H1 else u D σ H1
def bH(hc:PT X c tc)(ha:HE X a t)(hb:HE X b u):PS X (.If c a b d_) (Tu tc t u):=by
 intro aA s σ H D I h;refine wpAny_If (ic (hc aA s σ H _ I h) λd s1⟨H1,I1,q1⟩=>?_);cases d with
 |true=>exact ha aA s1 σ H1 D I1 q1
 |false=>exact hb aA s1 σ H1 D I1 q1
end
abbrev TG:=V->St->Hp->(St->Hp->Prop)->Prop
abbrev TGs:=List V->St->Hp->(St->Hp->Prop)->Prop
def PG(X:Cx)(target:jx)(t:TG):Prop:=∀(aA:List (aB×mU))(s:bq)(σ:St)(H:Hp)(v:V)(u:aM)(Q:St->Hp->Prop),Inv X aA σ H s->RelV v u->t v σ H Q-> b8 (cg X.prog X.w) X.A (assign target X.env u) (λ_ s'=>∃σ' H',Inv X aA σ' H' s'/\Q σ' H') X.xe s
def PGs(X:Cx)(ts:List jx)(t:TGs):Prop:=∀(aA:List (aB×mU))(s:bq)(σ:St)(H:Hp)(vs:List V)(us:List aM)(Q:St->Hp->Prop),Inv X aA σ H s->Vals vs us->t vs σ H Q-> b8 (cg X.prog X.w) X.A (assignInOrder ((assignEach ts X.env).map (·.2)) us) (λ_ s'=>∃σ' H',Inv X aA σ' H' s'/\Q σ' H') X.xe s
abbrev ZK:=V->V->V->Hp->(Hp->Prop)->Prop
def ZL(X:Cx)(t:ZK):Prop:=∀(aA:List (aB×mU))(s:bq)(σ:St)(H:Hp)(o i v:V)(ov iv u:aM)(Q:Hp->Prop),Inv X aA σ H s->RelV o ov->RelV i iv->RelV v u->t o i v H Q-> b8 (cg X.prog X.w) X.A (setItem ov iv u) (λ_ s'=>∃H',Inv X aA σ H' s'/\Q H') X.xe s
section
def nJ(i:Nat):TG:=λv σ H Q=>Q (σ.set i (some v)) H
def Tv(hN:X.N.Nodup)(hi:X.N[i]? =some x)(hx:Loc X.env.scope x)(hf:X.fn x=true\/X.env.scope.names.lookup x=some .local:=by first|exact .inl rfl|exact .inr rfl|assumption):PG X (.Name x d_) (nJ i):=by intro aA s σ H v u Q I r h;exact wpAny_assign_Name (HD I hN hi hx r (λs' I'=>⟨_,H,I',h⟩) hf)
inductive ZM(vs:(List V))(σ:St)(H:Hp)(Q:(St->Hp->Prop)):Prop
 |mk(mV:vs=[])(mW:Q σ H)
inductive PJ(t:TG)(u:TGs)(vs:(List V))(σ:St)(H:Hp)(Q:(St->Hp->Prop)):Prop
 |mk(v:_)(r:_)(mV:vs=v::r)(mW:t v σ H fun σ' H'=>u r σ' H' Q)
def A8:PGs X [] ZM:=by intro aA s σ H vs us Q I r h;obtain⟨e,h⟩:=h;subst e;cases r;exact assignInOrder_nil ⟨σ,H,I,h⟩
def nL(h1:PG X e t)(h2:PGs X es u) (hs:(assignEach (e::es) X.env).map (·.2)=assign e X.env::(assignEach es X.env).map (·.2):=by rfl):PGs X (e::es) (PJ t u):=by
 intro aA s σ H vs us Q I r h;obtain⟨v,vr,e1,h⟩:=h;subst e1;cases r with
 |cons r rr=>rw[hs];refine assignInOrder_cons (ic (h1 aA s σ H _ _ _ I r h) λ_ s1⟨σ1,H1,I1,q1⟩=>?_);exact h2 aA s1 σ1 H1 _ _ Q I1 rr q1
inductive ZN(K:aq)(n:Nat)(t:TGs)(v:V)(σ:St)(H:Hp)(Q:(St->Hp->Prop)):Prop
 |mk(a:_)(xs:_)(mV:v= .ref a)(mW:l_ K H a xs)(sS:xs.length=n)(FZ:t xs σ H Q)
def F0(hc:X.calm=true)(h:PGs X es t) (hn:(assignEach es X.env).length=n:=by rfl) (kx:(assignEach es X.env).findIdx? (·.1)=none:=by rfl):PG X (.Tuple es k d_) (ZN X.K n t):=by intro aA s σ H v u Q I r hw;obtain⟨a,xs,e1,hq,hl,hw⟩:=hw;subst e1;cases r;obtain⟨dj,rv,ht,hz⟩:=I.tuple hq;refine assign_Tuple_tuple (I.ok.hd hc) ht (by simp[hn,<-hl,rv.length]) kx λh' hx=>?_;have I1:Inv X aA σ H {s with heap:=h'}:=I.kept (t':=s.toks) λb o e=>hx b o (cE (bF e)) e;exact h aA _ σ H xs _ Q I1 (by simpa using rv) hw
def acZ(to ti:TE)(t:ZK):TG:=λv σ H Q=>to σ H λo H1=>ti σ H1 λi H2=>t o i v H2 λH3=>Q σ H3
def j7(ho:PE X o to)(hi:PE X i ti)(hs:ZL X t) (ha:∀v,assign (.Subscript o i d_) X.env v=(do
   let ov <-holding [v] (eval o X.env);let iv <-holding [v,ov] (eval i X.env);standAt d_
   holding [v,ov,iv] (setItem ov iv v)
   release [v,ov,iv] []):=by intro _;rfl):PG X (.Subscript o i d_) (acZ to ti t):=by
 intro aA s σ H v u Q I r h;rw[ha];refine bR (wpAny_holding (ic (ho aA s σ H _ I h) λov s1⟨x,H1,I1,r1,q1⟩=>?_));refine bR (wpAny_holding (ic (hi aA s1 σ H1 _ I1 q1) λiv s2⟨y,H2,I2,r2,q2⟩=>?_));refine bR (wpAny_standAt (bR (wpAny_holding (ic (hs aA s2 σ H2 x y v ov iv u _ I2 r1 r2 r q2) λ_ s3⟨H3,I3,q3⟩=>?_))));exact wpAny_release ⟨σ,H3,I3,q3⟩
def PK(te:TE)(g:TG):TS:=λD σ H=>te σ H λx H1=>g x σ H1 D.nx
def j8(he:PE X e te)(hg:PG X tg g)(hs:swapsWithSole [tg] e d_.line X.env=pure false:=by rfl)(hw:swappedStores [tg] e X.env=pure none:=by rfl) (h1:(assignEach [tg] X.env).map (·.2)=[assign tg X.env]:=by rfl):PS X (.Assign [tg] e d_) (PK te g):=by intro aA s σ H D I h;refine wpAny_Assign_stores (ic (he aA s σ H _ I h) λv s1⟨x,H1,I1,r1,q1⟩=>?_) hs hw;rw[h1];exact ic (hg aA s1 σ H1 x v _ I1 r1 q1) λ_ s2 q=>q
def WB(hN:X.N.Nodup)(hi:X.N[i]? =some x)(hx:Loc X.env.scope x)(he:PE X e te)(hs:swapsWith e (some (.Name x pos')) d_.line X.env=pure false:=by rfl)(hf:X.fn x=true\/X.env.scope.names.lookup x=some .local:=by first|exact .inl rfl|exact .inr rfl|assumption): PS X (.Assign [.Name x pos'] e d_) (PK te (nJ i)):=by intro aA s σ H D I h;refine wpAny_Assign_Name (ic (he aA s σ H _ I h) λv s1⟨y,H1,I1,r1,q1⟩=>?_) hs;exact HD I1 hN hi hx r1 (λs2 I2=>⟨_,H1,I2,q1⟩) hf
end
section
inductive WC(c:TT)(tb:TS)(D:Ends)(σ:St)(H:Hp):Prop
 |mk(W:Nat->St->Hp->Prop)(mV:(∃m,W m σ H))(mW:∀m σ H,W m σ H->c σ H λb H1=>if b=true then ∃N:St->Hp->Prop,(∀σ' H',N σ' H'->∃m',m'<m/\W m' σ' H')/\tb {D with nx:=N,ct:=N,bk:=D.nx} σ H1 else D.nx σ H1)
def BH(hp:PassesOwn (cg X.prog X.w) X.A X.env X.xe)(hc:PT X c tc)(hb:HE X body tb):PS X (.While c body [] d_) (WC tc tb):=by
 intro aA s σ H D I h;obtain⟨W,⟨m0,w0⟩,turn⟩:=h;refine wpAny_While (codeAny_whileLoop (λn s'=>∃σ' H',Inv X aA σ' H' s'/\W n σ' H') ?_ m0 ⟨σ,H,I,w0⟩);rintro n s1 ⟨σ1,H1,I1,w1⟩;refine wpAny_passesOwn hp (ic (hc aA s1 σ1 H1 _ I1 (turn n σ1 H1 w1)) λb s2⟨H2,I2,q2⟩=>?_);cases b with
 |true=>
  obtain⟨N,hN,q2⟩:=q2;rw[if_pos rfl];refine wpAny_passesOwn hp (ic (hb aA s2 σ1 H2 _ I2 q2) λf s3 q3=>?_);cases f with
  |next=>obtain⟨σ3,H3,I3,n3⟩:=q3;obtain⟨m',hm,w3⟩:=hN σ3 H3 n3;nomatch m',hm,σ3,H3,I3,w3
  |cont=>obtain⟨σ3,H3,I3,n3⟩:=q3;obtain⟨m',hm,w3⟩:=hN σ3 H3 n3;nomatch m',hm,σ3,H3,I3,w3
  |brk=>exact q3
  |ret v=>exact q3
 |false=>rw[if_neg bJ];exact wpAny_execs_nil ⟨σ1,H2,I2,q2⟩
end
structure It where
 go:Nat->Hp->Prop
 Tw:Nat->Hp->V->Hp->Prop
 stop:Nat->Hp->Prop
def BI(X:Cx)(aA:List (aB×mU))(H:Hp)(b:aB):Prop:=H b=none/\b≠X.env.locals/\b∉X.fs/\(b∈X.ex\/X.EN.heap.objs.size<=b)/\(∀x c,X.env.cells.lookup x=some c->c≠b)/\∀p∈X.pn++aA,p.1≠b
def Inv.PL(I:Inv X aA σ H s)(hb:s.heap.objs.size<=b)(hn:H' b=none):BI X aA H' b:=by
 nomatch hn,vk (cB I.lt hb),I.acP hb,.inr (cZ I.sz hb),λx c e z=>?_,λp hp z=>?_
 .obtain⟨v,q⟩:=I.cell x c e;exact absurd (cB q.lt (by rw[z];exact hb)) (gW _)
 .exact absurd (cB (bF (I.pin p hp).1) (by rw[z];exact hb)) (gW _)
structure Turn(P:cq)(w:dH)(K:aq)(tg:jx)(J:It)(fp:List aB)(it:aB)(tn:Nat->gD->Prop):Prop where
 mem:it∈fp
 obj:∀i h,tn i h->∀b∈fp,∃o,h.get? b=some o/\∀v,o.data≠ .cell v
 keep:∀i h h',tn i h->(∀b∈fp,∀o,h.get? b=some o->h'.get? b=some o)->tn i h'
 item:∀(X:Cx),X.prog=P->X.w=w->X.K=K->X.calm=true->∀(i:Nat)(pins:List (aB×mU))(s:bq)(σ:St)(H:Hp)(E:aM->bq->Prop),Inv X pins σ H s->(∀b∈fp,BI X pins H b)->tn i s.heap->J.go i H->
  b8 (cg P w) X.A (pyNext (.ref it)) (λr s1=>∃u,r=some u/\
   b8 (cg P w) X.A (letOwnedTupleGo tg (.ref it) u) (λ_ s2=>∃x H',Inv X pins σ H' s2/\RelV x u/\J.Tw i H x H'/\tn (i+1) s2.heap/\∀b∈fp,H' b=none) E s1) E s
 done:∀(X:Cx),X.prog=P->X.w=w->X.K=K->X.calm=true->∀(i:Nat)(pins:List (aB×mU))(s:bq)(σ:St)(H:Hp)(E:aM->bq->Prop),Inv X pins σ H s->(∀b∈fp,BI X pins H b)->tn i s.heap->J.stop i H->
  b8 (cg P w) X.A (pyNext (.ref it)) (λr s1=>r=none/\Inv X pins σ H s1) E s
 self:∀(A:lE)(i:Nat)(s:bq)(Q:aM->bq->Prop)(E:aM->bq->Prop),tn i s.heap->Q (.ref it) s->b8 (cg P w) A (pyIter (.ref it)) Q E s
abbrev TI:=St->Hp->(It->Hp->Prop)->Prop
def PIE(X:Cx)(aA:List (aB×mU))(σ:St)(tg:jx)(R:It->Hp->Prop)(itv:aM)(s2:bq):Prop:=∃(it:aB)(fp:List aB)(tn:Nat->gD->Prop)(J:It)(H':Hp),itv= .ref it/\Inv X aA σ H' s2/\Turn X.prog X.w X.K tg J fp it tn/\tn 0 s2.heap/\(∀b∈fp,BI X aA H' b)/\R J H'
def PI(X:Cx)(tg iter:jx)(wi:TI):Prop:=∀(aA:List (aB×mU))(s:bq)(σ:St)(H:Hp)(R:It->Hp->Prop),Inv X aA σ H s->wi σ H R-> b8 (cg X.prog X.w) X.A (eval iter X.env) (λv s1=>b8 (cg X.prog X.w) X.A (pyIter v) (PIE X aA σ tg R) X.xe s1) X.xe s
def PM(ho:s.heap.get? it=some o)(hc:o.cls= .type n)(hd:o.data= .fields vs) (hn:["enumerate","zip","dict_itemiterator","dict_reverseitemiterator","odict_iterator","itertools.zip_longest","itertools.pairwise"].contains n=false) (hQ:Q () s):b8 M A (letOwnedTupleGo tg (.ref it) u) Q E s:=by
 unfold letOwnedTupleGo;cases tg<;>first
  |exact dc hQ
  |(cases u<;>first
    |exact dc hQ
    |(refine bR (wpAny_load ho ?_);rw[hc,hd];show b8 M A (if(["enumerate","zip","dict_itemiterator","dict_reverseitemiterator","odict_iterator","itertools.zip_longest","itertools.pairwise"].contains n&&vs[0]? ==some (rawInt _))=true then _ else _) Q E s;rw[if_neg (by intro h;rw[hn,w9]at h;cases h)];exact dc hQ))
def VF(K:aq)(a:aB):It:=⟨λi H=>∃xs x,fT K H a xs/\xs[i]? =some x,λi H x H'=>H'=H/\∀xs,fT K H a xs->xs[i]? =some x,λi H=>∃xs,fT K H a xs/\xs.length<=i⟩
def SY(lo:Int)(n:Nat):It:=⟨λi _=>i<n,λi H x H'=>H'=H/\x= .int (lo+i),λi _=>n<=i⟩
def Ni{P:cq}{w:dH}{K:aq}{tg:jx}(a it:aB):Turn P w K tg (VF K a) [it] it (λi h=>h.IsListIter it a i)where
 mem:=by simp
 obj:=λi h st b hb=>by
  have e:b=it:=by simpa using hb
  subst e
  obtain⟨o,e,c,d⟩:=st
  nomatch o,e,λv z=>by rw[d]at z;cases z
 keep:=λi h h' st k=>st.at λo e=>k it (by simp) o e
 item:=by
  intro X hP hw hK hc i aA s σ H E I hf st hg
  subst hP hw hK
  obtain⟨xs,x,hq,hx⟩:=hg
  obtain⟨dj,rv,p,hz⟩:=I.list hq
  obtain⟨u,hu,ru⟩:=rv.get hx
  obtain⟨f0,f1,f2,f3,f4,f5⟩:=hf it (by simp)
  refine wpAny_pyNext_list_item st p.isList (x:=u) (by simpa using hu) λh' Mb sb=>?_
  have I1:Inv X aA σ H {s with heap:=h'}:=I.turned (t':=s.toks) (λb o hb e=>(sb.2 b hb).trans e) f0 f1 f3 f4 f5
  obtain⟨o,e,c,d⟩:=id Mb
  nomatch u,rfl,PM (s:={s with heap:=h'}) e c d (by decide) ⟨x,H,I1,ru,⟨rfl,λys hy=>by rw[I.HH hy hq];exact hx⟩,Mb,λb hb=>(hf b hb).1⟩
 done:=by
  intro X hP hw hK hc i aA s σ H E I hf st hg
  subst hP hw hK
  obtain⟨xs,hq,hx⟩:=hg
  obtain⟨dj,rv,p,hz⟩:=I.list hq
  obtain⟨f0,f1,f2,f3,f4,f5⟩:=hf it (by simp)
  have hl:=rv.length
  exact wpAny_pyNext_list_end (I.ok.hd hc) st p.isList (by simp;lia) λh' eb=>⟨rfl,I.turned (t':=s.toks) (λb o hb e=>eb b o hb e) f0 f1 f3 f4 f5⟩
 self:=λ_ _ _ _ _ st h=>wpAny_pyIter_listiter st h
def Kl{P:cq}{w:dH}{K:aq}{tg:jx}(it:aB)(lo:Int)(n:Nat):Turn P w K tg (SY lo n) [it] it (λi h=>IsRangeIter h it (lo+(i:Nat)*1) ((n:Int)-(i:Nat)) 1)where
 mem:=by simp
 obj:=λi h st b hb=>by
  have e:b=it:=by simpa using hb
  subst e
  nomatch _,st,λv z=>by
   have z':Data.fields _=Data.cell v:=z
   cases z'
 keep:=λi h h' st k=>k it (by simp) _ st
 item:=by
  intro X hP hw hK hc i aA s σ H E I hf st hg
  subst hP hw hK
  obtain⟨f0,f1,f2,f3,f4,f5⟩:=hf it (by simp)
  have W:=Walks.range (prog:=X.prog) (w:=X.w) (I.ok.hd hc) it lo 1 n
  refine W.item i s _ _ hg st λv h' tk hv Mb kk=>?_
  obtain⟨t,rfl⟩:=hv
  have I1:Inv X aA σ H {s with heap:=h',toks:=tk}:=I.turned (λb o hb e=>kk b o (by simpa using hb) e) f0 f1 f3 f4 f5
  nomatch _,rfl,PM (s:={s with heap:=h',toks:=tk}) (n:="range_iterator") Mb rfl rfl (by decide) ⟨.int (lo+i),H,I1,⟨t,?_⟩,⟨rfl,rfl⟩,Mb,λb hb=>(hf b hb).1⟩
  rw[Int.mul_one]
 done:=by
  intro X hP hw hK hc i aA s σ H E I hf st hg
  subst hP hw hK
  obtain⟨f0,f1,f2,f3,f4,f5⟩:=hf it (by simp)
  exact wpAny_pyNext_range_end (I.ok.hd hc) st (by have:n<=i:=hg;lia) λh' eb=>⟨rfl,I.turned (t':=s.toks) (λb o hb e=>eb b o hb e) f0 f1 f3 f4 f5⟩
 self:=λ_ _ _ _ _ st h=>wpAny_pyIter_rangeiter st h
section
inductive Tx(K:aq)(R:(It->Hp->Prop))(x:V)(H1:Hp):Prop
 |mk(a:_)(mV:x= .ref a)(mW:(∃xs,fT K H1 a xs))(sS:R (VF K a) H1)
def VG(K:aq)(tl:TE):TI:=fun σ H R=>tl σ H λx H1=>Tx K R x H1
def kI{l:jx}{tl:TE}(hl:PE X l tl):PI X tg l (VG X.K tl):=by
 intro aA s σ H R I h;refine ic (hl aA s σ H _ I h) λv s1⟨x,H1,I1,r1,q1⟩=>?_;obtain⟨a,e,⟨xs,hq⟩,q⟩:=q1;subst e;cases r1;obtain⟨dj,rv,p,hz⟩:=I1.list hq;refine wpAny_pyIter_list p.isList ?_;nomatch s1.heap.objs.size,[s1.heap.objs.size],_,_,H1,rfl,I1.kept (t':=s1.toks) λb o e=>bx _ e,Ni a _,⟨_,cv _ rfl,rfl,rfl⟩,λb hb=>?_,q
 have e:b=s1.heap.objs.size:=by simpa using hb
 subst e;exact I1.PL (bw _) (I1.gI.fresh (bw _))
def HI{aA:List (aB×mU)}{σ:St}{H:Hp}{s:bq}{R:It->Hp->Prop}{E:aM->bq->Prop}{lo hi:Int}{t u v:SV}{tk:Nat}(I:Inv X aA σ H s)(h1: -(2^62)<=lo)(h2:lo<2^62)(h3: -(2^62)<=hi)(h4:hi<2^62) (q:R (SY lo (hi-lo).toNat) H):b8 (cg X.prog X.w) X.A (pyIter (.ref s.heap.objs.size)) (PIE X aA σ tg R) E {s with heap:=s.heap.push {cls:=.type "range",data:=.fields #[.int lo t,.int hi u,.int 1 v]},toks:=tk}:=by
 refine wpAny_pyIter_range (IsRange.new ..) (small_one h1 h2 h3 h4) ?_;have I1:Inv X aA σ H {s with heap:=s.heap.push {cls:=.type "range",data:=.fields #[.int lo t,.int hi u,.int 1 v]},toks:=tk}:=I.kept λb o e=>bx _ e;nomatch(s.heap.push {cls:=.type "range",data:=.fields #[.int lo t,.int hi u,.int 1 v]}).objs.size,[(s.heap.push {cls:=.type "range",data:=.fields #[.int lo t,.int hi u,.int 1 v]}).objs.size],_,_,H,rfl,I1.kept (t':=tk) λb o e=>bx _ e,Kl _ lo (hi-lo).toNat,?_,λb hb=>?_,q
 .have e1:lo+((0:Nat):Int)*1=lo:=by simp
  have e2:(((hi-lo).toNat:Nat):Int)-((0:Nat):Int)=Builtin.Range.rangeSize lo hi 1:=by rw[rangeSize_one];split<;>lia
  show IsRangeIter _ _ (lo+((0:Nat):Int)*1) ((((hi-lo).toNat:Nat):Int)-((0:Nat):Int)) 1;rw[e1,e2];exact cv _ rfl
 .have e:b=(s.heap.push {cls:=.type "range",data:=.fields #[.int lo t,.int hi u,.int 1 v]}).objs.size:=by simpa using hb
  subst e;exact I1.PL (bw _) (I1.gI.fresh (bw _))
inductive Tz(R:(It->Hp->Prop))(vs:(List V))(H1:Hp):Prop
 |mk(j:Int)(mV:vs=[.int j])(mW: -(2^62)<=j)(sS:j<2^62)(FZ:R (SY 0 j.toNat) H1)
def ZO(ta:TA):TI:=fun σ H R=>ta σ H λvs H1=>Tz R vs H1
inductive TB(R:(It->Hp->Prop))(vs:(List V))(H1:Hp):Prop
 |mk(i j:Int)(mV:vs=[.int i,.int j])(mW:(-(2^62)<=i/\i<2^62/\ -(2^62)<=j/\j<2^62))(sS:R (SY i (j-i).toNat) H1)
def ZP(ta:TA):TI:=fun σ H R=>ta σ H λvs H1=>TB R vs H1
def ES{a:jx}{ta:TA}{p d_:Nd}(hg:Gl X "range")(hm:X.mg "range"=none)(ha:PA X [a] ta)(hs:bE [a] X.env=[(false,eval a X.env)]:=by rfl):PI X tg (.Call (.Name "range" p) [a] [] d_) (ZO ta):=by
 intro aA s σ H R I h;refine Call_ (BG I hg hm boot_range (j3 (ic (ha d_ aA s σ H _ I h) λus s1⟨vs,H1,I1,r1,q1⟩=>?_) hs rfl));obtain⟨j,e,q1,q2,q⟩:=q1;subst e;cases r1 with
 |cons r rr=>cases rr;obtain⟨t,rfl⟩:=r;exact call_range_1 (HI I1 (by lia) (by lia) q1 q2 (by simpa using q))
def Nj(hg:Gl X "range")(hm:X.mg "range"=none)(ha:PA X [a,b] ta)(hs:bE [a,b] X.env=[(false,eval a X.env),(false,eval b X.env)]:=by rfl)(BJ:bE [b] X.env=[(false,eval b X.env)]:=by rfl): PI X tg (.Call (.Name "range" p) [a,b] [] d_) (ZP ta):=by
 intro aA s σ H R I h;refine Call_ (BG I hg hm boot_range (j3 (ic (ha d_ aA s σ H _ I h) λus s1⟨vs,H1,I1,r1,q1⟩=>?_) (by rw[hs,BJ]) (by rw[BJ];rfl)));obtain⟨i,j,e,⟨q1,q2,q3,q4⟩,q⟩:=q1;subst e;cases r1 with
 |cons r rr=>
  cases rr with
  |cons r' rr=>cases rr;obtain⟨t,rfl⟩:=r;obtain⟨t',rfl⟩:=r';exact call_range_2 (HI I1 q1 q2 q3 q4 q)
def ZQ(wi:TI)(g:TG)(tb:TS):TS:=λD σ H=>wi σ H λJ H1=>∃W:Nat->Nat->St->Hp->Prop,(∃m,W 0 m σ H1)/\∀i m σ H,W i m σ H-> (J.stop i H/\D.nx σ H)\/(J.go i H/\∃N:St->Hp->Prop,(∀σ' H',N σ' H'->∃m',m'<m/\W (i+1) m' σ' H')/\∀x H',J.Tw i H x H'->g x σ H' fun σ2 H2=>tb {D with nx:=N,ct:=N,bk:=D.nx} σ2 H2)
def BK(fp:List aB)(h:gD):List (aB×mU):=fp.filterMap λb=>(h.get? b).map λo=>(b,o)
def wj(hb:b∈fp)(e:h.get? b=some o):(b,o)∈BK fp h:=An.mpr ⟨b,hb,by rw[e];rfl⟩
def Nk(hp:p∈BK fp h):p.1∈fp/\h.get? p.1=some p.2:=by
 obtain⟨b,hb,e⟩:=An.mp hp;cases q:h.get? b with
 |none=>rw[q]at e;cases e
 |some o=>rw[q]at e;have e':(b,o)=p:=af e;subst e';nomatch hb,q
def Inv.pinned(I:Inv X aA σ H s)(hf:∀b∈fp,BI X aA H b)(ho:∀b∈fp,∃o,s.heap.get? b=some o/\∀v,o.data≠ .cell v):Inv X (aA++BK fp s.heap) σ H s:=I.L8 λp hp=>(du.mp hp).elim (λz=>I.pin p (fM _ z)) λz=>by obtain⟨hb,e⟩:=Nk z;obtain⟨f0,f1,f2,_⟩:=hf p.1 hb;obtain⟨o,e',d⟩:=ho p.1 hb;rw[e]at e';cases e';nomatch e,f0,f1,f2,d
def Inv.xj(I:Inv X (aA++pl) σ H s):Inv X aA σ H s:=I.L8 λp hp=>I.pin p (fM _ (wZ _ hp))
def mY(hp:PassesOwn (cg X.prog X.w) X.A X.env X.xe)(hc:X.calm=true)(hi:PI X tg iter wi)(hg:PG X tg g)(hb:HE X body tb) (hs:∀x,foldedSetIterable iter X.env x=pure x:=by intro _;rfl):PS X (.For tg iter body [] d_) (ZQ wi g tb):=by
 intro aA s σ H D I h;refine wpAny_For (ic (hi aA s σ H _ I h) λv s1 h1=>ic h1 λitv s2 h2=>?_) hs;obtain⟨it,fp,tn,J,H2,e,I2,T,st2,f2,W,⟨m0,w0⟩,turn⟩:=h2;subst e;have stat:∀{H':Hp},(∀b∈fp,H' b=none)->∀b∈fp,BI X aA H' b:=λhn b hb=>⟨hn b hb,(f2 b hb).2⟩;refine codeAny_forLoop_any (λn s'=>∃i σ' H',Inv X aA σ' H' s'/\tn i s'.heap/\(∀b∈fp,H' b=none)/\W i n σ' H') ?_ m0 ⟨0,σ,H2,I2,st2,λb hb=>(f2 b hb).1,w0⟩;rintro n s3 ⟨i,σ3,H3,I3,st3,fr3,w3⟩;rcases turn i n σ3 H3 w3 with⟨stop,qn⟩|⟨go,N,hN,step⟩
 .refine wpAny_passesOwn hp (ic (T.done X rfl rfl rfl hc i aA s3 σ3 H3 X.xe I3 (stat fr3) st3 stop) λr s4⟨hr,I4⟩=>?_);subst hr;exact wpAny_execs_nil ⟨σ3,H3,I4,qn⟩
 .refine wpAny_passesOwn hp (ic (T.item X rfl rfl rfl hc i aA s3 σ3 H3 X.xe I3 (stat fr3) st3 go) λr s4⟨u,hr,h4⟩=>?_);subst hr;refine wpAny_passesOwn hp (ic h4 λ_ s5⟨x,H5,I5,r5,y5,YO,fr5⟩=>?_);have I5':=I5.pinned (stat fr5) (T.obj _ _ YO);refine wpAny_passesOwn hp (ic (hg _ s5 σ3 H5 x u _ I5' r5 (step x H5 y5)) λ_ s6⟨σ6,H6,I6,q6⟩=>?_);refine wpAny_passesOwn hp (ic (hb _ s6 σ6 H6 _ I6 q6) λf s7 q7=>?_);have again:∀{σ7:St}{H7:Hp},Inv X (aA++BK fp s5.heap) σ7 H7 s7->N σ7 H7->∃m,m<n/\∃i σ' H',Inv X aA σ' H' s7/\tn i s7.heap/\(∀b∈fp,H' b=none)/\W i m σ' H':=fun{σ7 H7} I7 n7=>by
   obtain⟨m',hm,w7⟩:=hN σ7 H7 n7;nomatch m',hm,i+1,σ7,H7,I7.xj,T.keep _ _ _ YO λb hb o e=>(I7.pin (b,o) (fM _ (fM _ (wj hb e)))).1,λb hb=>?_,w7
   obtain⟨o,e,d⟩:=T.obj _ _ YO b hb;exact(I7.pin (b,o) (fM _ (fM _ (wj hb e)))).2.1
  cases f with
  |next=>obtain⟨σ7,H7,I7,n7⟩:=q7;exact again I7 n7
  |cont=>obtain⟨σ7,H7,I7,n7⟩:=q7;exact again I7 n7
  |brk=>obtain⟨σ7,H7,I7,q7⟩:=q7;nomatch σ7,H7,I7.xj,q7
  |ret v=>obtain⟨x7,σ7,H7,I7,r7,q7⟩:=q7;nomatch x7,σ7,H7,I7.xj,r7,q7
end
def ma{K:aq}{a:aB}{xs:List V}{g:TG}{tb:TS}{D:Ends}{σ:St}{H:Hp}(Pv:Nat->St->Hp->Prop)(h0:Pv 0 σ H)(hl:∀i σ H,i<=xs.length->Pv i σ H->fT K H a xs) (hs:∀i x σ H,xs[i]? =some x->Pv i σ H->g x σ H fun σ2 H2=>tb {D with nx:=Pv (i+1),ct:=Pv (i+1),bk:=D.nx} σ2 H2) (hd:∀σ H,Pv xs.length σ H->D.nx σ H): ∃W:Nat->Nat->St->Hp->Prop,(∃m,W 0 m σ H)/\∀i m σ H,W i m σ H-> ((VF K a).stop i H/\D.nx σ H)\/((VF K a).go i H/\∃N:St->Hp->Prop,(∀σ' H',N σ' H'->∃m',m'<m/\W (i+1) m' σ' H')/\∀x H',(VF K a).Tw i H x H'->g x σ H' fun σ2 H2=>tb {D with nx:=N,ct:=N,bk:=D.nx} σ2 H2):=by
 exists λi m σ H=>m=xs.length-i/\i<=xs.length/\Pv i σ H,⟨xs.length,by simp,bQ _,h0⟩;rintro i m σ H ⟨rfl,hi,p⟩;have q:=hl i σ H hi p;by_cases oB:i<xs.length
 .refine .inr ⟨⟨xs,xs[i],q,by simp[oB]⟩,Pv (i+1),fun σ' H' p'=>⟨xs.length-(i+1),by lia,rfl,oB,p'⟩,λx H' y=>?_⟩;obtain⟨e,y⟩:=y;subst e;exact hs i x σ _ (y xs q) p
 .have e:i=xs.length:=by lia
  subst e;exact .inl ⟨⟨xs,q,bw _⟩,hd σ H p⟩
def ET{lo:Int}{n:Nat}{g:TG}{tb:TS}{D:Ends}{σ:St}{H:Hp}(Pv:Nat->St->Hp->Prop)(h0:Pv 0 σ H) (hs:∀i σ H,i<n->Pv i σ H->g (.int (lo+i)) σ H fun σ2 H2=>tb {D with nx:=Pv (i+1),ct:=Pv (i+1),bk:=D.nx} σ2 H2) (hd:∀σ H,Pv n σ H->D.nx σ H): ∃W:Nat->Nat->St->Hp->Prop,(∃m,W 0 m σ H)/\∀i m σ H,W i m σ H-> ((SY lo n).stop i H/\D.nx σ H)\/((SY lo n).go i H/\∃N:St->Hp->Prop,(∀σ' H',N σ' H'->∃m',m'<m/\W (i+1) m' σ' H')/\∀x H',(SY lo n).Tw i H x H'->g x σ H' fun σ2 H2=>tb {D with nx:=N,ct:=N,bk:=D.nx} σ2 H2):=by
 exists λi m σ H=>m=n-i/\i<=n/\Pv i σ H,⟨n,by simp,bQ _,h0⟩;rintro i m σ H ⟨rfl,hi,p⟩;by_cases oB:i<n
 .refine .inr ⟨oB,Pv (i+1),fun σ' H' p'=>⟨n-(i+1),by lia,rfl,oB,p'⟩,λx H' y=>?_⟩;obtain⟨e,y⟩:=y;subst e y;exact hs i σ _ oB p
 .have e:i=n:=by lia
  subst e;exact .inl ⟨bw _,hd σ H p⟩
abbrev R2:=V->V->Hp->VK->Prop
def wm(X:Cx)(f:aM->aM->acL aM)(r:R2):Prop:=∀(aA:List (aB×mU))(s:bq)(σ:St)(H:Hp)(x y:V)(v u:aM)(Q:VK),Inv X aA σ H s->RelV x v->RelV y u->r x y H Q-> b8 (cg X.prog X.w) X.A (f v u) (EP X aA σ Q) X.xe s
def UnR(X:Cx)(f:aM->acL aM)(r:V->Hp->VK->Prop):Prop:=∀(aA:List (aB×mU))(s:bq)(σ:St)(H:Hp)(x:V)(v:aM)(Q:VK),Inv X aA σ H s->RelV x v->r x H Q-> b8 (cg X.prog X.w) X.A (f v) (EP X aA σ Q) X.xe s
def oC(X:Cx)(f:aM)(r:List V->Hp->VK->Prop):Prop:=∀(aA:List (aB×mU))(s:bq)(σ:St)(H:Hp)(xs:List V)(us:List aM)(Q:VK),Inv X aA σ H s->Vals xs us->r xs H Q-> b8 (cg X.prog X.w) X.A (call f us) (EP X aA σ Q) X.xe s
def ac2(X:Cx)(r:V->Hp->(Bool->Hp->Prop)->Prop):Prop:=∀(aA:List (aB×mU))(s:bq)(σ:St)(H:Hp)(x:V)(v:aM)(Q:Bool->Hp->Prop),Inv X aA σ H s->RelV x v->r x H Q-> b8 (cg X.prog X.w) X.A (truthy v) (TP X aA σ Q) X.xe s
def VH(r:R2)(ta tb:TE):TE:=fun σ H Q=>ta σ H λx H1=>tb σ H1 λy H2=>r x y H2 Q
def tUn(r:V->Hp->VK->Prop)(ta:TE):TE:=fun σ H Q=>ta σ H λx H1=>r x H1 Q
inductive rI(C:Int->Int->Prop)(g:Int->Int->V)(x:V)(y:V)(H:Hp)(Q:VK):Prop
 |mk(i:_)(j:_)(mV:x= .int i)(mW:y= .int j)(sS:C i j)(FZ:Q (g i j) H)
inductive Nl(g:Int->Int->V)(x:V)(y:V)(H:Hp)(Q:VK):Prop
 |mk(i:_)(j:_)(mV:x= .int i)(mW:y= .int j)(sS:Q (g i j) H)
inductive rU(g:Int->V)(x:V)(H:Hp)(Q:VK):Prop
 |mk(i:_)(mV:x= .int i)(mW:Q (g i) H)
section
def WD(ha:PE X a ta)(hb:PE X b tb){aA:List (aB×mU)}{s:bq}{σ:St}{H:Hp}{R:V->V->Hp->Prop}(I:Inv X aA σ H s) (h:ta σ H λx H1=>tb σ H1 λy H2=>R x y H2) {Q:aM->bq->Prop} {f:aM->aM->acL aM} (hf:∀v u s2 x y H2,Inv X aA σ H2 s2->RelV x v->RelV y u->R x y H2->b8 (cg X.prog X.w) X.A (f v u) Q X.xe s2): b8 (cg X.prog X.w) X.A (eval a X.env) (λv s₁=>b8 (cg X.prog X.w) X.A (eval b X.env) (λu s₂=>b8 (cg X.prog X.w) X.A (f v u) Q X.xe s₂) X.xe s₁) X.xe s:=by refine ic (ha aA s σ H _ I h) λv s1⟨x,H1,I1,r1,q1⟩=>?_;refine ic (hb aA s1 σ H1 _ I1 q1) λu s2⟨y,H2,I2,r2,q2⟩=>?_;exact hf v u s2 x y H2 I2 r1 r2 q2
def bO(ho:wm X (binaryOp op) r)(ha:PE X a ta)(hb:PE X b tb):PE X (.BinOp a op b d_) (VH r ta tb):=by intro aA s σ H Q I h;exact wpAny_BinOp (WD ha hb I h λv u s2 x y H2 I2 rx ry q=>ho aA s2 σ H2 x y v u Q I2 rx ry q)
def zN(ho:UnR X (unaryOp op) r)(ha:PE X a ta):PE X (.UnaryOp op a d_) (tUn r ta):=by intro aA s σ H Q I h;exact UnaryOp_ (ic (ha aA s σ H _ I h) λv s1⟨x,H1,I1,r1,q1⟩=>ho aA s1 σ H1 x v Q I1 r1 q1)
def opI{f:aM->aM->acL aM}{C:Int->Int->Prop}{g:Int->Int->Int} (rule:∀(i j:Int)(t u:SV)(s:bq)(Q:aM->bq->Prop)(E:aM->bq->Prop),C i j->Q (.int (g i j) s.toks) {s with toks:=s.toks+1}->b8 (cg X.prog X.w) X.A (f (.int i t) (.int j u)) Q E s): wm X f (rI C λi j=>.int (g i j)):=by intro aA s σ H x y v u Q I rx ry h;obtain⟨i,j,rfl,rfl,hc,q⟩:=h;obtain⟨t,rfl⟩:=rx;obtain⟨t',rfl⟩:=ry;exact rule i j t t' s _ _ hc ⟨.int (g i j),H,I.tok _,⟨_,rfl⟩,q⟩
def PN{f:aM->aM->acL aM}{g:Int->Int->Int} (rule:∀(i j:Int)(t u:SV)(s:bq)(Q:aM->bq->Prop)(E:aM->bq->Prop),Q (.int (g i j) s.toks) {s with toks:=s.toks+1}->b8 (cg X.prog X.w) X.A (f (.int i t) (.int j u)) Q E s): wm X f (Nl λi j=>.int (g i j)):=by intro aA s σ H x y v u Q I rx ry h;obtain⟨i,j,rfl,rfl,q⟩:=h;obtain⟨t,rfl⟩:=rx;obtain⟨t',rfl⟩:=ry;exact rule i j t t' s _ _ ⟨.int (g i j),H,I.tok _,⟨_,rfl⟩,q⟩
def TC{f:aM->aM->acL aM}{g:Int->Int->Bool} (rule:∀(i j:Int)(t u:SV)(s:bq)(Q:aM->bq->Prop)(E:aM->bq->Prop),Q (.bool (g i j)) s->b8 (cg X.prog X.w) X.A (f (.int i t) (.int j u)) Q E s): wm X f (Nl λi j=>.bl (g i j)):=by intro aA s σ H x y v u Q I rx ry h;obtain⟨i,j,rfl,rfl,q⟩:=h;obtain⟨t,rfl⟩:=rx;obtain⟨t',rfl⟩:=ry;exact rule i j t t' s _ _ ⟨.bl (g i j),H,I,rfl,q⟩
def ac3(i j:Int):Prop:=0<j/\j<1073741824
def WE(i j:Int):Prop:=(-(2^64)<i/\i<2^64)\/(-(2^64)<j/\j<2^64)
def WE.ok(h:WE i j):IntMulOk i j:=by
 rcases h with⟨h1,h2⟩|⟨h1,h2⟩
 .exact .of_left (intBits_le_64 h1 h2)
 .exact .of_right (intBits_le_64 h1 h2)
def Km(k:Nat):(0:Int)<=2^k:=by rw[two_pow_cast];exact Int.natCast_nonneg _
def eJ:wm X (binaryOp .Add) (Nl λi j=>.int (i+j)):=PN λ_ _ _ _ _ _ _ q=>add_int q
def md:wm X (binaryOp .Sub) (Nl λi j=>.int (i-j)):=PN λ_ _ _ _ _ _ _ q=>sub_int q
def wo:wm X (binaryOp .Mult) (rI WE λi j=>.int (i*j)):=opI λ_ _ _ _ _ _ _ hc q=>mul_int q hc.ok
def uI:wm X (binaryOp .FloorDiv) (rI ac3 λi j=>.int (i/j)):=opI λi j _ _ _ _ _ hc q=>by have h1:(0:Int)<j:=hc.1;have h2:j<1073741824:=hc.2;exact floordiv_int (by lia) (by rw[J0 i (by lia)];exact q) (.inl (PyProof.noPylong_small (by lia)))
def yU:wm X (binaryOp .Mod) (rI (λ_ j=>0<j) λi j=>.int (i%j)):=opI λi j _ _ _ _ _ hc q=>by have h1:(0:Int)<j:=hc;exact mod_int' (by lia) (by rw[Int.fmod_eq_emod_of_nonneg i (by lia)];exact q)
def yV:wm X (binaryOp .RShift) (rI (λ_ j=>0<=j) λi j=>.int (i/2^j.toNat)):=opI λi j _ _ _ _ _ hc q=>rshift_int hc (by rw[J0 i (Km _)];exact q)
def jJ:wm X (binaryOp .BitAnd) (Nl λi j=>.int (cj i j)):=PN λ_ _ _ _ _ _ _ q=>and_int q
def PQ:wm X (binaryOp .BitOr) (Nl λi j=>.int (rm i j)):=PN λ_ _ _ _ _ _ _ q=>or_int q
def F1:wm X (binaryOp .BitXor) (Nl λi j=>.int (vm i j)):=PN λ_ _ _ _ _ _ _ q=>xor_int q
def unI{f:aM->acL aM}{g:Int->Int} (rule:∀(i:Int)(t:SV)(s:bq)(Q:aM->bq->Prop)(E:aM->bq->Prop),Q (.int (g i) s.toks) {s with toks:=s.toks+1}->b8 (cg X.prog X.w) X.A (f (.int i t)) Q E s): UnR X f (rU λi=>.int (g i)):=by intro aA s σ H x v Q I rx h;obtain⟨i,rfl,q⟩:=h;obtain⟨t,rfl⟩:=rx;exact rule i t s _ _ ⟨.int (g i),H,I.tok _,⟨_,rfl⟩,q⟩
def tG:UnR X (unaryOp .USub) (rU λi=>.int (-i)):=unI λ_ _ _ _ _ q=>neg_int q
end
def PR:V->V->Bool
 | .eY,.eY=>true| .eY,.int _=>true| .int _,.eY=>true| .eY,.bl _=>true| .bl _,.eY=>true| .eY,.str _=>true| .str _,.eY=>true
 | .int _,.int _=>true| .bl _,.bl _=>true| .str _,.str _=>true| .DS _,.DS _=>true
 | .int _,.str _=>true| .str _,.int _=>true| .bl _,.str _=>true| .str _,.bl _=>true
 |_,_=>false
inductive rEq(x:V)(y:V)(H:Hp)(Q:VK):Prop
 |mk(mV:PR x y=true)(mW:Q (.bl (decide (x=y))) H)
inductive rNe(x:V)(y:V)(H:Hp)(Q:VK):Prop
 |mk(mV:PR x y=true)(mW:Q (.bl (!decide (x=y))) H)
def Mc:decide (V.int i=V.int j)=(i==j):=by rw[pJ];simp
def PU:decide (V.bl i=V.bl j)=(i==j):=by rw[pJ];simp
def Md:decide (V.str i=V.str j)=(i==j):=by rw[pJ];simp
def Me:decide (V.DS i=V.DS j)=(i.toList==j.toList):=by rw[pJ];cases i;cases j;simp
section
def gF(I:Inv X aA σ H s)(q:Q (.bl k) H)(e:k=k'):EP X aA σ Q (.bool k') s:=by subst e;nomatch .bl k,H,I,rfl,q
def fD:wm X (gN .Eq) rEq:=by
 intro aA s σ H x y v u Q I rx ry h;obtain⟨hs,q⟩:=h;cases x with
 |eY=>
  cases rx;cases y with
  |eY=>cases ry;exact PySem.EqNone.eq_none_none (gF I q (by simp))
  |bl j=>cases ry;exact PySem.EqNone.eq_none_bool (gF I q (by simp))
  |int j=>obtain⟨t',rfl⟩:=ry;exact PySem.EqNone.eq_none_int (gF I q (by simp))
  |str j=>obtain⟨t',rfl⟩:=ry;exact PySem.EqNone.eq_none_str (gF I q (by simp))
  |_=>exact absurd (show false=true from hs) bJ
 |bl i=>
  cases rx;cases y with
  |eY=>cases ry;exact PySem.EqNone.eq_bool_none (gF I q (by simp))
  |bl j=>cases ry;exact eq_bool (gF I q PU)
  |str j=>obtain⟨t',rfl⟩:=ry;exact PySem.EqMixed.eq_bool_str (gF I q (by simp))
  |_=>exact absurd (show false=true from hs) bJ
 |int i=>
  obtain⟨t,rfl⟩:=rx;cases y with
  |eY=>cases ry;exact PySem.EqNone.eq_int_none (gF I q (by simp))
  |int j=>obtain⟨t',rfl⟩:=ry;exact eq_int (gF I q Mc)
  |str j=>obtain⟨t',rfl⟩:=ry;exact PySem.EqMixed.eq_int_str (gF I q (by simp))
  |_=>exact absurd (show false=true from hs) bJ
 |str i=>
  obtain⟨t,rfl⟩:=rx;cases y with
  |eY=>cases ry;exact PySem.EqNone.eq_str_none (gF I q (by simp))
  |bl j=>cases ry;exact PySem.EqMixed.eq_str_bool (gF I q (by simp))
  |int j=>obtain⟨t',rfl⟩:=ry;exact PySem.EqMixed.eq_str_int (gF I q (by simp))
  |str j=>obtain⟨t',rfl⟩:=ry;exact eq_str (gF I q Md)
  |_=>exact absurd (show false=true from hs) bJ
 |DS i=>
  obtain⟨t,rfl⟩:=rx;cases y with
  |DS j=>obtain⟨t',rfl⟩:=ry;exact PySem.W.eq_bytes (gF I q Me)
  |_=>exact absurd (show false=true from hs) bJ
 |_=>cases y<;>exact absurd (show false=true from hs) bJ
def k_:wm X (gN .NotEq) rNe:=by
 intro aA s σ H x y v u Q I rx ry h;obtain⟨hs,q⟩:=h;cases x with
 |eY=>
  cases rx;cases y with
  |eY=>cases ry;exact PySem.EqNone.ne_none_none (gF I q (by simp))
  |bl j=>cases ry;exact PySem.EqNone.ne_none_bool (gF I q (by simp))
  |int j=>obtain⟨t',rfl⟩:=ry;exact PySem.EqNone.ne_none_int (gF I q (by simp))
  |str j=>obtain⟨t',rfl⟩:=ry;exact PySem.EqNone.ne_none_str (gF I q (by simp))
  |_=>exact absurd (show false=true from hs) bJ
 |bl i=>
  cases rx;cases y with
  |eY=>cases ry;exact PySem.EqNone.ne_bool_none (gF I q (by simp))
  |bl j=>cases ry;exact ne_bool (gF I q (congrArg not PU))
  |str j=>obtain⟨t',rfl⟩:=ry;exact PySem.EqMixed.ne_bool_str (gF I q (by simp))
  |_=>exact absurd (show false=true from hs) bJ
 |int i=>
  obtain⟨t,rfl⟩:=rx;cases y with
  |eY=>cases ry;exact PySem.EqNone.ne_int_none (gF I q (by simp))
  |int j=>obtain⟨t',rfl⟩:=ry;exact ne_int (gF I q (congrArg not Mc))
  |str j=>obtain⟨t',rfl⟩:=ry;exact PySem.EqMixed.ne_int_str (gF I q (by simp))
  |_=>exact absurd (show false=true from hs) bJ
 |str i=>
  obtain⟨t,rfl⟩:=rx;cases y with
  |eY=>cases ry;exact PySem.EqNone.ne_str_none (gF I q (by simp))
  |bl j=>cases ry;exact PySem.EqMixed.ne_str_bool (gF I q (by simp))
  |int j=>obtain⟨t',rfl⟩:=ry;exact PySem.EqMixed.ne_str_int (gF I q (by simp))
  |str j=>obtain⟨t',rfl⟩:=ry;exact ne_str (gF I q (congrArg not Md))
  |_=>exact absurd (show false=true from hs) bJ
 |DS i=>
  obtain⟨t,rfl⟩:=rx;cases y with
  |DS j=>obtain⟨t',rfl⟩:=ry;exact PySem.W.ne_bytes (gF I q (congrArg not Me))
  |_=>exact absurd (show false=true from hs) bJ
 |_=>cases y<;>exact absurd (show false=true from hs) bJ
def tH:wm X (gN .Lt) (Nl λi j=>.bl (decide (i<j))):=TC λ_ _ _ _ _ _ _ q=>lt_int q
def zO:wm X (gN .LtE) (Nl λi j=>.bl (decide (i<=j))):=TC λ_ _ _ _ _ _ _ q=>le_int q
def o7:wm X (gN .Gt) (Nl λi j=>.bl (decide (j<i))):=TC λ_ _ _ _ _ _ _ q=>gt_int q
def HJ:wm X (gN .GtE) (Nl λi j=>.bl (decide (j<=i))):=TC λ_ _ _ _ _ _ _ q=>ge_int q
def bD(b:jx)(h:op≠ .In:=by decide)(h2:op≠ .NotIn:=by decide):behindInMarks op b=false:=by
 have e1:(op==CmpOp.In)=false:=by cases op<;>first|rfl|exact absurd rfl h
 have e2:(op==CmpOp.NotIn)=false:=by cases op<;>first|rfl|exact absurd rfl h2
 cases b<;>simp[behindInMarks,e1,e2]
def gL(ho:wm X (gN op) r)(ha:PE X a ta)(hb:PE X b tb)(hm:behindInMarks op b=false):PE X (.Compare a [op] [b] d_) (VH r ta tb):=by intro aA s σ H Q I h;exact wpAny_Compare1 (WD ha hb I h λv u s2 x y H2 I2 rx ry q=>ho aA s2 σ H2 x y v u Q I2 rx ry q) hm
inductive TF(Q:(Bool->Hp->Prop))(x:V)(H':Hp):Prop
 |mk(k:_)(mV:x= .bl k)(mW:Q k H')
def PX(t:TE):TT:=fun σ H Q=>t σ H λx H'=>TF Q x H'
def bg(ho:wm X (gN op) r)(ha:PE X a ta)(hb:PE X b tb)(hm:behindInMarks op b=false):PT X (.Compare a [op] [b] d_) (PX (VH r ta tb)):=by intro aA s σ H Q I h;refine wpAny_isTrue_Compare1 (ic (ha aA s σ H _ I h) λv s1⟨x,H1,I1,r1,q1⟩=>ic (hb aA s1 σ H1 _ I1 q1) λu s2⟨y,H2,I2,r2,q2⟩=>ic (ho aA s2 σ H2 x y v u _ I2 r1 r2 q2) λc s3⟨z,H3,I3,r3,k,e,q3⟩=>?_) hm;subst e;cases r3;exact wpAny_truthy_bool ⟨H3,I3,q3⟩
inductive PY(r':R2)(tc:TE)(σ:St)(Q:VK)(y:V)(z:V)(H3:Hp):Prop
 |mk(k:_)(mV:z= .bl k)(mW:(if k=true then tc σ H3 λw' H4=>r' y w' H4 Q else Q (.bl false) H3))
def PZ(r r':R2)(ta tb tc:TE):TE:=fun σ H Q=>ta σ H λx H1=>tb σ H1 λy H2=>r x y H2 λz H3=>PY r' tc σ Q y z H3
def P0(ho:wm X (gN op) r)(u9:wm X (gN ZR) r')(ha:PE X a ta)(hb:PE X b tb)(hc:PE X c tc) (hm:lastMarks [op,ZR] [b,c]=false:=by with_unfolding_all rfl):PE X (.Compare a [op,ZR] [b,c] d_) (PZ r r' ta tb tc):=by
 intro aA s σ H Q I h;refine Compare_chain (ic (ha aA s σ H _ I h) λv s1⟨x,H1,I1,r1,q1⟩=>chain_link (ic (hb aA s1 σ H1 _ I1 q1) λu s2⟨y,H2,I2,r2,q2⟩=>ic (ho aA s2 σ H2 x y v u _ I2 r1 r2 q2) λd s3⟨z,H3,I3,r3,k,e,q3⟩=>?_)) hm;subst e;cases r3;refine wpAny_truthy_bool ?_;cases k with
 |false=>exact ite_ff ⟨.bl false,H3,I3,rfl,q3⟩
 |true=>exact ite_tt (chain_last (ic (hc aA s3 σ H3 _ I3 q3) λw' s4⟨z',H4,I4,r4,q4⟩=>u9 aA s4 σ H4 y z' u w' Q I4 r2 r4 q4))
def xk(ho:wm X (gN op) r)(u9:wm X (gN ZR) r')(ha:PE X a ta)(hb:PE X b tb)(hc:PE X c tc) (hm:lastMarks [op,ZR] [b,c]=false:=by with_unfolding_all rfl):PT X (.Compare a [op,ZR] [b,c] d_) (PX (PZ r r' ta tb tc)):=by
 intro aA s σ H Q I h;refine isTrue_chain (ic (ha aA s σ H _ I h) λv s1⟨x,H1,I1,r1,q1⟩=>test_link (ic (hb aA s1 σ H1 _ I1 q1) λu s2⟨y,H2,I2,r2,q2⟩=>ic (ho aA s2 σ H2 x y v u _ I2 r1 r2 q2) λd s3⟨z,H3,I3,r3,k,e,q3⟩=>?_)) hm;subst e;cases r3;refine wpAny_truthy_bool ?_;cases k with
 |false=>obtain⟨k',e',q'⟩:=q3;cases e';exact ite_ff ⟨H3,I3,q'⟩
 |true=>refine ite_tt (test_last (ic (hc aA s3 σ H3 _ I3 q3) λw' s4⟨z',H4,I4,r4,q4⟩=>ic (u9 aA s4 σ H4 y z' u w' _ I4 r2 r4 q4) λd' s5⟨z2,H5,I5,r5,k2,e2,q5⟩=>?_));subst e2;cases r5;exact wpAny_truthy_bool ⟨H5,I5,q5⟩
def ZS(K:aq)(x:V)(H:Hp)(k:Bool):Prop:=match x with
 | .eY=>k=false
 | .bl b=>k=b
 | .int i=>k=(i !=0)
 | .str y=>y.length<=aH/\k=((y.length:Int)!=0)
 | .DS y=>y.size<=aH/\k=((y.size:Int)!=0)
 | .ref p=>(∃xs,fT K H p xs/\k= !xs.isEmpty)\/(∃xs,l_ K H p xs/\k= !xs.isEmpty)\/∃dh,H p=some (.dK dh)/\k= !dh.isEmpty
 |_=>False
def Kn(r:KV dh vs):(!vs.isEmpty)= !dh.isEmpty:=by cases r<;>rfl
def BM(r:Vals xs dj):(!dj.toArray.isEmpty)= !xs.isEmpty:=by cases r<;>simp
def yW:(aH:Nat)<2^63:=by rw[sizeLine_eq];decide
def WG:ac2 X (λx H Q=>∃k,ZS X.K x H k/\Q k H):=by
 intro aA s σ H x v Q I rx h;obtain⟨k,e,q⟩:=h;have hl:=yW;have hs:aH=16777216:=sizeLine_eq;cases x with
 |eY=>cases rx;have e':k=false:=e;subst e';exact truthy_none ⟨H,I,q⟩
 |bl b=>cases rx;have e':k=b:=e;subst e';exact wpAny_truthy_bool ⟨H,I,q⟩
 |int i=>obtain⟨t,rfl⟩:=rx;have e':k=(i !=0):=e;subst e';exact O5 ⟨H,I,q⟩
 |str y=>obtain⟨t,rfl⟩:=rx;obtain⟨hy,e'⟩:y.length<=aH/\k=((y.length:Int)!=0):=e;subst e';exact PySem.P.truthy_str (by lia) ⟨H,I.tok _,q⟩
 |DS y=>obtain⟨t,rfl⟩:=rx;obtain⟨hy,e'⟩:y.size<=aH/\k=((y.size:Int)!=0):=e;subst e';exact PySem.W.truthy_bytes (by lia) ⟨H,I.tok _,q⟩
 |ref p=>
  cases rx;have e':(∃xs,fT X.K H p xs/\k= !xs.isEmpty)\/(∃xs,l_ X.K H p xs/\k= !xs.isEmpty)\/∃dh,H p=some (.dK dh)/\k= !dh.isEmpty:=e;rcases e' with⟨xs,hx,e'⟩|⟨xs,hx,e'⟩|⟨dh,hx,e'⟩
  .subst e';obtain⟨dj,r,pl,hz⟩:=I.list hx;have hlen:=r.length;exact wpAny_truthy_list pl.isList (by simp only[bG];lia) ⟨H,I.tok _,by rw[BM r];exact q⟩
  .subst e';obtain⟨dj,r,pl,hz⟩:=I.tuple hx;have hlen:=r.length;exact truthy_tuple pl (by simp only[bG];lia) ⟨H,I.tok _,by rw[BM r];exact q⟩
  .subst e';obtain⟨hz,hS,vs,r,m⟩:dh.length<=aH/\(p==iX)=false/\∃vs,KV dh vs/\s.heap.DictOf (hW X.prog X.w) p vs:=I.gI p _ hx;have hlen:dh.length=vs.length:=Paired.length r;exact wpAny_truthy_dict hS m (by lia) ⟨H,I.tok _,by rw[Kn r];exact q⟩
 |_=>exact(show False from e).elim
def HK(ha:PE X a ta)(he:∀whole,isTrue a X.env whole=(do let v <-whole;standAt a.pos;holding [v] (truthy v))): PT X a (fun σ H Q=>ta σ H λx H'=>∃k,ZS X.K x H' k/\Q k H'):=by intro aA s σ H Q I h;exact isTrue_plain (ic (ha aA s σ H _ I h) λv s1⟨x,H1,I1,r1,q1⟩=>WG aA s1 σ H1 x v Q I1 r1 q1) (he _)
def vals1(r:Vals [x] us):∃u,us=[u]/\RelV x u:=by
 cases r with
 |cons r1 r2=>cases r2;nomatch _,rfl,r1
def vals2(r:Vals [x,y] us):∃u w',us=[u,w']/\RelV x u/\RelV y w':=by
 cases r with
 |cons r1 r2=>
  cases r2 with
  |cons r3 r4=>cases r4;nomatch _,_,rfl,r1,r3
def Nm(hc:X.calm=true):oC X (.builtin "max") (λxs H Q=>∃i j,xs=[.int i,.int j]/\Q (.int (if j>i then j else i)) H):=by
 intro aA s σ H xs us Q I r h;obtain⟨i,j,rfl,q⟩:=h;obtain⟨u,w',rfl,⟨t,rfl⟩,⟨t',rfl⟩⟩:=vals2 r;refine max_two_ints (I.ok.hd hc) λh' tk k=>⟨_,H,I.kept k,?_,q⟩;by_cases hj:j>i
 .rw[if_pos hj,if_pos hj];nomatch _,rfl
 .rw[if_neg hj,if_neg hj];nomatch _,rfl
def kJ(hc:X.calm=true):oC X (.builtin "min") (λxs H Q=>∃i j,xs=[.int i,.int j]/\Q (.int (if j<i then j else i)) H):=by
 intro aA s σ H xs us Q I r h;obtain⟨i,j,rfl,q⟩:=h;obtain⟨u,w',rfl,⟨t,rfl⟩,⟨t',rfl⟩⟩:=vals2 r;refine min_two_ints (I.ok.hd hc) λh' tk k=>⟨_,H,I.kept k,?_,q⟩;by_cases hj:j<i
 .rw[if_pos hj,if_pos hj];nomatch _,rfl
 .rw[if_neg hj,if_neg hj];nomatch _,rfl
def oO:oC X (.type "str") (λxs H Q=>∃i,xs=[.int i]/\i.natAbs.log2<1920/\Q (.str (toString i)) H):=by intro aA s σ H xs us Q I r h;obtain⟨i,rfl,hz,q⟩:=h;obtain⟨u,rfl,t,rfl⟩:=vals1 r;exact PySem.P.str_of_int hz ⟨.str _,H,I.tok _,⟨_,rfl⟩,q⟩
def P1:oC X (.builtin "ord") (λxs H Q=>∃x,xs=[.str x]/\x.length=1/\Q (.int (x.cps.getD 0 0:Nat)) H):=by intro aA s σ H xs us Q I r h;obtain⟨x,rfl,hz,q⟩:=h;obtain⟨u,rfl,t,rfl⟩:=vals1 r;exact ord_of_one hz ⟨.int _,H,I.tok _,⟨_,rfl⟩,q⟩
def WH(K:aq)(x:V)(H:Hp)(n:Nat):Prop:=match x with
 | .str y=>y.length<=aH/\n=y.length
 | .DS y=>y.size<=aH/\n=y.size
 | .ref p=>(∃xs,fT K H p xs/\n=xs.length)\/∃xs,l_ K H p xs/\n=xs.length
 |_=>False
def cV:oC X (.builtin "len") (λxs H Q=>∃x n,xs=[x]/\WH X.K x H n/\Q (.int n) H):=by
 intro aA s σ H xs us Q I r h;obtain⟨x,n,rfl,e,q⟩:=h;obtain⟨u,rfl,rx⟩:=vals1 r;have hl:=yW;have hs:aH=16777216:=sizeLine_eq;cases x with
 |str y=>obtain⟨t,rfl⟩:=rx;obtain⟨hy,e'⟩:y.length<=aH/\n=y.length:=e;subst e';exact len_str (by lia) ⟨.int _,H,I.tok _,⟨_,rfl⟩,q⟩
 |DS y=>obtain⟨t,rfl⟩:=rx;obtain⟨hy,e'⟩:y.size<=aH/\n=y.size:=e;subst e';exact PySem.W.len_bytes (by lia) ⟨.int _,H,I.tok _,⟨_,rfl⟩,q⟩
 |ref p=>
  cases rx;have e':(∃xs,fT X.K H p xs/\n=xs.length)\/∃xs,l_ X.K H p xs/\n=xs.length:=e;rcases e' with⟨xs,hx,e'⟩|⟨xs,hx,e'⟩
  .subst e';obtain⟨dj,r',pl,hz⟩:=I.list hx;have hlen:=r'.length;exact Calls.call_len_list pl.isList (by simp only[bG];lia) ⟨.int xs.length,H,I.tok _,⟨_,by simp only[bG];rw[hlen]⟩,q⟩
  .subst e';obtain⟨dj,r',pl,hz⟩:=I.tuple hx;have hlen:=r'.length;exact len_tuple pl (by simp only[bG];lia) ⟨.int xs.length,H,I.tok _,⟨_,by simp only[bG];rw[hlen]⟩,q⟩
 |_=>exact(show False from e).elim
end
structure Ko(h:gD)(x dx C:aB)(mA:bL->Option aM):Prop where
 obj:h.get? x=some (jj C dx)
 ns:h.Ns1 dx mA
 ne:dx≠x
def Np{h:gD}{dx:aB}{mA:bL->Option aM}(n:h.Ns1 dx mA):∃od,h.get? dx=some od/\∀name,vn name od=some (mA name):=by
 obtain⟨o,es,ep,ho,hd,hk,_,hm⟩:=n;nomatch o,ho,λname=>?_
 have e:=hm name;unfold nsFind findBy at e;rw[<-Array.find?_toList]at e;unfold vn;rw[hd];dsimp only;split
 .rename_i y q;rw[q]at e;exact congrArg some e
 .rename_i q;rw[q]at e;have a:es.toList.any (·.refKey)=false:=by rw[Vr];intro y hy;obtain⟨z,t,WI⟩:=hk y (Array.mem_toList_iff.mp hy);simp[DictEntry.refKey,WI]
  have a':¬es.toList.any (·.refKey)=true:=by rw[a];exact bJ
  rw[if_neg a'];exact congrArg some e
def Ko.look(I:Ko h x dx C mA):∃od,PySem.W.InstAt h x (jj C dx) C (some od)/\∀name,vn name od=some (mA name):=
 let⟨od,ho,hl⟩:=Np I.ns;⟨od,⟨I.obj,rfl,rfl,ho⟩,hl⟩
section
variable{prog:cq}{w:dH}{A:lE}{E:aM->bq->Prop}{s:bq}{K:aq}{x dx C f:aB}{mA:bL->Option aM}{name:bL}{v:aM}
def get_map(X:K.In s.heap)(I:Ko s.heap x dx C mA)(hg:sf K C name=true)(hh:zK K C=true) (ha:gw K (.ref C) name=some none) (hv:mA name=some v) (hv':SJ v=true) (h:Q v {s with toks:=s.toks+1}): b8 (cg prog w) A (getAttr (.ref x) name expr) Q E s:=by obtain⟨od,J,hl⟩:=I.look;exact PySem.W.get_value X J (wV hg).1 (PySem.W.findObj_own hh ha rfl (by rw[hl,hv])) hv' h
def P2(X:K.In s.heap)(I:Ko s.heap x dx C mA)(hg:sf K C name=true) (hf:gw K (.ref C) name=some (some (.ref f))) (ht:sX K (.ref f)=true) (hv:mA name=none) (h:Q (.ref f,[.ref x]) s): b8 (cg prog w) A (getMethod (.ref x) name pl) Q E s:=by obtain⟨od,J,hl⟩:=I.look;exact PySem.W.method_fn X J (wV hg).1 (wV hg).2 hf (beq_iff_eq.mp ht) (by show(vn name od).map (·.isSome)=some false;rw[hl,hv];rfl) h
def TH(X:K.In s.heap)(I:Ko s.heap x dx C mA) (hs:gw K (.ref C) "__setattr__"=some (some (.builtin "object.__setattr__"))) (hp:Pn K C=true) (ht:DD K C name=some none) (hh:zK K C=true) (hw:LY mA ns) (hsz:ns.length<=aH) (h:∀h',Ko h' x dx C (λy=>if y=name then some v else mA y)->Bu dx s.heap h'->Q () {s with heap:=h',toks:=s.toks+2}): b8 (cg prog w) A (setAttr (.ref x) name v) Q E s:=by obtain⟨od,J,hl⟩:=I.look;refine PySem.W.set_plain X J hs (PySem.W.osa_open (s:={s with toks:=s.toks+1}) (r:=none) X J hp ht λb=>?_);obtain⟨cd,hc,DN⟩:=PySem.W.any_some hh;have hx:s.heap.get? x=some ⟨.ref C,some dx,.plain,#[]⟩:=I.obj;refine bR (dc (bR (bR (wpAny_loadPart hx (bR (PySem.W.Looks.here (s:={s with toks:=s.toks+1}) (PySem.W.looks_clsIn X hc) ?_))))));rw[DN];refine dc (a:=some dx) (bR (dc (bR ?_)));refine wpAny_nsSet1 (s:={s with toks:=s.toks+1}) I.ns λh' ZT BJ=>?_;obtain⟨oD,esD,epD,hoD,hdD,hcD⟩:=ZT.count (PySem.Within.cons name v hw);refine bR (wpAny_lookBehind hoD (by rw[hdD];exact pastItsLine_dict (cZ hcD (by rw[aN];lia))) ?_);exact dc (h _ ⟨(BJ.2 _ (aL I.ne)).trans I.obj,ZT,I.ne⟩ BJ)
def P4(X:K.In s.heap)(hm:DE K C=true) (hi:gw K (.ref C) "__init__"=some (some (.ref f))) (hf:PySem.W.typeIn K (.ref f)=some (.type "function")) (h:codeAny (cg prog w) (A.under (.builtin "type.__call__" ⟨.ref C::vs,kw⟩)) (.call (.ref f) ⟨.ref (s.heap.objs.size+1)::vs,kw⟩) (PySem.W.InitBack (s.heap.objs.size+1) R) {s with heap:=(s.heap.push gO).push (jj C s.heap.objs.size)}): codeAny (cg prog w) A (.call (.ref C) ⟨vs,kw⟩) R s:=by obtain⟨hh,g,d,t,os⟩:=s;exact PySem.W.make_core (PySem.W.makes_of X hm) (PySem.W.looks_findIn X hi) (λself=>PySem.W.bind_fn X self hf) (.inl rfl) h
end
def fm(f:bL)(v:V):List (bL×V)->List (bL×V)
 | []=>[(f,v)]
 |(g,x)::r=>if g=f then(g,v)::r else(g,x)::fm f v r
theorem zP(f g:bL)(v:V):∀fs:List (bL×V),(fm f v fs).lookup g=if g=f then some v else fs.lookup g
 | []=>by
  show mG g [(f,v)]=_;by_cases h:g=f
  .have hb:(g==f)=true:=beq_iff_eq.mpr h;simp only[mG,hb,if_pos h]
  .have hb:(g==f)=false:=beq_eq_false_iff_ne.mpr h;simp only[mG,hb,if_neg h]
 |(k,x)::r=>by
  have ih:=zP f g v r;rw[show fm f v ((k,x)::r)=(if k=f then(k,v)::r else(k,x)::fm f v r)from rfl];by_cases hk:k=f
  .rw[if_pos hk];by_cases h:g=k
   .have hb:(g==k)=true:=beq_iff_eq.mpr h;simp only[mG,hb,if_pos (h.trans hk)]
   .have hb:(g==k)=false:=beq_eq_false_iff_ne.mpr h;simp only[mG,hb,if_neg (λe:g=f=>h (e.trans hk.symm))]
  .rw[if_neg hk];by_cases h:g=k
   .have hb:(g==k)=true:=beq_iff_eq.mpr h;simp only[mG,hb,if_neg (λe:g=f=>hk (h.symm.trans e))]
   .have hb:(g==k)=false:=beq_eq_false_iff_ne.mpr h;simp only[mG,hb];exact ih
theorem yX(f:bL)(v:V):∀fs:List (bL×V),f∈(fm f v fs).map (·.1)/\∀g,g∈fs.map (·.1)->g∈(fm f v fs).map (·.1)
 | []=>⟨by simp[fm],λg h=>by simp at h⟩
 |(k,x)::r=>by
  obtain⟨i1,i2⟩:=yX f v r;rw[show fm f v ((k,x)::r)=(if k=f then(k,v)::r else(k,x)::fm f v r)from rfl];by_cases hk:k=f
  .rw[if_pos hk];subst hk;nomatch by simp,λg h=>by simpa using h
  .rw[if_neg hk];nomatch ?_,λg h=>?_
   .rw[bp];exact bo _ i1
   .rw[bp]at h ⊢;rcases ak.mp h with e|e
    .exact ak.mpr (.inl e)
    .exact bo _ (i2 g e)
theorem zQ(f:bL)(v:V):∀fs:List (bL×V),(fm f v fs).length<=fs.length+1
 | []=>by simp[fm]
 |(k,x)::r=>by
  have ih:=zQ f v r;rw[show fm f v ((k,x)::r)=(if k=f then(k,v)::r else(k,x)::fm f v r)from rfl];by_cases hk:k=f
  .rw[if_pos hk,aN,aN];lia
  .rw[if_neg hk,aN,aN];lia
def tq.some_of(r:tq (some v) o):∃u,o=some u/\RelV v u:=by
 cases o with
 |none=>exact(show False from r).elim
 |some u=>nomatch u,rfl,r
def tq.none_of(r:tq none o):o=none:=by
 cases o with
 |none=>rfl
 |some u=>exact(show False from r).elim
def Nq(r:RelV v u):SJ u=true:=by
 cases v with
 |eY=>cases(show u=zJ from r);rfl
 |bl b=>cases(show u=Hq b from r);rfl
 |int i=>obtain⟨t,e⟩:=(show ∃t,u=qk i t from r);cases e;rfl
 |str x=>obtain⟨t,e⟩:=(show ∃t,u=DB x t from r);cases e;rfl
 |DS b=>obtain⟨t,e⟩:=(show ∃t,u=Value.bytes b t from r);cases e;rfl
 |Zw b=>obtain⟨t,e⟩:=(show ∃t,u=Value.float b t from r);cases e;rfl
 |ref a=>cases(show u=dZ a from r);rfl
 |ty n=>cases(show u=qC n from r);rfl
section
def F3(gI:u7 P w H h)(e:H a=some (.ins C dx fs)):∃mA,Ko h a dx C mA/\(∀f,tq (fs.lookup f) (mA f))/\LY mA (fs.map (·.1))/\fs.length<=1000/\H dx=some (.own a):=by obtain⟨d,z,ne,ob,mA,n,r,q⟩:=(show jG P w H h a (.ins C dx fs)from gI a _ e);nomatch mA,⟨ob,n,ne⟩,r,q,z,d
end
structure Hs(K:aq)(C:aB):Prop where
 pg:sf K C Str.empty=true
 hd:zK K C=true
 po:Pn K C=true
 sa:gw K (.ref C) "__setattr__"=some (some (.builtin "object.__setattr__"))
def Hs.get{K:aq}{C:aB}(c:Hs K C)(f:bL):sf K C f=true:=c.pg
def e_(K:aq)(C:aB)(f:bL):Prop:=gw K (.ref C) f=some none
def e_.ZU{K:aq}{C:aB}{f:bL}(n:e_ K C f):DD K C f=some none:=by unfold DD;rw[show gw K (.ref C) f=some none from n];rfl
structure Meth(K:aq)(C:aB)(m:bL)(f:aB):Prop where
 at_:gw K (.ref C) m=some (some (.ref f))
 fn:sX K (.ref f)=true
 kp:gP K (.ref f)=true
section
def Kp(I:Inv X aA σ H s)(e:H a=some (.ins C dx fs))(c:Hs X.K C)(n:e_ X.K C f)(l:fs.lookup f=some v) (h:∀u s',Inv X aA σ H s'->RelV v u->Q u s'):b8 (cg X.prog X.w) A (getAttr (.ref a) f b) Q E s:=by obtain⟨mA,O,r,_,_,_⟩:=F3 I.gI e;obtain⟨u,hu,ru⟩:=tq.some_of (v:=v) (o:=mA f) (by rw[<-l];exact r f);exact get_map I.DT O (c.get f) c.hd n hu (Nq ru) (h u _ (I.tok _) ru)
def BN(I:Inv X aA σ H s)(e:H a=some (.ins C dx fs))(c:Hs X.K C)(k:Meth X.K C m g)(l:fs.lookup m=none) (h:Q (.ref g,[.ref a]) s):b8 (cg X.prog X.w) A (getMethod (.ref a) m pl) Q E s:=by obtain⟨mA,O,r,_,_,_⟩:=F3 I.gI e;have hn:mA m=none:=tq.none_of (by rw[<-l];exact r m);exact P2 I.DT O (c.get m) k.at_ k.fn hn h
def Kq(I:Inv X aA σ H s)(e:H a=some (.ins C dx fs))(c:Hs X.K C)(n:e_ X.K C f)(hl:fs.length<1000)(ry:RelV y u) (h:∀s',Inv X aA σ (upd H a (.ins C dx (fm f y fs))) s'->Q () s'):b8 (cg X.prog X.w) A (setAttr (.ref a) f u) Q E s:=by
 obtain⟨mA,O,r,wi,_,ho⟩:=F3 I.gI e;have hz:(fs.map (·.1)).length<=aH:=by rw[aK,sizeLine_eq];lia
 refine TH I.DT O c.sa c.po n.ZU c.hd wi hz λh' O' sb=>h _ ?_;have hd:∃o,h'.get? dx=some o:=let⟨o,_,_,e',_⟩:=O'.ns;⟨o,e'⟩;refine I.write (x:=a) (e:=dx) (by rw[e];exact True.intro) (.inr ho) (λb q hb z=>(sb.2 b hb).trans z) hd ?_;nomatch by rw[aG O.ne];exact ho,?_,O.ne,O'.obj,_,O'.ns,λg=>?_,λg hg=>?_
 .have:=zQ f y fs;lia
 .show tq ((fm f y fs).lookup g) (if g=f then some u else mA g);rw[zP];by_cases q:g=f
  .rw[if_pos q,if_pos q];exact ry
  .rw[if_neg q,if_neg q];exact r g
 .by_cases q:g=f
  .rw[q];exact(yX f y fs).1
  .refine(yX f y fs).2 g (wi g λz=>hg ?_);show(if g=f then some u else mA g)=none;rw[if_neg q];exact z
def Inv.made(I:Inv X aA σ H s):Inv X aA σ (upd (upd H s.heap.objs.size (.own (s.heap.objs.size+1))) (s.heap.objs.size+1) (.ins C s.heap.objs.size [])) {s with heap:=(s.heap.push gO).push (jj C s.heap.objs.size)}:=by
 have e1:(s.heap.push gO).get? s.heap.objs.size=some gO:=cv s.heap rfl;have e2:((s.heap.push gO).push (jj C s.heap.objs.size)).get? (s.heap.objs.size+1)=some (jj C s.heap.objs.size):=by have:=cv (s.heap.push gO) (o:=jj C s.heap.objs.size) rfl;rwa [gB]at this
 have e3:(s.heap.push gO).Ns s.heap.objs.size (λ_=>none):=⟨gO,#[],_,e1,rfl,(λe he=>absurd he (by simp)),λ_=>rfl⟩;have I1:=I.laid (a:=s.heap.objs.size) (o:=.own (s.heap.objs.size+1)) (h':=s.heap.push gO) (t':=s.toks) (λb u q=>bx _ q) (bw _) ⟨_,e1⟩;refine I1.laid (a:=s.heap.objs.size+1) (o:=.ins C s.heap.objs.size []) (t':=s.toks) (λb u q=>bx _ q) (vo (gB _ _)) ?_;have ne:s.heap.objs.size≠s.heap.objs.size+1:=cE (EM _);nomatch by rw[aG ne,ae],bQ _,ne,e2,λ_=>none,(Heap.Ns1.of_empty e3).at λo q=>bx _ q,λ_=>True.intro,λy hy=>absurd rfl hy
def TJ(hb:attributeBase e f env (eval e env)=eval e env) (h:b8 (cg prog w) A (eval e env) (λo s₁=>b8 (cg prog w) A (getAttr o f true) Q E s₁) E s):b8 (cg prog w) A (eval (.Attribute e f d_) env) Q E s:=Attribute_any_ h (by rw[arm_eval_Attribute,hb])
end
inductive WJ(K:aq)(f:bL)(Q:VK)(x:V)(H1:Hp):Prop
 |mk(a:_)(C:_)(dx:_)(fs:_)(v:_)(mV:x= .ref a)(mW:H1 a=some (.ins C dx fs))(sS:Hs K C)(FZ:e_ K C f)(Mf:fs.lookup f=some v)(YQ:Q v H1)
def Ar(K:aq)(ta:TE)(f:bL):TE:=fun σ H Q=>ta σ H λx H1=>WJ K f Q x H1
inductive WK(K:aq)(f:bL)(D:Ends)(σ:St)(y:V)(x:V)(H2:Hp):Prop
 |mk(a:_)(C:_)(dx:_)(fs:_)(mV:x= .ref a)(mW:H2 a=some (.ins C dx fs))(sS:Hs K C)(FZ:e_ K C f)(Mf:fs.length<1000)(YQ:D.nx σ (upd H2 a (.ins C dx (fm f y fs))))
def ac4(K:aq)(ta tv:TE)(f:bL):TS:=λD σ H=>tv σ H λy H1=>ta σ H1 λx H2=>WK K f D σ y x H2
section
def aT(he:PE X e ta)(hb:attributeBase e f X.env (eval e X.env)=eval e X.env):PE X (.Attribute e f d_) (Ar X.K ta f):=by intro aA s σ H Q I h;refine TJ hb (ic (he aA s σ H _ I h) λu s1⟨x,H1,I1,rx,a,C,dx,fs,v,ex,ea,c,n,l,q⟩=>?_);subst ex;obtain rfl:u=dZ a:=rx;exact Kp I1 ea c n l λu' s2 I2 ru=>⟨v,H1,I2,ru,q⟩
def ck(ha:PE X o ta)(hv:PE X qm tv)(hs:swapsWith qm (some (.Attribute o f pos')) d_.line X.env=pure false):PS X (.Assign [.Attribute o f pos'] qm d_) (ac4 X.K ta tv f):=by intro aA s σ H D I h;refine plainObj_wpAny_Assign_Attribute (ic (hv aA s σ H _ I h) λu s1⟨y,H1,I1,ry,q⟩=>ic (ha aA s1 σ H1 _ I1 q) λov s2⟨x,H2,I2,rx,a,C,dx,fs,ex,ea,c,n,l,q2⟩=>?_) hs;subst ex;obtain rfl:ov=dZ a:=rx;exact Kq I2 ea c n l ry λs3 I3=>⟨σ,_,I3,q2⟩
end
section
end
structure jV(k:Nat)(A:lE):Prop where
 hd:A.handled=none
 dp:A.depth+3*k+5<recursionLimit
 un:A.units+16*k+200<cLine
def jV.mono(r:jV k A)(h:j<=k):jV j A:=⟨r.hd,by have:=r.dp;lia,by have:=r.un;lia⟩
theorem jV.deeper(r:jV (k+1) A)(env:J3):jV k (A.deeper env):=⟨r.hd,by have:=r.dp;show A.depth+1+3*k+5<_;lia,by have:=r.un;show A.units+3+16*k+200<_;lia⟩
def Kr{A:lE}{C:aB}{us:List aM}{kw:List (bL×aM)}:(A.under (.builtin "type.__call__" ⟨.ref C::us,kw⟩)).depth=A.depth+1:=by first|rfl|simp[Around.under,Code.weight,Code.isCreation,Code.isGuard,Code.isCaller,Code.frames,Code.isFrame,guardIds]
def Ks{A:lE}{C:aB}{us:List aM}{kw:List (bL×aM)}:(A.under (.builtin "type.__call__" ⟨.ref C::us,kw⟩)).units=A.units+1:=by first|rfl|simp[Around.under,Code.cUnits,Code.frames,Code.isFrame]
def jV.make(r:jV (k+1) A)(C:aB)(us:List aM)(kw:List (bL×aM)):jV k (A.under (.builtin "type.__call__" ⟨.ref C::us,kw⟩)):=⟨r.hd,by have:=r.dp;rw[Kr];lia,by have:=r.un;rw[Ks];lia⟩
theorem jV.depth(r:jV k A):A.depth<recursionLimit:=by have:=r.dp;lia
theorem jV.units(r:jV k A):A.units+64<cLine:=by have:=r.un;lia
def kK:TA:=λ_ H Q=>Q [] H
def iR(ta:TE)(tr:TA):TA:=fun σ H Q=>ta σ H λx H1=>tr σ H1 λxs H2=>Q (x::xs) H2
section
def jk:PA X [] kK:=λ_ _ _ _ H Q I h=>Calls.spliced_nil ⟨[],H,I,.nil,h⟩
def kh(ha:PE X e te)(hr:PA X es t)(hs:bE (e::es) X.env=(false,eval e X.env)::bE es X.env:=by rfl):PA X (e::es) (iR te t):=by intro d_ aA s σ H Q I h;rw[hs];show b8 _ _ (spliced ((false,eval e X.env)::ku d_ (bE es X.env))) _ _ s;refine Calls.spliced_cons (ic (ha aA s σ H _ I h) λu s1⟨x,H1,I1,r1,q1⟩=>?_);exact ic (hr d_ aA s1 σ H1 _ I1 q1) λus s2⟨xs,H2,I2,r2,q2⟩=>⟨x::xs,H2,I2,.cons r1 r2,q2⟩
inductive WL(Q:VK)(xs:(List V))(H1:Hp):Prop
 |mk(mV:xs.length<=aH)(mW:∀p,H1 p=none->Q (.ref p) (upd H1 p (.tup xs)))
def ac5(t:TA):TE:=fun σ H Q=>t σ H λxs H1=>WL Q xs H1
inductive WM(Q:VK)(xs:(List V))(H1:Hp):Prop
 |mk(mV:xs.length<=aH)(mW:∀p,H1 p=none->Q (.ref p) (upd H1 p (.lst xs)))
def WN(t:TA):TE:=fun σ H Q=>t σ H λxs H1=>WM Q xs H1
def rJ{x1}(h:PA X es t):PE X (.Tuple es x1 d_) (ac5 t):=by
 intro aA s σ H Q I hq;refine wpAny_Tuple_spliced (ic (h d_ aA s σ H _ I hq) λus s1⟨xs,H1,I1,r,z,q⟩=>⟨by rw[<-r.length];exact z,?_⟩);have hf:H1 s1.heap.objs.size=none:=I1.gI.fresh (bw _);nomatch .ref s1.heap.objs.size,upd H1 s1.heap.objs.size (.tup xs),I1.laid (t':=s1.toks) (λb u e=>bx _ e) (bw _) ?_,rfl,q _ hf
 nomatch z,us,r,⟨_,cv _ rfl,rfl,_,rfl⟩
def dN(h:PA X es t):PE X (.List es d_) (WN t):=by
 intro aA s σ H Q I hq;refine wpAny_List_spliced (ic (h d_ aA s σ H _ I hq) λus s1⟨xs,H1,I1,r,z,q⟩=>⟨by rw[<-r.length];exact z,?_⟩);have hf:H1 s1.heap.objs.size=none:=I1.gI.fresh (bw _);nomatch .ref s1.heap.objs.size,upd H1 s1.heap.objs.size (.lst xs),I1.laid (t':=s1.toks) (λb u e=>bx _ e) (bw _) ?_,rfl,q _ hf
 nomatch z,us,0,r,cv _ rfl
end
abbrev Sp:=List V->Hp->VK->XK->Prop
abbrev HL:=List J3->Hp->bq->XK->aM->bq->Prop
structure Kt(P:cq)(w:dH)(K:aq)(mg:bL->Option aM)(base:gD)(A:lE)(outer:List J3)(s:bq)(H:Hp):Prop where
 frames:A.frames=some outer
 mod:Mod K mg base
 bs:∀b o,base.get? b=some o->s.heap.get? b=some o/\H b=none
 Nh:base.objs.size<=s.heap.objs.size
 tE:s.heap.FunFrames base outer
 PB:∀b∈rF outer,H b=none
 gI:u7 P w H s.heap
 bare:AllBare s.gens
def CE(outer:List J3)(P:cq)(w:dH)(H:Hp)(s:bq)(Q:VK)(u:aM)(s':bq):Prop:=∃v H',s'.os=s.os/\AllBare s'.gens/\Un (rF outer) [] H H' s.heap s'.heap/\u7 P w H' s'.heap/\RelV v u/\Q v H'
def CR(CX:HL)(outer:List J3)(P:cq)(w:dH)(H:Hp)(s:bq)(Q:VK)(E:XK)(r:Result)(s':bq):Prop:=match r with
 | .ok (.ret u)=>CE outer P w H s Q u s'
 | .ok _=>False
 | .error e=>CX outer H s E e s'
structure qo(P:cq)(w:dH)(K:aq)(mg:bL->Option aM)(base:gD)(CX:HL)(k:Nat)(f:aB)(fd:mz)(ps:List bL)(sp:Sp):Prop where
 len:∀vs H Q E,sp vs H Q E->vs.length=ps.length
 run:∀(A:lE)(outer:List J3)(s:bq)(H:Hp)(args:Args)(us:List aM)(vs:List V)(Q:VK)(E:XK),jV k A->Kt P w K mg base A outer s H->BindsTo s fd args (ps.zip us)->Vals vs us->sp vs H Q E->
  codeAny (cg P w) A (.call (.ref f) args) (CR CX outer P w H s Q E) s
def Kt.make{P:cq}{w:dH}{K:aq}{mg:bL->Option aM}{aR:gD}{A:lE}{outer:List J3}{s:bq}{H:Hp}(e:Kt P w K mg aR A outer s H)(C:aB)(us:List aM)(kw:List (bL×aM)): Kt P w K mg aR (A.under (.builtin "type.__call__" ⟨.ref C::us,kw⟩)) outer s H:=⟨by first|exact e.frames|(simpa[Around.under,Code.envs,Code.isFrame,pushEnvs]using e.frames),e.mod,e.bs,e.Nh,e.tE,e.PB,e.gI,e.bare⟩
section
def Inv.ZV(I:Inv X aA σ H s):Kt X.prog X.w X.K X.mg X.base X.A X.stack s H:=⟨I.ok.frames,I.ok.mod,I.bs,cZ I.ok.Nh I.sz,I.stack,I.FX,I.gI,I.bare⟩
def Inv.after(I:Inv X aA σ H s)(h:CE X.stack X.prog X.w H s Q u s'):EP X aA σ Q u s':=by obtain⟨v,H',os,bare,un,gI,r,q⟩:=h;obtain⟨hh,g,d,t,os'⟩:=s';obtain rfl:os'=s.os:=os;nomatch v,H',I.call (h':=hh) (g':=g) (d':=d) (t':=t) (ch:=[]) un gI bare (λb z=>absurd z (by simp)),r,q
end
def sk(sp:Sp)(zR:List V)(E:XK)(t:TA):TE:=fun σ H Q=>t σ H λvs H1=>sp (vs++zR) H1 Q E
inductive TK(C:aB)(m:bL)(sp:Sp)(zR:List V)(E:XK)(t:TA)(σ:St)(Q:VK)(x:V)(H1:Hp):Prop
 |mk(a:_)(dx:_)(fs:_)(mV:x= .ref a)(mW:H1 a=some (.ins C dx fs))(sS:fs.lookup m=none)(FZ:t σ H1 λvs H2=>sp (x::(vs++zR)) H2 Q E)
def EU(C:aB)(m:bL)(sp:Sp)(zR:List V)(E:XK)(ta:TE)(t:TA):TE:=fun σ H Q=>ta σ H λx H1=>TK C m sp zR E t σ Q x H1
def Mg(C:aB)(sp:Sp)(zR:List V)(E:XK)(t:TA):TE:=fun σ H Q=>t σ H λvs H1=>∀x dx,H1 x=none->H1 dx=none->dx≠x-> sp (.ref x::(vs++zR)) (upd (upd H1 dx (.own x)) x (.ins C dx [])) (λv H2=>v= .eY/\Q (.ref x) H2) E
def Binds(K:aq)(fd:mz)(ps:List bL)(ds:List aM):Prop:=∀(s:bq)(us:List aM),K.In s.heap->(us++ds).length=ps.length->BindsTo s fd ⟨us,[]⟩ (ps.zip (us++ds))
def Binds.all{K:aq}{fd:mz}{ps:List bL}(h:∀us:List aM,us.length=ps.length->bindArgs fd ⟨us,[]⟩=pure (ps.zip us)):Binds K fd ps []:=λs us _ hl=>by rw[eT]at hl ⊢;exact .of_eq (h us hl)
def Passes(CX:HL)(X:Cx)(E:XK):Prop:=∀(aA:List (aB×mU))(σ:St)(H:Hp)(s:bq)(e:aM)(s':bq),Inv X aA σ H s->CX X.stack H s E e s'->X.xe e s'
section
def F4(F:qo X.prog X.w X.K X.mg X.base CX k f fd ps sp)(hr:jV k X.A)(hb:Binds X.K fd ps ds)(hd:Vals zR ds)(hx:Passes CX X E) (I:Inv X aA σ H s) (r:Vals vs us) (h:sp (vs++zR) H Q E):b8 (cg X.prog X.w) X.A (call (.ref f) us) (EP X aA σ Q) X.xe s:=by
 have r2:Vals (vs++zR) (us++ds):=r.append hd;have hl:(us++ds).length=ps.length:=by rw[<-r2.length];exact F.len _ _ _ _ h
 refine wpAny_call (codeAny_mono (F.run X.A X.stack s H ⟨us,[]⟩ (us++ds) (vs++zR) Q E hr I.ZV (hb s us I.DT hl) r2 h) λr s' hq=>?_);cases r with
 |error e=>exact hx aA σ H s e s' I hq
 |ok fl=>
  cases fl with
  |ret u=>exact I.after hq
  |next=>exact False.elim hq
  |brk=>exact False.elim hq
  |cont=>exact False.elim hq
def TM(F:qo X.prog X.w X.K X.mg X.base CX k f fd ps sp)(hr:jV k X.A)(hg:Gl X x)(hm:X.mg x=some (.ref f))(hk:gP X.K (.ref f)=true)(hb:Binds X.K fd ps ds)(hd:Vals zR ds)(hx:Passes CX X E) (ha:PA X (e::es) t) (BO:(x==("__debug__":bL))=false:=by decide) (he:bE (e::es) X.env=(false,eval e X.env)::bE es X.env:=by rfl) (A9:(ku d_ (bE es X.env)).any (·.1)=false:=by rfl): PE X (.Call (.Name x p) (e::es) [] d_) (sk sp zR E t):=by intro aA s σ H Q I h;refine wpAny_Call_Name_kw (rG I hg hm ?_ BO);refine yF (h₀:=X.base) I.ok.mod.Zy hk (ic (ha d_ aA s σ H _ I h) λus s1⟨vs,H1,I1,r,q⟩=>⟨I1.DT,?_⟩) he A9;exact F4 F hr hb hd hx I1 r q
def P5(F:qo X.prog X.w X.K X.mg X.base CX k f fd ps sp)(hr:jV k X.A)(hg:Gl X x)(hm:X.mg x=some (.ref f))(hk:gP X.K (.ref f)=true)(hb:Binds X.K fd ps ds)(hd:Vals zR ds)(hx:Passes CX X E) (BO:(x==("__debug__":bL))=false:=by decide):PE X (.Call (.Name x p) [] [] d_) (sk sp zR E kK):=by intro aA s σ H Q I h;refine wpAny_Call_Name_kw (rG I hg hm ?_ BO);exact wW I.DT hk (F4 (us:=[]) F hr hb hd hx I .nil h)
def TN(he:PE X o ta)(c:Hs X.K C)(hm:Meth X.K C m f)(F:qo X.prog X.w X.K X.mg X.base CX k f fd ps sp)(hr:jV k X.A)(hb:Binds X.K fd ps ds)(hd:Vals zR ds)(hx:Passes CX X E)(ha:PA X (e::es) t) (kx:bE (e::es) X.env=(false,eval e X.env)::bE es X.env:=by rfl) (A9:(ku d_ (bE es X.env)).any (·.1)=false:=by rfl) (ht:eval (.Call (.Attribute o m apos) (e::es) [] d_) X.env=(do
   let ov <-eval o X.env;standAt apos.atName
   let(f,first)<-holding [ov] (getMethod ov m pl);J4 d_ f first (ku d_ (bE (e::es) X.env)) (yJ d_ (pH [] X.env))):=by rfl):
  PE X (.Call (.Attribute o m apos) (e::es) [] d_) (EU C m sp zR E ta t):=by
 intro aA s σ H Q I h;refine Ke (pl:=pl) (ic (he aA s σ H _ I h) λu s1⟨x,H1,I1,rx,a,dx,fs,ex,ea,l,q⟩=>?_) ht;subst ex;obtain rfl:u=dZ a:=rx;refine BN I1 ea c hm l ?_;refine yF (first:=[.ref a]) (h₀:=X.base) I.ok.mod.Zy hm.kp (ic (ha d_ aA s1 σ H1 _ I1 q) λus s2⟨vs,H2,I2,r,q2⟩=>⟨I2.DT,?_⟩) kx A9;exact F4 (us:=.ref a::us) (vs:=.ref a::vs) F hr hb hd hx I2 (.cons rfl r) q2
def P6(he:PE X o ta)(c:Hs X.K C)(hm:Meth X.K C m f)(F:qo X.prog X.w X.K X.mg X.base CX k f fd ps sp)(hr:jV k X.A)(hb:Binds X.K fd ps ds)(hd:Vals zR ds)(hx:Passes CX X E) (ht:eval (.Call (.Attribute o m apos) [] [] d_) X.env=(do
   let ov <-eval o X.env;standAt apos.atName
   let(f,first)<-holding [ov] (getMethod ov m pl);J4 d_ f first (ku d_ (bE [] X.env)) (yJ d_ (pH [] X.env))):=by rfl):
  PE X (.Call (.Attribute o m apos) [] [] d_) (EU C m sp zR E ta kK):=by
 intro aA s σ H Q I h;refine Ke (pl:=pl) (ic (he aA s σ H _ I h) λu s1⟨x,H1,I1,rx,a,dx,fs,ex,ea,l,q⟩=>?_) ht;subst ex;obtain rfl:u=dZ a:=rx;refine BN I1 ea c hm l ?_;exact wW (first:=[.ref a]) I1.DT hm.kp (F4 (us:=[.ref a]) (vs:=[.ref a]) F hr hb hd hx I1 (.cons rfl .nil) q)
structure Mk(K:aq)(C f:aB):Prop where
 makes:DE K C=true
 init:gw K (.ref C) "__init__"=some (some (.ref f))
 fn:sX K (.ref f)=true
 kp:gP K (.ref C)=true
def HM(M:Mk X.K C f)(F:qo X.prog X.w X.K X.mg X.base CX k f fd ps sp)(hr:jV (k+1) X.A)(hb:Binds X.K fd ps ds)(hd:Vals zR ds) (hx:Passes CX X E) (I:Inv X aA σ H s) (r:Vals vs us) (h:∀x dx,H x=none->H dx=none->dx≠x->sp (.ref x::(vs++zR)) (upd (upd H dx (.own x)) x (.ins C dx [])) (λv H2=>v= .eY/\Q (.ref x) H2) E): b8 (cg X.prog X.w) X.A (call (.ref C) us) (EP X aA σ Q) X.xe s:=by
 have hq:=h (s.heap.objs.size+1) s.heap.objs.size (I.gI.fresh (Nat.le_succ _)) (I.gI.fresh (bw _)) (cE (EM _));have I2:=Inv.made (C:=C) I;have r2:Vals (V.ref (s.heap.objs.size+1)::(vs++zR)) (dZ (s.heap.objs.size+1)::(us++ds)):=.cons rfl (r.append hd);have hl:(dZ (s.heap.objs.size+1)::us++ds).length=ps.length:=by have e:=r2.length;rw[F.len _ _ _ _ hq]at e;exact e.symm
 refine wpAny_call (P4 (f:=f) I.DT M.makes M.init (beq_iff_eq.mp M.fn) (codeAny_mono (F.run _ X.stack _ _ ⟨dZ (s.heap.objs.size+1)::us,[]⟩ (dZ (s.heap.objs.size+1)::(us++ds)) _ _ E (hr.make C us []) (I2.ZV.make C us []) (hb _ (dZ (s.heap.objs.size+1)::us) I2.DT hl) r2 hq) λr s' VI=>?_));cases r with
 |error e=>exact hx aA σ _ _ e s' I2 VI
 |ok fl=>
  cases fl with
  |ret u=>obtain⟨v,H',I3,rv,ev,q3⟩:=I2.after VI;subst ev;nomatch rv,⟨V.ref (s.heap.objs.size+1),H',I3,rfl,q3⟩
  |next=>exact False.elim VI
  |brk=>exact False.elim VI
  |cont=>exact False.elim VI
def TQ(M:Mk X.K C f)(F:qo X.prog X.w X.K X.mg X.base CX k f fd ps sp)(hr:jV (k+1) X.A)(hg:Gl X x)(hm:X.mg x=some (.ref C))(hb:Binds X.K fd ps ds)(hd:Vals zR ds)(hx:Passes CX X E) (ha:PA X (e::es) t) (BO:(x==("__debug__":bL))=false:=by decide) (he:bE (e::es) X.env=(false,eval e X.env)::bE es X.env:=by rfl) (A9:(ku d_ (bE es X.env)).any (·.1)=false:=by rfl): PE X (.Call (.Name x p) (e::es) [] d_) (Mg C sp zR E t):=by intro aA s σ H Q I h;refine wpAny_Call_Name_kw (rG I hg hm ?_ BO);refine yF (h₀:=X.base) I.ok.mod.Zy M.kp (ic (ha d_ aA s σ H _ I h) λus s1⟨vs,H1,I1,r,q⟩=>⟨I1.DT,?_⟩) he A9;exact HM M F hr hb hd hx I1 r q
def P7(M:Mk X.K C f)(F:qo X.prog X.w X.K X.mg X.base CX k f fd ps sp)(hr:jV (k+1) X.A)(hg:Gl X x)(hm:X.mg x=some (.ref C))(hb:Binds X.K fd ps ds)(hd:Vals zR ds)(hx:Passes CX X E) (BO:(x==("__debug__":bL))=false:=by decide):PE X (.Call (.Name x p) [] [] d_) (Mg C sp zR E kK):=by intro aA s σ H Q I h;refine wpAny_Call_Name_kw (rG I hg hm ?_ BO);exact wW I.DT M.kp (HM (us:=[]) M F hr hb hd hx I .nil h)
end
section
end
structure pT(N P:List bL)(sc:ql):Prop where
 kind:sc.kind= .function
 co:sc.isCoroutine=false
 gen:sc.isGenerator=false
 nd:N.Nodup
 pre:N.take P.length=P
 par:∀x∈P,sc.names.lookup x=some .local\/sc.names.lookup x=some .cell
 WO:∀y∈sc.names,y.2≠ .free
theorem EV{kindOf:bL->Option NameKind}{x:bL}:∀{binds:List (bL×aM)}{m:bL->Option aM},(∀v,(x,v)∉binds)->bindL kindOf binds m x=m x
 | [],_,_=>rfl
 |(n,v)::r,m,h=>by
  unfold bindL;rw[EV λw hw=>h w (bo _ hw)];split
  .have:x≠n:=by rintro rfl;exact h v bI
   simp[this]
  .rfl
theorem EW{kindOf:bL->Option NameKind}{x:bL}:∀{binds:List (bL×aM)}{m:bL->Option aM},(∀v,(x,v)∉binds)->bindC kindOf binds m x=m x
 | [],_,_=>rfl
 |(n,v)::r,m,h=>by
  unfold bindC;rw[EW λw hw=>h w (bo _ hw)];split
  .rfl
  .have:x≠n:=by rintro rfl;exact h v bI
   simp[this]
theorem EX{kindOf:bL->Option NameKind}{x:bL}{v:aM}:∀{P:List bL}{vs:List aM}{i:Nat}{m:bL->Option aM},P.Nodup->P[i]? =some x->vs[i]? =some v->kindOf x=some .local-> bindL kindOf (P.zip vs) m x=some v
 | [],_,_,_,_,h,_,_=>by simp at h
 |_::_,[],_,_,_,_,h,_=>by simp at h
 |p::P,w::vs,0,m,nd,h1,h2,hk=>by simp at h1 h2;subst h1;subst h2;show bindL kindOf ((p,w)::P.zip vs) m p=_;unfold bindL;rw[EV λv hv=>(cU.mp nd).1 (FQ hv).1,if_pos hk];simp
 |p::P,w::vs,i+1,m,nd,h1,h2,hk=>by show bindL kindOf ((p,w)::P.zip vs) m x=_;unfold bindL;exact EX (i:=i) (cU.mp nd).2 (by simpa using h1) (by simpa using h2) hk
theorem EY{kindOf:bL->Option NameKind}{x:bL}{v:aM}:∀{P:List bL}{vs:List aM}{i:Nat}{m:bL->Option aM},P.Nodup->P[i]? =some x->vs[i]? =some v->kindOf x≠some .local-> bindC kindOf (P.zip vs) m x=some v
 | [],_,_,_,_,h,_,_=>by simp at h
 |_::_,[],_,_,_,_,h,_=>by simp at h
 |p::P,w::vs,0,m,nd,h1,h2,hk=>by simp at h1 h2;subst h1;subst h2;show bindC kindOf ((p,w)::P.zip vs) m p=_;unfold bindC;rw[EW λv hv=>(cU.mp nd).1 (FQ hv).1,if_neg hk];simp
 |p::P,w::vs,i+1,m,nd,h1,h2,hk=>by show bindC kindOf ((p,w)::P.zip vs) m x=_;unfold bindC;exact EY (i:=i) (cU.mp nd).2 (by simpa using h1) (by simpa using h2) hk
def start(N:List bL)(vs:List V):St:=vs.map some++aQ (N.length-vs.length) none
def DV(CX:HL)(P:cq)(w:dH)(K:aq)(mg:bL->Option aM)(aR:gD)(N:List bL)(dB:bL)(bb:ql)(f:aB)(cd:aM)(A:lE)(outer:List J3)(s:bq)(H:Hp)(E:XK):Cx where
 prog:=P
 w:=w
 K:=K
 mg:=mg
 base:=aR
 A:=A.deeper (i6 dB bb s.heap.objs.size f cd)
 N:=N
 EN:=s
 Wu:=H
 env:=i6 dB bb s.heap.objs.size f cd
 outer:=outer
 stack:=i6 dB bb s.heap.objs.size f cd::outer
 ex:=[]
 calm:=true
 fn:=λ_=>true
 pn:=[]
 xe:=λe s'=>b8 (cg P w) (A.deeper (i6 dB bb s.heap.objs.size f cd)) (leaving (i6 dB bb s.heap.objs.size f cd) e) (λ_ s''=>CX outer H s E e s'') (λe' s''=>CX outer H s E e' s'') s'
def HN{sc:ql}{n:Nat}{x:bL}(h:sc.names.lookup x=some .cell):∃c,(cellsFrom n sc.names []).lookup x=some c:=by have q:=J1 sc.names n [] (.inl h);exact Hv.mp q
def Nr{CX:HL}{P:cq}{w:dH}{K:aq}{mg:bL->Option aM}{aR:gD}{N ps:List bL}{dB:bL}{bb:ql}{f:aB}{cd:aM}{A:lE}{outer:List J3}{s s1:bq}{H:Hp}{E:XK}{us:List aM}{vs:List V} (S:pT N ps bb) (hd:A.handled=none) (e0:Kt P w K mg aR A outer s H) (hl:vs.length=ps.length) (r:Vals vs us) (x:InCallC s s.heap.objs.size (bindL (i6 dB bb s.heap.objs.size f cd).kindOf (ps.zip us) λ_=>none) (cellsFrom (s.heap.objs.size+1) bb.names []) (bindC (i6 dB bb s.heap.objs.size f cd).kindOf (ps.zip us) λ_=>none) s1): Inv (DV CX P w K mg aR N dB bb f cd A outer s H E) [] (start N vs) H s1:=by
 have A9:ps.length<=N.length:=by have:=congrArg hU S.pre;rw[bf]at this;lia
 obtain⟨h1,tk,rfl,hk⟩:=x.done;have YS:∀b:aB,b∉(DV CX P w K mg aR N dB bb f cd A outer s H E).ex:=λb z=>absurd (show b∈([]:List aB)from z) (by simp);exists⟨e0.mod,S.kind,rfl,rfl,bw _,λy z c h1 h2=>?_,λy hy=>?_,λy c _ h=>?_,λ_=>hd,Around.frames_deeper e0.frames,.inr ⟨rfl,rfl⟩,λb z=>absurd z (YS b),e0.bs,e0.Nh,λb _ _=>YS b,λb z=>absurd z (YS b),e0.tE,e0.PB⟩,rfl,e0.bare,Un.kept hk,⟨_,x.toInCall.ns,λi y v h1 h2 h3=>?_⟩,λy c h=>⟨_,x.cell y c h⟩,e0.gI.fresh (bw _),λy c h=>?_,λp hp=>absurd (show p∈([]:List (aB×mU))from hp) (by simp),e0.gI.kept hk
 .exact name_of_addr x.apart (cN h1) (cN h2)
 .have hy:bb.names.lookup y=some .cell\/bb.names.lookup y=some .free:=hy;rcases hy with hy|hy
  .exact HN hy
  .exact absurd rfl (S.WO _ (cN hy))
 .exact O4 (x.above y c (cN h))
 .have hi:i<vs.length:=by
   unfold start at h2;by_cases hi:i<vs.length
   .exact hi
   .rw[fX (by simpa using hi)]at h2;rw[mH]at h2;split at h2<;>cases h2
  have ha:vs[i]? =some v:=by
   unfold start at h2;rw[ft (by simpa using hi),bz]at h2;cases e:vs[i]? with
   |none=>rw[e]at h2;cases h2
   |some a=>rw[e]at h2;cases h2;rfl
  obtain⟨u,hu,rv⟩:=r.get ha;have hp:ps[i]? =some y:=by rw[<-S.pre,d7 (by lia)];exact h1
  have ndP:ps.Nodup:=by rw[<-S.pre];exact S.nd.sublist (Bv _ _)
  exists u,rv;rcases S.par y (iC hp)with k|k
  .exact .inl ⟨k,EX ndP hp hu k⟩
  .obtain⟨c,e⟩:=HN (n:=s.heap.objs.size+1) k;refine .inr ⟨.inl k,c,e,?_⟩;have q:=x.cell y c e;rw[EY ndP hp hu (by show bb.names.lookup y≠_;rw[k];decide)]at q;exact q
 .exact e0.gI.fresh (O4 (x.above y c (cN h)))
 .unfold start;show _=N.length;rw[az,aK,dQ];lia
def VJ{CX:HL}{P:cq}{w:dH}{K:aq}{mg:bL->Option aM}{aR:gD}{k:Nat}{f:aB}{name dB:bL}{params:Arguments}{body:List lR}{bb:ql}{dV kV doc pm cdv ct oc:aM}{an od:Option aB} {HP:Array (Option aM)} {N ps:List bL} {sp:Sp} (lk:K.lookup f=some ⟨oc,od,.func (fk name dB params body bb dV kV doc pm an cdv ct),HP⟩) (Pc:mI K cdv dB=true) (S:pT N ps bb) (len:∀vs H Q E,sp vs H Q E->vs.length=ps.length) (P8:∀(A:lE)(outer:List J3)(s:bq)(H:Hp)(vs:List V)(Q:VK)(E:XK),jV k (A.deeper (i6 dB bb s.heap.objs.size f cdv))->sp vs H Q E-> ∃t,HE (DV CX P w K mg aR N dB bb f cdv A outer s H E) body t/\t {nx:=λ_ H'=>Q .eY H',rt:=Q} (start N vs) H): qo P w K mg aR CX (k+1) f (fk name dB params body bb dV kV doc pm an cdv ct) ps sp:=by
 nomatch len,λA outer s H args us vs Q E hr e0 hb r Mh=>?_
 have hl:=len _ _ _ _ Mh;have KX:K.In s.heap:=e0.mod.Zy.keeps λb o e=>(e0.bs b o e).1;have lim:s.heap.NoLimit:=e0.mod.nolimit.keeps λb o e=>(e0.bs b o e).1;have ZW:∀y∈ps.zip us,bb.names.lookup y.1=some .local\/(bb.names.lookup y.1=some .cell/\((cellsFrom (s.heap.objs.size+1) bb.names []).lookup y.1).isSome=true):=λ⟨n,v⟩ hy=>by
  rcases S.par n (FQ hy).1 with q|q
  .exact .inl q
  .exact .inr ⟨q,J1 _ _ _ (.inl q)⟩
 refine codeAny_call_function hr.depth (KX _ _ lk) rfl S.co S.gen rfl (PySem.W.codeRec_of KX Pc) (hb _ _ _ _ ?_);refine wpAny_newFunctionEnv_cells S.kind ZW λenv he s1 x=>?_;subst he;nomatch lim.keeps x.toInCall.keep,codeAny_func ?_
 obtain⟨t,ht,hq⟩:=P8 A outer s H vs Q E (hr.deeper _) Mh;have I:Inv (DV CX P w K mg aR N dB bb f cdv A outer s H E) [] (start N vs) H s1:=Nr S hr.hd e0 hl r x;refine ip (ht [] s1 (start N vs) H _ I hq) (λfl s' hs=>?_) λe s' hs=>hs;have fin:∀{σ':St}{H':Hp}{v:V}{u:aM},Inv (DV CX P w K mg aR N dB bb f cdv A outer s H E) [] σ' H' s'->RelV v u->Q v H'->CE outer P w H s Q u s':=fun{σ' H' v u} J rv q=>⟨v,H',J.os,J.bare,J.base,J.gI,rv,q⟩;cases fl with
 |ret u=>obtain⟨v,σ',H',J,rv,q⟩:=hs;exact fin J rv q
 |next=>obtain⟨σ',H',J,q⟩:=hs;exact fin (v:=V.eY) (u:=zJ) J rfl q
 |brk=>obtain⟨_,_,_,q⟩:=hs;exact False.elim q
 |cont=>obtain⟨_,_,_,q⟩:=hs;exact False.elim q
section
variable{X:Cx}{x:bL}{p d_:Nd}{e:jx}{es:List jx}{t:TA}{id:String}{r:List V->Hp->VK->Prop}
def tCB(r:List V->Hp->VK->Prop)(t:TA):TE:=fun σ H Q=>t σ H λvs H1=>r vs H1 Q
def bZ(hc:oC X (.builtin id) r)(hg:Gl X x)(hm:X.mg x=none)(hv:bootBuiltins x=some (.builtin id))(ha:PA X (e::es) t)(hn:x≠"__name__":=by decide)(BO:(x==("__debug__":bL))=false:=by decide) (he:bE (e::es) X.env=(false,eval e X.env)::bE es X.env:=by rfl) (A9:(ku d_ (bE es X.env)).any (·.1)=false:=by rfl):PE X (.Call (.Name x p) (e::es) [] d_) (tCB r t):=by intro aA s σ H Q I h;refine wpAny_Call_Name_kw (BG I hg hm hv ?_ hn BO);exact PyProof.Rows.callWith_builtin1 (ic (ha d_ aA s σ H _ I h) λus s1⟨vs,H1,I1,r1,q1⟩=>hc aA s1 σ H1 vs us Q I1 r1 q1) he A9
def iW(hc:oC X (.type T) r)(hg:Gl X x)(hm:X.mg x=none)(hv:bootBuiltins x=some (.type T))(ha:PA X (e::es) t)(hn:x≠"__name__":=by decide)(BO:(x==("__debug__":bL))=false:=by decide) (he:bE (e::es) X.env=(false,eval e X.env)::bE es X.env:=by rfl) (A9:(ku d_ (bE es X.env)).any (·.1)=false:=by rfl):PE X (.Call (.Name x p) (e::es) [] d_) (tCB r t):=by intro aA s σ H Q I h;refine wpAny_Call_Name_kw (BG I hg hm hv ?_ hn BO);exact j3 (ic (ha d_ aA s σ H _ I h) λus s1⟨vs,H1,I1,r1,q1⟩=>hc aA s1 σ H1 vs us Q I1 r1 q1) he A9
end
end L2
namespace HT
open PySem PyProof.Rows
section
open PySem.SeqAt
open PySem.AutoSeq1 (wpAny_loadPart')
open PySem.MeetsSeq PySem.MeetsSeq2 PySem.MeetsSeq3
end
section
def J5(n d:Nat):Option Int->Nat
 |none=>d
 |some v=>if v<0 then(v+(n:Int)).toNat else min v.toNat n
def pU(n d k:Nat):J5 n d (some (k:Int))=min k n:=by show(if(k:Int)<0 then((k:Int)+(n:Int)).toNat else min (k:Int).toNat n)=min k n;rw[if_neg (by lia),DF]
end
end HT
namespace L2
open PySem PySem.Spec PyProof.Rows
abbrev TO:=St->Hp->(Option Int->Hp->Prop)->Prop
def PO(X:Cx)(e:Option jx)(t:TO):Prop:=∀(aA:List (aB×mU))(s:bq)(σ:St)(H:Hp)(Q:Option Int->Hp->Prop),Inv X aA σ H s->t σ H Q-> b8 (cg X.prog X.w) X.A (evalPart e X.env) (λu s'=>∃o H',Inv X aA σ H' s'/\IsPart u o/\Q o H') X.xe s
def Mi:TO:=λ_ H Q=>Q none H
inductive TR(Q:(Option Int->Hp->Prop))(x:V)(H1:Hp):Prop
 |mk(i:_)(mV:x= .int i)(mW:Q (some i) H1)
def VL(t:TE):TO:=fun σ H Q=>t σ H λx H1=>TR Q x H1
section
variable{X:Cx}{e:jx}{te:TE}{lo hi:Option jx}{tl th:TO}{d_ p2:Nd}
def oP:PO X none Mi:=by intro aA s σ H Q I h;rw[evalPart_none];exact dc ⟨none,H,I,.none,h⟩
def cS(h:PE X e te):PO X (some e) (VL te):=by intro aA s σ H Q I hw;rw[evalPart_some];refine ic (h aA s σ H _ I hw) λu s1⟨x,H1,I1,r1,q1⟩=>?_;obtain⟨i,rfl,q⟩:=q1;obtain⟨t,rfl⟩:=r1;nomatch some i,H1,I1,.int i t,q
def SlR(X:Cx)(r:V->Option Int->Option Int->Hp->VK->Prop):Prop:=∀(aA:List (aB×mU))(s:bq)(σ:St)(H:Hp)(x:V)(v vl vu:aM)(lo hi:Option Int)(sl:aB)(Q:VK),Inv X aA σ H s->RelV x v->s.heap.IsSliceOf sl vl vu .none->IsPart vl lo->IsPart vu hi->r x lo hi H Q-> ∃T id,typeLookup (.type T) "__getitem__"=pure (some (.builtin id))/\s.TypeIs v T/\b8 (cg X.prog X.w) X.A (getItem v (.ref sl)) (EP X aA σ Q) X.xe s
def tSl(r:V->Option Int->Option Int->Hp->VK->Prop)(te:TE)(tl th:TO):TE:=fun σ H Q=>te σ H λx H1=>tl σ H1 λl H2=>th σ H2 λu H3=>r x l u H3 Q
def ej(hr:SlR X r)(he:PE X e te)(hl:PO X lo tl)(hu:PO X hi th):PE X (.Subscript e (.Slice lo hi none p2) d_) (tSl r te tl th):=by intro aA s σ H Q I h;refine Subscript_ (ic (he aA s σ H _ I h) λv s1⟨x,H1,I1,r1,q1⟩=>?_);refine wpAny_Slice (ic (hl aA s1 σ H1 _ I1 q1) λvl s2⟨l,H2,I2,pl,q2⟩=>ic (hu aA s2 σ H2 _ I2 q2) λvu s3⟨u,H3,I3,pu,q3⟩=>?_);rw[evalPart_none];refine dc ?_;have I4:Inv X aA σ H3 {s3 with heap:=s3.heap.push {cls:=.type "slice",data:=.fields #[vl,vu,.none]}}:=I3.kept (t':=s3.toks) λb ob q=>bx _ q;obtain⟨T,id,hT,ht,hg⟩:=hr aA {s3 with heap:=s3.heap.push {cls:=.type "slice",data:=.fields #[vl,vu,.none]}} σ H3 x v vl vu l u s3.heap.objs.size Q I4 r1 (Heap.IsSliceOf.new ..) pl pu q3;show b8 (cg X.prog X.w) X.A (subscriptTail e (.Slice lo hi none p2) v (.ref s3.heap.objs.size)) (EP X aA σ Q) X.xe {s3 with heap:=s3.heap.push {cls:=.type "slice",data:=.fields #[vl,vu,.none]}};exact tail_any (ops:=[.ref s3.heap.objs.size,v]) ht hT hg (by with_unfolding_all rfl)
def jv(xs:List V)(lo hi:Option Int):List V:=(xs.drop (HT.J5 xs.length 0 lo)).take (HT.J5 xs.length xs.length hi-HT.J5 xs.length 0 lo)
def HQ(xs:List V)(lo hi:Option Int):(jv xs lo hi).length<=xs.length:=by unfold jv;rw[bf,cO];lia
end
def F5(n:Nat)(i:Int):Option Nat:=if 0<=i then(if i<n then some i.toNat else none)else if -(n:Int)<=i then some (i+n).toNat else none
def P9{α:Type}(xs:List α)(i:Int):Option α:=(F5 xs.length i).bind λj=>xs[j]?
def Mj(h:F5 n i=some j):seqIndex? i n=some j/\j<n/\ -(n:Int)<=i/\i<n:=by
 unfold F5 at h;by_cases h0:0<=i
 .rw[if_pos h0]at h;by_cases h1:i<n
  .rw[if_pos h1]at h;have e:i.toNat=j:=af h;nomatch by rw[seqIndex_of h0 h1,e],by lia,by lia,h1
  .rw[if_neg h1]at h;cases h
 .rw[if_neg h0]at h;by_cases h1: -(n:Int)<=i
  .rw[if_pos h1]at h;have e:(i+n).toNat=j:=af h;nomatch by rw[seqIndex_neg (by lia) h1,e],by lia,h1,by lia
  .rw[if_neg h1]at h;cases h
def F6(h:P9 xs i=some v):∃j,seqIndex? i xs.length=some j/\xs[j]? =some v/\j<xs.length/\ -(xs.length:Int)<=i/\i<xs.length:=by
 unfold P9 at h;cases e:F5 xs.length i with
 |none=>rw[e]at h;cases h
 |some j=>rw[e]at h;obtain⟨h1,h2,h3,h4⟩:=Mj e;nomatch j,h1,h,h2,h3,h4
def cM{α:Type}{xs:List α}{j:Nat}{v:α}(h:xs[j]? =some v):P9 xs (j:Int)=some v:=by
 have hj:j<xs.length:=(aE.mp h).1;have e:F5 xs.length (j:Int)=some j:=by unfold F5;rw[if_pos (by lia),if_pos (by lia)];simp
 unfold P9;rw[e];exact h
def TU(b:jx):Prop:=∀o i,subscripted b false o i=operate [o,i] (getItem o i)
def IxR(X:Cx)(r:R2):Prop:=∀(qm slice:jx)(aA:List (aB×mU))(s:bq)(σ:St)(H:Hp)(x y:V)(v u:aM)(Q:VK),Inv X aA σ H s->RelV x v->RelV y u->r x y H Q-> subscripted slice false v u=operate [v,u] (getItem v u)->b8 (cg X.prog X.w) X.A (subscriptTail qm slice v u) (EP X aA σ Q) X.xe s
def VM(X:Cx)(id:String)(r:V->List V->Hp->VK->Prop):Prop:=∀(aA:List (aB×mU))(s:bq)(σ:St)(H:Hp)(x:V)(xs:List V)(v:aM)(us:List aM)(Q:VK),Inv X aA σ H s->RelV x v->Vals xs us->r x xs H Q-> b8 (cg X.prog X.w) X.A (call (.builtin id) (v::us)) (EP X aA σ Q) X.xe s
section
variable{X:Cx}
def fE(hr:IxR X r)(ha:PE X a ta)(hb:PE X b tb)(hs:TU b):PE X (.Subscript a b d_) (VH r ta tb):=by intro aA s σ H Q I h;exact Subscript_ (WD ha hb I h λv u s2 x y H2 I2 rx ry q=>hr a b aA s2 σ H2 x y v u Q I2 rx ry q (hs _ _))
inductive ZX(K:aq)(x:V)(y:V)(H:Hp)(Q:VK):Prop
 |mk(p:_)(xs:_)(i:_)(v:_)(mV:x= .ref p)(mW:y= .int i)(sS:fT K H p xs)(FZ:P9 xs i=some v)(Mf:Q v H)
inductive ac7(K:aq)(x:V)(y:V)(H:Hp)(Q:VK):Prop
 |mk(p:_)(xs:_)(i:_)(v:_)(mV:x= .ref p)(mW:y= .int i)(sS:l_ K H p xs)(FZ:P9 xs i=some v)(Mf:Q v H)
inductive ac8(x:V)(y:V)(H:Hp)(Q:VK):Prop
 |mk(z:_)(i:_)(c:_)(mV:x= .str z)(mW:y= .int i)(sS:z.length<=aH)(FZ:P9 z.cps.toList i=some c)(Mf:Q (.str ⟨#[c]⟩) H)
def cX:IxR X (ZX X.K):=by
 intro qm slice aA s σ H x y v u Q I rx ry h hs;obtain⟨p,xs,i,z,rfl,rfl,hq,he,q⟩:=h;cases rx;obtain⟨t,rfl⟩:=ry;obtain⟨dj,r,pl,hz⟩:=I.list hq;obtain⟨j,h1,h2,h3,h4,h5⟩:=F6 he;obtain⟨w,ew,HR⟩:=r.get h2;have hl:=r.length;have hn:=yW;have fin:EP X aA σ Q w s:=⟨z,H,I,HR,q⟩;by_cases h0:0<=i
 .have hj:i.toNat=j:=by rw[seqIndex_of h0 h5]at h1;exact af h1
  exact item_listR pl.isList h0 (by lia) (by rw[hj];simpa using ew) fin hs
 .have hj:(i+(dj.toArray.size:Int)).toNat=j:=by rw[seqIndex_neg (by lia) h4]at h1;rw[bG,<-hl];exact af h1
  exact subscriptTail_builtinR (x:=w) pl.isList.typeIs slot_list_getitem.lookup (wpAny_getItem_list_neg (Q:=λr s'=>r=w/\EP X aA σ Q r s') pl.isList (by lia) (by rw[bG]<;>lia) (by lia) (by rw[hj];simpa using ew) ⟨rfl,fin⟩) hs
def yY:IxR X (ac7 X.K):=by intro qm slice aA s σ H x y v u Q I rx ry h hs;obtain⟨p,xs,i,z,rfl,rfl,hq,he,q⟩:=h;cases rx;obtain⟨t,rfl⟩:=ry;obtain⟨dj,r,pl,hz⟩:=I.tuple hq;obtain⟨j,h1,h2,h3,h4,h5⟩:=F6 he;obtain⟨w,ew,HR⟩:=r.get h2;have hl:=r.length;have hn:=yW;have fin:EP X aA σ Q w s:=⟨z,H,I,HR,q⟩;exact subscriptTail_builtinR (x:=w) pl.typeIs slot_tuple_getitem.lookup (getItem_tuple (j:=j) (Q:=λr s'=>r=w/\EP X aA σ Q r s') pl (by lia) (by lia) (by rw[bG,<-hl];exact h1) (by simpa using ew) ⟨rfl,fin⟩) hs
def P_:IxR X ac8:=by
 intro qm slice aA s σ H x y v u Q I rx ry h hs;obtain⟨z,i,c,rfl,rfl,hz,he,q⟩:=h;obtain⟨t,rfl⟩:=rx;obtain⟨t',rfl⟩:=ry;obtain⟨j,h1,h2,h3,h4,h5⟩:=F6 he;have hl:z.cps.toList.length=z.length:=by simp[Str.length]
 rw[hl]at h1 h4 h5;have hn:=yW;exact tail_any (typeIs_str s z t) slot_str_getitem.lookup (getItem_str (c:=c) (by have e1:decide (i< -(2^63:Int))=false:=decide_eq_false (by lia);have e2:decide (i ≥ 2^63)=false:=decide_eq_false (by lia);rw[e1,e2,sO]) (by rw[h1];simpa using h2) ⟨.str ⟨#[c]⟩,H,I.tok _,⟨_,rfl⟩,q⟩) hs
def Ku(dj:List aM)(n j:Nat)(u:aM):Obj.mapSeq (·.setIfInBounds j u) {cls:=.type "list",data:=.seq dj.toArray n}={cls:=.type "list",data:=.seq (dj.set j u).toArray n}:=by simp[Obj.mapSeq]
theorem Inv.lst(I:Inv X aA σ H s)(h:H p=some (.lst xs)): ∃(dj:List aM)(n:Nat),Vals xs dj/\s.heap.get? p=some {cls:=.type "list",data:=.seq dj.toArray n}/\xs.length<=aH:=by obtain⟨z,dj,n,r,e⟩:=I.gI p _ h;nomatch dj,n,r,e,z
def Inv.WQ{aA:List (aB×mU)}{σ:St}{H:Hp}{s:bq}{p:aB}{xs ys:List V}{dj its':List aM}{n n':Nat}{f:mU->mU}(I:Inv X aA σ H s)(h:H p=some (.lst xs)) (ho:s.heap.get? p=some {cls:=.type "list",data:=.seq dj.toArray n}) (hf:f {cls:=.type "list",data:=.seq dj.toArray n}={cls:=.type "list",data:=.seq its'.toArray n'}) (r:Vals ys its') (hz:ys.length<=aH) (t:Nat): Inv X aA σ (upd H p (.lst ys)) {s with heap:=s.heap.update p f,toks:=t}:=by
 have e:(s.heap.update p f).get? p=some {cls:=.type "list",data:=.seq its'.toArray n'}:=by rw[Heap.get?_update_self f ho (by rw[hf]<;>rfl),hf]
 refine I.write (x:=p) (e:=p) (by rw[h];trivial) (.inl rfl) (λb u hb q=>(M6 _ _ (aL hb)).trans q) ⟨_,e⟩ ?_;nomatch hz,its',n',r,e
inductive ZY(o:V)(i:V)(v:V)(H:Hp)(Q:(Hp->Prop)):Prop
 |mk(p:_)(xs:_)(k:_)(j:_)(mV:o= .ref p)(mW:i= .int k)(sS:H p=some (.lst xs))(FZ:F5 xs.length k=some j)(Mf:Q (upd H p (.lst (xs.set j v))))
def set_list:ZL X ZY:=by
 intro aA s σ H o i v ov iv u Q I ro ri rv h;obtain⟨p,xs,k,j,rfl,rfl,hp,hj,q⟩:=h;cases ro;obtain⟨t,rfl⟩:=ri;obtain⟨dj,n,r,ho,hz⟩:=I.lst hp;obtain⟨h1,h2,h3,h4⟩:=Mj hj;have hl:=r.length;have hn:=yW;have I':Inv X aA σ (upd H p (.lst (xs.set j v))) {s with heap:=s.heap.update p (Obj.mapSeq (·.setIfInBounds j u))}:=I.WQ hp ho (Ku dj n j u) (r.set rv j) (by rw[br];exact hz) s.toks;by_cases h0:0<=k
 .have hk:k.toNat=j:=by rw[seqIndex_of h0 h4]at h1;exact af h1
  exact PySem.W.ki_setAt ho h0 (by lia) (by rw[bG,<-hl];exact h4) (by rw[hk];nomatch _,I',q)
 .have hk:(k+(dj.toArray.size:Int)).toNat=j:=by rw[seqIndex_neg (by lia) h3]at h1;rw[bG,<-hl];exact af h1
  exact PySem.W.ki_setBack ho (by lia) (by rw[bG,<-hl];exact h3) (by lia) (by rw[hk];nomatch _,I',q)
def F7(lo hi:Option Int)(n:Nat):(sliceBounds lo hi none n).1=((HT.J5 n 0 lo:Nat):Int)/\(sliceBounds lo hi none n).2.1=((HT.J5 n n hi:Nat):Int)/\(sliceBounds lo hi none n).2.2=1:=by
 nomatch ?_,?_,rfl
 .cases lo with
  |none=>simp[sliceBounds,HT.J5]
  |some i=>
   simp only[sliceBounds,HT.J5,Th,show(1:Int)>0 by decide,if_true];by_cases h:i<0
   .simp only [h,if_true]<;>lia
   .simp only [h,if_false]<;>lia
 .cases hi with
  |none=>simp[sliceBounds,HT.J5]
  |some i=>
   simp only[sliceBounds,HT.J5,Th,show(1:Int)>0 by decide,if_true];by_cases h:i<0
   .simp only [h,if_true]<;>lia
   .simp only [h,if_false]<;>lia
def DW(dj:List aM)(lo hi:Option Int):slicePick dj.toArray lo hi none=((dj.drop (HT.J5 dj.length 0 lo)).take (HT.J5 dj.length dj.length hi-HT.J5 dj.length 0 lo)).toArray:=by obtain⟨h1,h2,h3⟩:=F7 lo hi dj.toArray.size;unfold slicePick;rw[h1,h2,h3];simp only[sliceRange_one,pick_run,bG]<;>rfl
inductive ZZ(K:aq)(x:V)(lo:(Option Int))(hi:(Option Int))(H:Hp)(Q:VK):Prop
 |mk(a:_)(xs:_)(mV:x= .ref a)(mW:fT K H a xs)(sS:∀p,H p=none->Q (.ref p) (upd H p (.lst (jv xs lo hi))))
def fV:SlR X (ZZ X.K):=by
 intro aA s σ H x v vl vu lo hi sl Q I rx hs pl pu h;obtain⟨a,xs,rfl,hx,q⟩:=h;cases rx;obtain⟨dj,r,ht,hz⟩:=I.list hx;have hlen:=r.length;exists "list",_,slot_list_getitem.lookup,ht.isList.typeIs;refine wpAny_getItem_list_slice ht.isList hs pl pu .none (by simp) ?_ (by rw[bG]<;>lia);rw[DW,<-hlen];nomatch .ref s.heap.objs.size,_,I.laid (t':=s.toks) (o:=.lst (jv xs lo hi)) (λb ob q=>bx _ q) (bw _) ?_,rfl,q _ (I.gI.fresh (bw _))
 nomatch cZ (HQ xs lo hi) hz,_,0,(r.drop (HT.J5 xs.length 0 lo)).take (HT.J5 xs.length xs.length hi-HT.J5 xs.length 0 lo),cv _ rfl
def pV:V->Bool
 | .eY=>true
 | .bl _=>true
 | .int _=>true
 | .str _=>true
 |_=>false
def S6:V->V->Bool
 | .eY,.eY=>true
 | .bl a,.bl b=>a==b
 | .bl a,.int b=>(if a then 1 else 0)==b
 | .int a,.bl b=>a==(if b then 1 else 0)
 | .int a,.int b=>a==b
 | .str a,.str b=>a==b
 |_,_=>false
def WR(ry:RelV y u)(rx:RelV x v)(fy:pV y=true)(fx:pV x=true):SeqAt.EqAt A s u v (S6 y x):=by
 cases y with
 |eY=>
  cases ry;cases x with
  |eY=>cases rx;exact SeqAt.EqAt.same _
  |bl b=>cases rx;exact SeqAt.EqAt.none_bool b
  |int b=>obtain⟨t,rfl⟩:=rx;exact SeqAt.EqAt.none_int b t
  |str b=>obtain⟨t,rfl⟩:=rx;exact SeqAt.EqAt.none_str b t
  |_=>exact absurd (show false=true from fx) bJ
 |bl a=>
  cases ry;cases x with
  |eY=>cases rx;exact SeqAt.EqAt.bool_none a
  |bl b=>cases rx;exact SeqAt.EqAt.bool_bool a b
  |int b=>obtain⟨t,rfl⟩:=rx;exact SeqAt.EqAt.bool_int a b t
  |str b=>obtain⟨t,rfl⟩:=rx;exact SeqAt.EqAt.bool_str a b t
  |_=>exact absurd (show false=true from fx) bJ
 |int a=>
  obtain⟨t',rfl⟩:=ry;cases x with
  |eY=>cases rx;exact SeqAt.EqAt.int_none a t'
  |bl b=>cases rx;exact SeqAt.EqAt.int_bool a t' b
  |int b=>obtain⟨t,rfl⟩:=rx;exact SeqAt.EqAt.int_int a t' b t
  |str b=>obtain⟨t,rfl⟩:=rx;exact Kb a t' b t
  |_=>exact absurd (show false=true from fx) bJ
 |str a=>
  obtain⟨t',rfl⟩:=ry;cases x with
  |eY=>cases rx;exact SeqAt.EqAt.str_none a t'
  |bl b=>cases rx;exact SeqAt.EqAt.str_bool a t' b
  |int b=>obtain⟨t,rfl⟩:=rx;exact Kc a t' b t
  |str b=>obtain⟨t,rfl⟩:=rx;exact SeqAt.EqAt.str_str a t' b t
  |_=>exact absurd (show false=true from fx) bJ
 |_=>exact absurd (show false=true from fy) bJ
def J6(x:V)(u:aM):Bool:=match u with
 | .none=>S6 .eY x
 | .bool b=>S6 (.bl b) x
 | .int i _=>S6 (.int i) x
 | .str z _=>S6 (.str z) x
 |_=>false
def F8(r:RelV y u)(f:pV y=true):J6 x u=S6 y x:=by
 cases y with
 |eY=>cases r;rfl
 |bl b=>cases r;rfl
 |int i=>obtain⟨t,rfl⟩:=r;rfl
 |str z=>obtain⟨t,rfl⟩:=r;rfl
 |_=>exact absurd (show false=true from f) bJ
theorem xl:∀{xs:List V}{us:List aM},Vals xs us->xs.all pV=true->us.any (J6 x)=xs.any λy=>S6 y x
 |_,_,.nil,_=>rfl
 |y::xs,u::us,.cons r t,f=>by rw[zL,cz]at f;rw[fg,fg,F8 r f.1,xl t f.2]
theorem qP(rx:RelV x v)(fx:pV x=true):∀{xs:List V}{us:List aM},Vals xs us->xs.all pV=true->∀u∈us,SeqAt.EqAt A s u v (J6 x u)
 |_,_,.nil,_=>λu hu=>by cases hu
 |y::xs,u::us,.cons r t,f=>λu' hu=>by
  rw[zL,cz]at f;rcases ak.mp hu with rfl|hu
  .rw[F8 r f.1];exact WR r rx f.1 fx
  .exact qP rx fx t f.2 u' hu
def tI(x:V)(xs:List V):Bool:=xs.any λy=>S6 y x
inductive rIn(K:aq)(neg:Bool)(x:V)(y:V)(H:Hp)(Q:VK):Prop
 |mk(p:_)(xs:_)(mV:y= .ref p)(mW:(fT K H p xs\/l_ K H p xs))(sS:pV x=true)(FZ:xs.all pV=true)(Mf:Q (.bl (if neg then !tI x xs else tI x xs)) H)
def iq:wm X (gN .In) (rIn X.K false):=by
 intro aA s σ H x y v u Q I rx ry h;obtain⟨p,xs,rfl,hq,fx,fs,q⟩:=h;cases ry;rcases hq with hq|hq
 .obtain⟨dj,r,pl,hz⟩:=I.list hq;refine SeqAt.in_listAt (J6 x) pl.isList (λw hw=>qP rx fx r fs w (by simpa using hw)) ⟨.bl _,H,I,rfl,?_⟩;rw[show dj.toArray.any (J6 x)=dj.any (J6 x) by simp,xl r fs];exact q
 .obtain⟨dj,r,pl,hz⟩:=I.tuple hq;refine SeqAt.in_tupleAt (J6 x) pl (λw hw=>qP rx fx r fs w (by simpa using hw)) ⟨.bl _,H,I,rfl,?_⟩;rw[show dj.toArray.any (J6 x)=dj.any (J6 x) by simp,xl r fs];exact q
def rK:wm X (gN .NotIn) (rIn X.K true):=by
 intro aA s σ H x y v u Q I rx ry h;obtain⟨p,xs,rfl,hq,fx,fs,q⟩:=h;cases ry;rcases hq with hq|hq
 .obtain⟨dj,r,pl,hz⟩:=I.list hq;refine SeqAt.notIn_listAt (J6 x) pl.isList (λw hw=>qP rx fx r fs w (by simpa using hw)) ⟨.bl _,H,I,rfl,?_⟩;rw[show dj.toArray.any (J6 x)=dj.any (J6 x) by simp,xl r fs];exact q
 .obtain⟨dj,r,pl,hz⟩:=I.tuple hq;refine SeqAt.notIn_tupleAt (J6 x) pl (λw hw=>qP rx fx r fs w (by simpa using hw)) ⟨.bl _,H,I,rfl,?_⟩;rw[show dj.toArray.any (J6 x)=dj.any (J6 x) by simp,xl r fs];exact q
def xm:oC X (.type "list") (λxs H Q=>∃p ys,xs=[.ref p]/\(fT X.K H p ys\/l_ X.K H p ys)/\∀l,H l=none->Q (.ref l) (upd H l (.lst ys))):=by
 intro aA s σ H xs us Q I r h;obtain⟨p,ys,rfl,hq,q⟩:=h;obtain⟨u,rfl,rx⟩:=vals1 r;cases rx;have fin:∀(dj:List aM),Vals ys dj->ys.length<=aH->∀(h':gD)(c':Nat),(∀b o',s.heap.get? b=some o'->h'.get? b=some o')-> h'.get? s.heap.objs.size=some {cls:=.type "list",dict:=none,data:=.seq dj.toArray c',slots:=#[]}->EP X aA σ Q (.ref s.heap.objs.size) {s with heap:=h'}:=λdj r' hz h' c' kp e=>⟨.ref s.heap.objs.size,_,I.laid (t':=s.toks) kp (bw _) (show jG X.prog X.w _ h' _ (.lst ys)from⟨hz,dj,c',r',e⟩),rfl,q _ (I.gI.fresh (bw _))⟩;rcases hq with hq|hq
 .obtain⟨dj,r',pl,hz⟩:=I.list hq;have hlen:=r'.length;obtain⟨o,ho,hc,n,hd⟩:=pl.isList;exact call_list_seq p (.inl rfl) ho hc hd (λh' c' kp e=>fin dj r' hz h' c' kp e) (by simp only[bG]<;>lia)
 .obtain⟨dj,r',pl,hz⟩:=I.tuple hq;have hlen:=r'.length;obtain⟨o,ho,hc,n,hd⟩:=pl;exact call_list_seq p (.inr rfl) ho hc hd (λh' c' kp e=>fin dj r' hz h' c' kp e) (by simp only[bG]<;>lia)
def tyV(K:aq)(T:String)(x:V)(H:Hp):Prop:=match x with
 | .str _=>T="str"
 | .int _=>T="int"
 | .ref p=>(T="list"/\∃xs,fT K H p xs)\/(T="tuple"/\∃o,K.lookup p=some o/\o.cls= .type "tuple"/\o.dict=none)\/ (T="dict"/\((∃dh,H p=some (.dK dh))\/False))\/False
 |_=>False
def WS(I:Inv X aA σ H s)(r:RelV x v)(ty:tyV X.K T x H): s.TypeIs v T/\∀a,v= .ref a->∃ob,s.heap.get? a=some ob/\ob.dict=none:=by
 cases x with
 |str z=>obtain⟨t,rfl⟩:=r;cases(show T="str" from ty);nomatch typeIs_str s z t,λ_ e=>nomatch e
 |int i=>obtain⟨t,rfl⟩:=r;cases(show T="int" from ty);nomatch typeIs_int s i t,λ_ e=>nomatch e
 |ref p=>
  cases r;rcases ty with⟨rfl,xs,hq⟩|⟨rfl,o,hk,hc,hd⟩|⟨rfl,⟨dh,hk⟩|z⟩|z
  .obtain⟨dj,_,pl,_⟩:=I.list hq;nomatch pl.isList.typeIs,λa e=>?_
   cases e;obtain⟨o,n,e,c,hd,_⟩:=pl;nomatch o,e,hd
  .nomatch⟨o,I.DT p o hk,hc⟩,λa e=>?_
   cases e;nomatch o,I.DT _ o hk,hd
  .obtain⟨_,_,_,_,o,_,_,e,ex,_⟩:=I.gI p _ hk;nomatch⟨o,e,ex.1⟩,λa e2=>?_
   cases e2;nomatch o,e,ex.2.1
  .cases z
  .cases z
 |_=>exact False.elim ty
def tBM(K:aq)(T:String)(r:V->List V->Hp->VK->Prop)(to:TE)(t:TA):TE:=fun σ H Q=>to σ H λx H1=>tyV K T x H1/\t σ H1 λxs H2=>r x xs H2 Q
variable{o e:jx}{es:List jx}{to:TE}{t:TA}{name:bL}{apos mf:Nd}{T id:String}{r:V->List V->Hp->VK->Prop}
def tJ(pa:PlainAttrs T)(slot:Slot T name id)(YT:typeOf (.builtin id)=pure (.type "method_descriptor"))(hm:VM X id r)(ho:PE X o to)(ha:PA X (e::es) t) (o8:attributeBase o name X.env (eval o X.env)=eval o X.env:=by rfl) (Qa:((ku mf (bE (e::es) X.env)).all (λx=> !x.1)&&(yJ mf (pH [] X.env)).all (λx=>x.1.isSome) &&decide ((e::es).length+([]:List Keyword).length+(if([]:List Keyword).isEmpty then 0 else 1)<30))=true:=by rfl) (o9:(apos.endLine==mf.line)=true:=by rfl) (hs:bE (e::es) X.env=(false,eval e X.env)::bE es X.env:=by rfl) (WT:(ku mf (bE es X.env)).any (·.1)=false:=by rfl): PE X (.Call (.Attribute o name apos) (e::es) [] mf) (tBM X.K T r to t):=by
 intro aA s σ H Q I h;refine wpAny_Call_method_late o8 Qa o9 rfl (ic (ho aA s σ H _ I h) λv s1⟨x,H1,I1,r1,ty,q1⟩=>?_);obtain⟨h1,h2⟩:=WS I1 r1 ty;exists T,id,pa,slot,YT,h1,h2;have hA:=ha mf aA s1 σ H1 _ I1 q1;rw[hs]at hA ⊢;refine Calls.callWith_builtin (by show(false||(ku mf (bE es X.env)).any (·.1))=false;rw[WT]<;>rfl) (Calls.evalArgs_plain ?_)
 exact ic hA λus s2⟨vs,H2,I2,r2,q2⟩=>hm aA s2 σ H2 x vs v us Q I2 r1 r2 q2
end
def MtM(X:Cx)(id:String)(r:V->List V->Hp->VK->Prop):Prop:=∀(aA:List (aB×mU))(s:bq)(σ:St)(H:Hp)(x:V)(xs:List V)(v:aM)(us:List aM)(Q:VK),Inv X aA σ H s->RelV x v->Vals xs us->r x xs H Q-> b8 (cg X.prog X.w) X.A (call (.builtin id) (v::us)) (EP X aA σ Q) X.xe s
theorem Vals.one:∀{x:V}{us:List aM},Vals [x] us->∃u,us=[u]/\RelV x u
 |_,_,.cons r .nil=>⟨_,rfl,r⟩
theorem Vals.rep(h:Vals xs us):∀k:Nat,Vals (aQ k xs).flatten (aQ k us).flatten
 |0=>.nil
 |k+1=>by rw[jN,jN,fi,fi];exact Vals.append h (Vals.rep h k)
theorem foldl_rep(dj:List aM):∀(k:Nat)(acc:List aM),Ao (λx1 x2=>x1++x2) acc.toArray (aQ k dj.toArray)=(acc++(aQ k dj).flatten).toArray
 |0,acc=>by simp
 |k+1,acc=>by
  have e:acc.toArray++dj.toArray=(acc++dj).toArray:=by simp
  have e2:(acc++dj)++(aQ k dj).flatten=acc++(aQ (k+1) dj).flatten:=by rw[jN,fi,dW]
  rw[<-e2,<-foldl_rep dj k (acc++dj),<-e,jN,iU]
section
def Inv.oQ{dj its':List aM}{n:Nat}{f:Array aM->Array aM}{t':Nat}(I:Inv X aA σ H s)(hH:H l=some (.lst xs)) (e:s.heap.get? l=some {cls:=.type "list",data:=.seq dj.toArray n}) (hf:f dj.toArray=its'.toArray) (hv:Vals ys its') (hz:ys.length<=aH): Inv X aA σ (upd H l (.lst ys)) {s with heap:=s.heap.update l (Obj.mapSeq f),toks:=t'}:=by have q:=PySem.IsL.update e f;rw[hf]at q;refine I.write (x:=l) (e:=l) (by rw[hH];exact trivial) (.inl rfl) (λb' u hb hu=>(M6 s.heap (Obj.mapSeq f) (aL hb)).trans hu) ⟨_,q⟩ ?_;nomatch hz,its',_,hv,q
def Inv.Z0(I:Inv X aA σ H s)(hv:Vals ys dj)(hz:ys.length<=aH): Inv X aA σ (upd H s.heap.objs.size (.lst ys)) {s with heap:=s.heap.push {cls:=.type "list",data:=.seq dj.toArray},toks:=t'}:=I.laid (λ_ _ q=>bx _ q) (bw _) ⟨hz,dj,0,hv,cv _ rfl⟩
theorem Inv.fresh(I:Inv X aA σ H s):H s.heap.objs.size=none:=I.gI.fresh (bw _)
def Inv.WU(I:Inv X aA σ H s)(hH:H l=some (.lst xs)):xs.length<=aH/\∃(dj:List aM)(n:Nat),Vals xs dj/\xs.length=dj.length/\s.heap.get? l=some {cls:=.type "list",data:=.seq dj.toArray n}:=by obtain⟨z,dj,n,r,e⟩:=I.gI l _ hH;nomatch z,dj,n,r,r.length,e
def HS(h:n<=aH):kW n=false:=by unfold kW;exact decide_eq_false (by lia)
end
section
inductive TV(x:V)(vs:(List V))(H:Hp)(Q:VK):Prop
 |mk(l:_)(xs:_)(y:_)(mV:x= .ref l)(mW:vs=[y])(sS:H l=some (.lst xs))(FZ:xs.length<aH)(Mf:Q .eY (upd H l (.lst (xs++[y]))))
def yZ:MtM X "list.append" TV:=by
 intro aA s σ H x vs v us Q I rx rv h;obtain⟨l,xs,y,rfl,rfl,hH,hz,q⟩:=h;cases rx;obtain⟨u,rfl,ru⟩:=rv.one;obtain⟨z,dj,n,r,hl,e⟩:=I.WU hH;refine call_meets F.slot_list_append ⟨_,e,rfl⟩ F.entry_list_append (F.args_list_append_2 _ _) (PySem.list_append l dj.toArray n u (by rw[bG];lia)) ⟨e,?_⟩;nomatch .eY,_,I.oQ (its':=dj++[u]) hH e (by simp) (r.append (.cons ru .nil)) ?_,rfl,q
 rw[az,List.length_singleton];lia
inductive ac9(x:V)(y:V)(H:Hp)(Q:VK):Prop
 |mk(l:_)(k:_)(xs:_)(mV:x= .ref l)(mW:y= .int k)(sS:H l=some (.lst xs))(FZ: -(2^63)<=k)(Mf:k<2^63)(YQ:xs.length*k.toNat<=aH)(h6_:∀p,H p=none->Q (.ref p) (upd H p (.lst (aQ k.toNat xs).flatten)))
def len_rep(xs:List α)(k:Nat):(aQ k xs).flatten.length=k*xs.length:=by
 induction k with
 |zero=>simp
 |succ k ih=>rw[jN,fi,az,ih,Nat.succ_mul,O6]
def tK:wm X (binaryOp .Mult) ac9:=by
 intro aA s σ H x y v u Q I rx ry h;obtain⟨l,k,xs,rfl,rfl,hH,h1,h2,hz,q⟩:=h;cases rx;obtain⟨t,rfl⟩:=ry;obtain⟨z,dj,n,r,hl,e⟩:=I.WU hH;have hlen:dj.toArray.size*k.toNat<=aH:=by rw[bG,<-hl];exact hz
 have ac_:¬dj.toArray.size*k.toNat>(2^63-1)/8:=by
  have:(aH:Nat)<=(2^63-1)/8:=by decide
  lia
 have ada:¬(!Builtin.List.listFitsIndex k)=true:=by rw[fitsIndex_both h1 h2];exact bJ
 have Qb:¬kW (dj.toArray.size*k.toNat)=true:=by rw[HS hlen];exact bJ
 have Kv:Ao (λx1 x2=>x1++x2) #[] (aQ (if dj.toArray.isEmpty=true then 0 else k.toNat) dj.toArray)=(aQ k.toNat dj).flatten.toArray:=by
  have f0:∀m:Nat,Ao (λx1 x2=>x1++x2) #[] (aQ m dj.toArray)=(aQ m dj).flatten.toArray:=λm=>by have:=foldl_rep dj m [];rw[cx]at this;exact this
  rw[f0];cases dj with
  |nil=>simp
  |cons a r'=>rw[if_neg (by simp)]
 refine wpAny_binaryOp_repeat_ref (T:="list") (U:="int") (by decide) ⟨_,e,rfl⟩ (λs'=>typeIs_int s' k t) noFill_list_mul F.fills_int_mul F.slot_int_rmul repeat_list F.slot_int_index.lookup (call_meets F.slot_int_rmul (typeIs_int s k t) F.entry_int_rmul (F.args_int_rmul_2 _ _) (int___rmul___int_list k t l dj.toArray n) ⟨e,rfl,⟨_,e,rfl⟩,call_meets F.slot_list_mul ⟨_,e,rfl⟩ F.entry_list_mul (F.args_list_mul_2 _ _) (AutoListH.list___mul___list_int_3 l dj.toArray n k t ada ac_ Qb) ⟨e,?_⟩⟩);rw[Kv];nomatch .ref _,_,I.Z0 (t':=s.toks) (r.rep k.toNat) (by rw[len_rep,O7];exact hz),rfl,q _ I.fresh
end
section
set_option maxRecDepth 100000 in
end
section
end
theorem Vals.ints:∀{ns:List Int}{us:List aM},Vals (ns.map V.int) us->IntsAre us ns
 | [],us,h=>by rw[Bw]at h;cases h;exact IntsAre.nil
 |n::ns,us,h=>by
  rw[bp]at h;cases h with
  |cons r t=>obtain⟨k,rfl⟩:=r;exact IntsAre.cons n k (Vals.ints t)
theorem xn:∀{us:List aM}{ns:List Int},IntsAre us ns->Vals (ns.map V.int) us
 |_,_,.nil=>by rw[Bw];exact Paired.nil
 |_,_,.cons n t h=>by rw[bp];exact Paired.cons (show RelV (V.int n) (qk n t)from⟨t,rfl⟩) (xn h)
def Vals.TX(r:Vals [V.ref a] us):us=[dZ a]:=by
 cases r with
 |cons r t=>cases t;cases r;rfl
section
def TY(hh:A.handled=none)(hl:s.heap.IsList l dj.toArray)(hi:IntsAre dj ns) (h:∀h' tk t',(∀b o,s.heap.get? b=some o->h'.get? b=some o)->Q (.int ns.sum t') {s with heap:=h',toks:=tk}):b8 (cg prog w) A (call (.builtin "sum") [.ref l]) Q E s:=by
 obtain⟨xs,e⟩:=hi.allInts.items;have hn:numsOf (intItems xs).toList=ns:=by rw[<-e];exact hi.numsOf
 rw[nums_intItems]at hn;rw[e]at hl;refine PySem.sum_intListG hh hl λh' tk t' hk=>?_;have:=h h' tk t' hk;rw[preSum_eq,cA (by simp),hn];exact this
end
section
inductive adb(K:aq)(vs:(List V))(H:Hp)(Q:VK):Prop
 |mk(a:aB)(ns:List Int)(mV:vs=[V.ref a])(mW:fT K H a (ns.map V.int))(sS:Q (.int ns.sum) H)
def WV(hc:X.calm=true):oC X (.builtin "sum") (adb X.K):=by intro aA s σ H vs us Q I r h;obtain⟨a,ns,rfl,hs,q⟩:=h;obtain⟨dj,rv,hl,_⟩:=I.list hs;rw[Vals.TX r];exact TY (I.ok.hd hc) hl.isList rv.ints λh' tk t' hk=>⟨.int _,H,I.kept hk,⟨_,rfl⟩,q⟩
end
section
inductive WW(K:aq)(x:V)(xs:(List V))(H:Hp)(Q:VK):Prop
 |mk(a:aB)(ys:List V)(y:V)(j:Nat)(z:V)(mV:x=V.ref a)(mW:xs=[y])(sS:fT K H a ys)(FZ:pV y=true)(Mf:ys.all pV=true)(YQ:ys[j]? =some z)(h6_:S6 z y=true)(h7_:(∀(m:Nat)(z':V),m<j->ys[m]? =some z'->S6 z' y=false))(h8_:Q (.int (j:Nat)) H)
def Ml{ys:List V}(f:ys.all pV=true){j:Nat}{z:V}(h:ys[j]? =some z):pV z=true:=dI.mp f z (iC h)
def Qc:VM X "list.index" (WW X.K):=by
 intro aA s σ H x xs v us Q I rx rxs h;obtain⟨a,ys,y,j,z,rfl,rfl,hs,fy,fys,hz,hzj,Z1,q⟩:=h;cases rx;cases rxs with
 |cons ry rt=>
  rename_i uy ut;cases rt;obtain⟨dj,rv,⟨⟨cls,dd,data,sl⟩,n,ho,hc,hdn,hd⟩,hlen⟩:=I.list hs;simp only at hc hd;subst hc hd;obtain⟨u,hu,ru⟩:=rv.get hz;obtain⟨hjl,hje⟩:=aE.mp hu;have TZ:=rv.length;have hj:j<dj.toArray.size:=by simpa using hjl
  have hsl:=sizeLine_eq;refine call_meets Hw ⟨_,ho,rfl⟩ PySem.F.entry_list_index (PySem.F.args_list_index_2 _ _) (SeqAt.list_indexAt a dj.toArray n dd sl uy (J6 y) j hj (by lia) ?_ ?_) ⟨ho,λu' hu'=>qP ry fy rv fys u' (by simpa using hu'),?_⟩
  .have e1:dj.toArray[j]=u:=by simpa using hje
   rw[e1,F8 ru (Ml fys hz)];exact hzj
  .intro m hm hmj;have hml:m<dj.length:=by simpa using hm
   have hmy:m<ys.length:=by lia
   have hy':ys[m]? =some ys[m]:=aX hmy;obtain⟨u2,hu2,ru2⟩:=rv.get hy';obtain⟨_,WX⟩:=aE.mp hu2;have e1:dj.toArray[m]=u2:=by simpa using WX
   rw[e1,F8 ru2 (Ml fys hy')];exact Z1 m _ hmj hy'
  .nomatch .int (j:Nat),H,I.tok _,⟨_,rfl⟩,q
end
section
end
def Qe(hl:s.heap.IsList l items) (h:∀s₂:bq,s₂={s with heap:=s.heap.push {cls:=.type "list_iterator",data:=.fields #[.ref l,.int 0 0]}}-> (s₂.heap.IsListIter s.heap.objs.size l 0/\s₂.heap.IsList l items)->l≠s.heap.objs.size->Q (.ref s.heap.objs.size) s₂):b8 (cg prog w) A (pyIter (.ref l)) Q E s:=by
 have oB:l<s.heap.objs.size:=by obtain⟨_,e,_⟩:=hl;exact bF e
 exact wpAny_pyIter_list hl (h _ rfl ⟨⟨_,cv _ rfl,rfl,rfl⟩,hl.push _⟩ (cE oB))
theorem any_range:∀bs:List Bool,(Am bs.length).any (λi=>bs.getD i false)=bs.any id
 | []=>rfl
 |b::bs=>by rw[aN,List.range_succ_eq_map,fg,nB,fg,<-any_range bs];all_goals rfl
section
end
mutual
inductive Dp(K:aq)(H:Hp):V->PyData->Prop
 |eY:Dp K H .eY .none
 |bl(b:Bool):Dp K H (.bl b) (.bool b)
 |int(i:Int):Dp K H (.int i) (.int i)
 |str(x:bL):Dp K H (.str x) (.str x)
 |lst{a:aB}{xs:List V}{ds:List PyData}:fT K H a xs->vq K H xs ds->Dp K H (.ref a) (.list ds)
 |tup{a:aB}{xs:List V}{ds:List PyData}:l_ K H a xs->vq K H xs ds->Dp K H (.ref a) (.tuple ds)
inductive vq(K:aq)(H:Hp):List V->List PyData->Prop
 |nil:vq K H [] []
 |cons{v:V}{vs:List V}{d:PyData}{ds:List PyData}:Dp K H v d->vq K H vs ds->vq K H (v::vs) (d::ds)
end
section
mutual
theorem Dp.reads(I:Inv X aA σ H s):∀(d:PyData)(v:V)(u:aM),Dp X.K H v d->RelV v u->∃as,Reads s.heap u d as
 | .none,_,_,h,r=>by cases h;cases r;nomatch _,Reads.none
 | .bool b,_,_,h,r=>by cases h;cases r;nomatch _,Reads.bool b
 | .int i,_,_,h,r=>by cases h;obtain⟨t,rfl⟩:=r;nomatch _,Reads.int i t
 | .str x,_,_,h,r=>by cases h;obtain⟨t,rfl⟩:=r;nomatch _,Reads.str x t
 | .list ds,_,_,h,r=>by
  cases h with
  |lst hs ha=>cases r;obtain⟨dj,rv,⟨o,n,ho,hc,_,hd⟩,_⟩:=I.list hs;obtain⟨as,hr⟩:=Dp.readsAll I ds _ dj ha rv;nomatch _,Reads.list ho hc hd hr
 | .tuple ds,_,_,h,r=>by
  cases h with
  |tup hs ha=>cases r;obtain⟨dj,rv,⟨o,ho,hc,n,hd⟩,_⟩:=I.tuple hs;obtain⟨as,hr⟩:=Dp.readsAll I ds _ dj ha rv;nomatch _,Reads.tuple ho hc hd hr
 | .dict _,_,_,h,_=>by cases h
theorem Dp.readsAll(I:Inv X aA σ H s):∀(ds:List PyData)(vs:List V)(us:List aM),vq X.K H vs ds->Vals vs us->∃as,ReadsAll s.heap us ds as
 | [],_,_,h,r=>by cases h;cases r;nomatch _,ReadsAll.nil
 |d::ds,_,_,h,r=>by
  cases h with
  |cons h1 h2=>
   cases r with
   |cons r1 r2=>obtain⟨as,q1⟩:=Dp.reads I d _ _ h1 r1;obtain⟨bs,q2⟩:=Dp.readsAll I ds _ _ h2 r2;nomatch _,ReadsAll.cons q1 q2
end
end
section
inductive adh(K:aq)(x:V)(y:V)(H:Hp)(Q:VK):Prop
 |mk(d:_)(e:_)(mV:Dp K H x d)(mW:Dp K H y e)(sS:pP d=true)(FZ:pP e=true)(Mf:Q (.bl (!PyData.eqv d e)) H)
def Qg(hu:X.A.units+64<cLine):wm X (gN .NotEq) (adh X.K):=by intro aA s σ H x y v u Q I rx ry h;obtain⟨d,e,hd,he,sd,se,q⟩:=h;obtain⟨as,r1⟩:=Dp.reads I d x v hd rx;obtain⟨bs,r2⟩:=Dp.reads I e y u he ry;exact SeqAt.compareNe_shaped r1 r2 sd se hu ⟨.bl _,H,I,rfl,q⟩
end
abbrev Qh(h:gD)(c:aB)(v:Option aM):Prop:=h.IsCell c v
def adi(bb sc:ql):ql:={bb with names:=bb.names.map λ(n,k)=>if(k== .free&&sc.kind== .function&&sc.names.lookup n==some .cell)then(n,.cell)else(n,k)}
def hX(cells:List (bL×aB)):List (bL×NameKind)->List (bL×aB)->List (bL×aB)
 | [],acc=>acc
 |(n,k)::r,acc=>if k== .free then hX cells r ((n,(cells.lookup n).getD 0)::acc)else hX cells r acc
theorem xo(env:J3)(f:bL×NameKind->List (bL×aB)->acL (ForInStep (List (bL×aB)))) (hf:∀n k c,f (n,k) c=if k== .free then(do let a <-cellOf env n;pure (.yield ((n,a)::c)))else pure (.yield c)): ∀(names:List (bL×NameKind))(acc:List (bL×aB)),(∀y∈names,y.2= .free->∃c,env.cells.lookup y.1=some c)->forIn names acc f=pure (hX env.cells names acc)
 | [],acc,_=>by rw[List.forIn_nil];rfl
 |(n,k)::r,acc,h=>by
  rw[List.forIn_cons,hf];have ih:=λacc=>xo env f hf r acc λy hy=>h y (bo _ hy);unfold hX;by_cases hk:(k==NameKind.free)=true
  .rw[if_pos hk,if_pos hk];obtain⟨c,hc⟩:=h (n,k) bI (by simpa using hk);have e:cellOf env n=pure c:=by unfold cellOf;rw[hc]
   rw[e];have e2:(env.cells.lookup n).getD 0=c:=by rw[hc];rfl
   rw[e2];exact ih _
  .rw[if_neg hk,if_neg hk];exact ih _
def Kw(h:∀y∈bb.names,y.2= .free->∃c,env.cells.lookup y.1=some c):closureFor bb env=pure (hX env.cells bb.names []):=by simp only[closureFor];rw[xo env _ (λn k c=>rfl) bb.names [] h];rfl
theorem mem_lookup:∀{l:List (bL×α)}{n:bL}{c:α},(n,c)∈l->∃c',l.lookup n=some c'
 |(k,v)::r,n,c,h=>by
  rw[jP];cases hb:n==k with
  |true=>nomatch _,rfl
  |false=>
   rcases ak.mp h with e|h
   .cases e;simp at hb
   .exact mem_lookup h
theorem pW:∀{names:List (bL×NameKind)}{acc:List (bL×aB)}{n:bL}{c:aB},(n,c)∈hX cells names acc->(n,c)∈acc\/((n,.free)∈names/\c=(cells.lookup n).getD 0)
 | [],_,_,_,h=>.inl h
 |(m,k)::r,acc,n,c,h=>by
  unfold hX at h;split at h
  .rename_i hk;have hk:k= .free:=by simpa using hk
   rcases pW h with h|⟨h1,h2⟩
   .rcases ak.mp h with e|h
    .cases e;exact .inr ⟨hk▸bI,rfl⟩
    .exact .inl h
   .exact .inr ⟨bo _ h1,h2⟩
  .rcases pW h with h|⟨h1,h2⟩
   .exact .inl h
   .exact .inr ⟨bo _ h1,h2⟩
theorem tL:∀{names:List (bL×NameKind)}{acc:List (bL×aB)}{p:bL×aB},p∈acc->p∈hX cells names acc
 | [],_,_,h=>h
 |(m,k)::r,acc,p,h=>by
  unfold hX;split
  .exact tL (bo _ h)
  .exact tL h
theorem tM:∀{names:List (bL×NameKind)}{acc:List (bL×aB)}{n:bL},(n,.free)∈names->(n,(cells.lookup n).getD 0)∈hX cells names acc
 |(m,k)::r,acc,n,h=>by
  unfold hX;rcases ak.mp h with e|h
  .cases e;exact tL bI
  .split
   .exact tM h
   .exact tM h
theorem qQ:∀{names:List (bL×NameKind)}{h:gD}{acc:List (bL×aB)}{x:bL}{c:aB},(x,c)∈cellsFrom h.objs.size names acc-> (x,c)∈acc\/((x,.cell)∈names/\h.objs.size<=c/\Qh (pushCells h names) c none)
 | [],_,_,_,_,h=>.inl h
 |(n,k)::r,h,acc,x,c,hm=>by
  unfold cellsFrom at hm;unfold pushCells;split at hm
  .rename_i hk;rw[if_pos hk];have hk:k= .cell:=by simpa using hk
   rw[<-gB h {cls:=.type "cell",data:=.cell none}]at hm;rcases qQ hm with hm|⟨h1,h2,h3⟩
   .rcases ak.mp hm with e|hm
    .cases e;exact .inr ⟨hk▸bI,bw _,_,pushCells_keeps r _ _ _ (cv _ rfl),rfl⟩
    .exact .inl hm
   .rw[gB]at h2;exact .inr ⟨bo _ h1,sP h2,h3⟩
  .rename_i hk;rw[if_neg hk];rcases qQ hm with hm|⟨h1,h2,h3⟩
   .exact .inl hm
   .exact .inr ⟨bo _ h1,h2,h3⟩
theorem uJ:∀{names:List (bL×NameKind)}{n:Nat}{acc:List (bL×aB)}{p:bL×aB},p∈acc->p∈cellsFrom n names acc
 | [],_,_,_,h=>h
 |(m,k)::r,n,acc,p,h=>by
  unfold cellsFrom;split
  .exact uJ (bo _ h)
  .exact uJ h
theorem y0:∀{names:List (bL×NameKind)}{n:Nat}{acc:List (bL×aB)}{x:bL},(x,.cell)∈names->∃c,(x,c)∈cellsFrom n names acc
 |(m,k)::r,n,acc,x,h=>by
  unfold cellsFrom;rcases ak.mp h with e|h
  .cases e;nomatch n,uJ bI
  .split
   .exact y0 h
   .exact y0 h
theorem y3:∀{names:List (bL×NameKind)}{h:gD}{acc:List (bL×aB)}{x y:bL}{c:aB},(∀p∈acc,p.2<h.objs.size)->(∀x y c,(x,c)∈acc->(y,c)∈acc->x=y)-> (x,c)∈cellsFrom h.objs.size names acc->(y,c)∈cellsFrom h.objs.size names acc->x=y
 | [],_,_,_,_,_,_,hi,h1,h2=>hi _ _ _ h1 h2
 |(n,k)::r,h,acc,x,y,c,hl,hi,h1,h2=>by
  unfold cellsFrom at h1 h2;split at h1
  .rename_i hk;rw[if_pos hk]at h2;rw[<-gB h {cls:=.type "cell",data:=.cell none}]at h1 h2;refine y3 (h:=h.push _) (λp hp=>?_) (λx y c a b=>?_) h1 h2
   .rw[gB];rcases ak.mp hp with rfl|hp
    .exact EM _
    .exact DG (hl p hp)
   .rcases ak.mp a with e|a<;>rcases ak.mp b with e'|b
    .cases e;cases e';rfl
    .cases e;exact absurd (hl _ b) (gW _)
    .cases e';exact absurd (hl _ a) (gW _)
    .exact hi _ _ _ a b
  .rename_i hk;rw[if_neg hk]at h2;exact y3 hl hi h1 h2
def HU{M:Model}{A:lE}{E:aM->bq->Prop}{s:bq}{bb:ql}{globals:aB}{closure:List (bL×aB)}{dB:bL}{func:Option aB}{code:aM}{around:J3}{builtins:aB}{Q:J3->bq->Prop} (h:Q (newEnv bb s.heap.objs.size globals (cellsFrom (s.heap.objs.size+1) bb.names closure) dB func code (some around) builtins) {s with heap:=pushCells (s.heap.push {cls:=.type "dict",data:=.dict #[]}) bb.names}): b8 M A (newFunctionEnv bb globals closure [] dB func code (some around) builtins) Q E s:=by simp only[newFunctionEnv,Po,if_true];refine bR (wpAny_alloc ?_);refine bR (wpAny_layCells _ (λn k c=>rfl) bb.names closure _ _ ?_);rw[show({s with heap:=s.heap.push {cls:=.type "dict",data:=.dict #[]}}:bq).heap.objs.size=s.heap.objs.size+1 from gB ..];rw[List.forIn_nil];exact bR (dc (dc h))
theorem tN{sc:ql}:∀{names:List (bL×NameKind)}{x:bL}{k:NameKind},(names.map λ(n,k)=>if(k==NameKind.free&&sc.kind== .function&&sc.names.lookup n==some .cell)then(n,NameKind.cell)else(n,k)).lookup x=some k-> ∃k',names.lookup x=some k'/\(k=k'\/(k'= .free/\k= .cell))
 | [],_,_,h=>by simp at h
 |(n,k₀)::r,x,k,h=>by
  have ih:= @tN sc r x k;have h':mG x ((if(k₀==NameKind.free&&sc.kind== .function&&sc.names.lookup n==some .cell)=true then(n,NameKind.cell)else(n,k₀))::(r.map _))=some k:=h;cases hx:x==n with
  |true=>
   simp only[jP,hx];by_cases hc:(k₀==NameKind.free&&sc.kind== .function&&sc.names.lookup n==some .cell)=true
   .rw[if_pos hc]at h';simp only[jP,hx]at h';cases h';simp only[cz,beq_iff_eq]at hc;nomatch k₀,rfl,.inr ⟨hc.1.1,rfl⟩
   .rw[if_neg hc]at h';simp only[jP,hx]at h';cases h';nomatch _,rfl,.inl rfl
  |false=>
   simp only[jP,hx];by_cases hc:(k₀==NameKind.free&&sc.kind== .function&&sc.names.lookup n==some .cell)=true
   .rw[if_pos hc]at h';simp only[jP,hx]at h';exact ih h'
   .rw[if_neg hc]at h';simp only[jP,hx]at h';exact ih h'
structure vt(N:List bL)(sc scope:ql)(own:List (bL×Nat)):Prop where
 kind:scope.kind= .function
 uniq:∀y∈scope.names,scope.names.lookup y.1=some y.2
 ix:∀p∈own,N[p.2]? =some p.1
 free:∀y∈scope.names,y.2= .free->sc.names.lookup y.1=some .cell\/sc.names.lookup y.1=some .free
 own:∀y∈scope.names,y.2= .local\/y.2= .cell->y.1∈own.map (·.1)\/y.1∉N
def wipe(σ:St):List Nat->St
 | []=>σ
 |v::vs=>(wipe σ vs).set v none
theorem tO(σ:St):∀vs:List Nat,(wipe σ vs).length=σ.length
 | []=>rfl
 |v::vs=>by unfold wipe;rw[br,tO σ vs]
theorem y4:∀{vs:List Nat},(wipe σ vs)[i]? =some (some x)->σ[i]? =some (some x)/\i∉vs
 | [],h=>⟨h,by simp⟩
 |v::vs,h=>by
  unfold wipe at h;by_cases hi:v=i
  .subst hi;by_cases hv:v<(wipe σ vs).length
   .rw[uX hv]at h;cases h
   .rw[gz (by simpa using hv)]at h;cases h
  .rw[w8 hi]at h;obtain⟨h1,h2⟩:=y4 h;nomatch h1,by simp only[ak,not_or];exact⟨λe=>hi e.symm,h2⟩
abbrev Cx.zS(X:Cx)(s:bq)(H:Hp)(bb:ql)(lW:J3)(fp:List aB):Cx:={X with EN:=s,Wu:=H,env:=lW,outer:=X.stack,ex:=fp,fn:=λx=>bb.names.lookup x==some .cell,pn:=[],xe:=λ_ _=>False}
section
def HV(I:Inv X aA σ H s)(ok:vt X.N X.env.scope bb own)(hN:X.N.Nodup)(YU:∀b∈fp,BI X aA H b/\b<s.heap.objs.size): Inv (X.zS s H bb (compEnvC bb (cellsFrom (s.heap.objs.size+1) bb.names (hX X.env.cells bb.names [])) s.heap.objs.size X.env) fp) [] (wipe σ (own.map (·.2))) H {s with heap:=pushCells (s.heap.push {cls:=.type "dict",data:=.dict #[]}) bb.names}:=by
 have ER:∀y∈bb.names,y.2= .free->∃c,X.env.cells.lookup y.1=some c:=λy hy e=>by
  rcases ok.free y hy e with k|k
  .exact I.ok.has _ (.inl k)
  .exact I.ok.has _ (.inr k)
 generalize HW:compEnvC bb (cellsFrom (s.heap.objs.size+1) bb.names (hX X.env.cells bb.names [])) s.heap.objs.size X.env=lW;have kp:∀b o,s.heap.get? b=some o->(pushCells (s.heap.push {cls:=.type "dict",data:=.dict #[]}) bb.names).get? b=some o:=λb o e=>pushCells_keeps _ _ _ _ (bx _ e);have hL:lW.locals=s.heap.objs.size:=by rw[<-HW];rfl
 have mB:lW.cells=cellsFrom (s.heap.objs.size+1) bb.names (hX X.env.cells bb.names []):=by rw[<-HW];rfl
 have hsc:lW.scope=adi bb X.env.scope:=by rw[<-HW];rfl
 rw[<-gB s.heap {cls:=.type "dict",data:=.dict #[]}]at mB;have cm:∀{y c},(y,c)∈hX X.env.cells bb.names []->X.env.cells.lookup y=some c/\c<s.heap.objs.size:=fun{y c} hm=>by
  rcases pW hm with hm|⟨h1,rfl⟩
  .cases hm
  .obtain⟨c,hc⟩:=ER _ h1 rfl;rw[hc];obtain⟨w,z⟩:=I.cell _ _ hc;nomatch rfl,z.lt
 have mem:∀{y c},lW.cells.lookup y=some c->(X.env.cells.lookup y=some c/\c<s.heap.objs.size)\/(s.heap.objs.size+1<=c/\Qh (pushCells (s.heap.push {cls:=.type "dict",data:=.dict #[]}) bb.names) c none):=fun{y c} e=>by
  rw[mB]at e;rcases qQ (cN e)with hm|⟨_,h2,h3⟩
  .exact .inl (cm hm)
  .rw[gB]at h2;exact .inr ⟨h2,h3⟩
 have look:∀{y},bb.names.lookup y=some .free->∃c,lW.cells.lookup y=some c/\X.env.cells.lookup y=some c:=fun{y} hl=>by
  have hy:(y,NameKind.free)∈bb.names:=cN hl;obtain⟨c',e'⟩:=mem_lookup (uJ (names:=bb.names) (n:=(s.heap.push {cls:=.type "dict",data:=.dict #[]}).objs.size) (tM (cells:=X.env.cells) (acc:=[]) hy));rw[<-mB]at e';exists c',e';rw[mB]at e';rcases qQ (cN e')with hm|⟨h1,_,_⟩
  .exact(cm hm).1
  .have:=ok.uniq _ h1;rw[hl]at this;cases this
 have okB:(X.zS s H bb lW fp).Ok:=by
  nomatch I.ok.mod,by show lW.scope.kind=_;rw[hsc];exact ok.kind,by show lW.globals=_;rw[<-HW];exact I.ok.glob,by show lW.builtins=_;rw[<-HW];exact I.ok.blt,by show s.heap.objs.size<=lW.locals;rw[hL];exact bw _,
   λy z c e1 e2=>?_,λy hy=>?_,λy c z e=>?_,I.ok.hd,I.ok.frames,.inl rfl,λb hb=>⟨?_,λy c e z=>?_⟩,I.bs,cZ I.ok.Nh I.sz,λb o e hb=>?_,λb hb z=>?_,I.stack,I.FX
  .have e1:lW.cells.lookup y=some c:=e1;have e2:lW.cells.lookup z=some c:=e2;rw[mB]at e1 e2;refine y3 (λp hp=>?_) (λy z c a b=>I.ok.inj y z c (cm a).1 (cm b).1) (cN e1) (cN e2);rw[gB];exact DG (cm (y:=p.1) (c:=p.2) hp).2
  .show ∃c,lW.cells.lookup y=some c;have key:∀k,lW.kindOf y=some k->(k= .cell\/k= .free)->∃c,lW.cells.lookup y=some c:=λk hk Z2=>by
    unfold Env.kindOf at hk;rw[hsc]at hk;obtain⟨k',e,r⟩:=tN hk;have:k'= .cell\/k'= .free:=by
     rcases r with rfl|⟨rfl,_⟩
     .exact Z2
     .exact .inr rfl
    rcases this with rfl|rfl
    .obtain⟨c,hm⟩:=y0 (n:=(s.heap.push {cls:=.type "dict",data:=.dict #[]}).objs.size) (acc:=hX X.env.cells bb.names []) (cN e);obtain⟨c',e'⟩:=mem_lookup hm;nomatch c',by rw[mB];exact e'
    .obtain⟨c,h1,_⟩:=look e;nomatch c,h1
   rcases hy with hy|hy
   .exact key _ hy (.inl rfl)
   .exact key _ hy (.inr rfl)
  .have z:(bb.names.lookup y==some NameKind.cell)=true:=z;have z:bb.names.lookup y=some .cell:=by simpa using z
   have e:lW.cells.lookup y=some c:=e;rw[mB]at e;rcases qQ (cN e)with hm|⟨_,h2,_⟩
   .rcases pW hm with hm|⟨h1,_⟩
    .cases hm
    .have q:=ok.uniq _ h1;rw[z]at q;cases q
   .rw[gB]at h2;exact sP h2
  .show b≠lW.locals;rw[hL];exact cE (YU b hb).2
  .have e:lW.cells.lookup y=some c:=e;rcases mem e with⟨h1,_⟩|⟨h1,_⟩
   .exact(YU b hb).1.2.2.2.2.1 y c h1 z
   .have h2:s.heap.objs.size+1<=b:=by rw[<-z];exact h1
    exact absurd (cB (YU b hb).2 (sP h2)) (gW _)
  .rcases(YU b hb).1.2.2.2.1 with z|z
   .exact I.ok.FV b o e z
   .exact absurd (cB (bF e) (cZ I.ok.Nh z)) (gW _)
  .rcases ak.mp (I.BE b z)with z|z
   .exact(YU b hb).1.2.1 z
   .exact(YU b hb).1.2.2.1 z
 nomatch okB,rfl,I.bare,Un.kept kp,⟨λ_=>none,?_,λi y av e1 e2 e3=>?_⟩,λy c e=>?_,?_,λy c e=>?_,λp hp=>?_,I.gI.kept kp,by rw[tO];exact I.len
 .show Heap.Ns _ lW.locals _;rw[hL];exact Heap.Ns.keeps (Heap.Ns.new ..) λb o e=>pushCells_keeps _ _ _ _ e
 .obtain⟨e2,sU⟩:=y4 e2;have y6:bb.names.lookup y=some .free/\(lW.kindOf y=some .cell\/lW.kindOf y=some .free):=by
   have key:∀k,lW.scope.names.lookup y=some k->k= .local\/k= .cell\/k= .free->bb.names.lookup y=some .free/\(lW.kindOf y=some .cell\/lW.kindOf y=some .free):=λk hk Z2=>by
    have hk0:=hk;rw[hsc]at hk;obtain⟨k',e,r⟩:=tN hk;have no:¬(k'= .local\/k'= .cell):=λhh=>by
     rcases ok.own _ (cN e) hh with e'|e'
     .obtain⟨p,hp,hpy⟩:=cG.mp e';have e3:=ok.ix p hp;have:p.1=y:=hpy;rw[this]at e3;exact sU (cG.mpr ⟨p,hp,BF hN e3 e1⟩)
     .exact e' (iC e1)
    rcases r with rfl|⟨rfl,rfl⟩
    .rcases Z2 with rfl|rfl|rfl
     .exact absurd (.inl rfl) no
     .exact absurd (.inr rfl) no
     .nomatch e,.inr hk0
    .nomatch e,.inl hk0
   have e3:Zz lW.scope y:=e3;rcases e3 with e3|e3|e3
   .exact key _ e3 (.inl rfl)
   .exact key _ e3 (.inr (.inl rfl))
   .exact key _ e3 (.inr (.inr rfl))
  obtain⟨m,hn,hl⟩:=I.loc;have adk:Zz X.env.scope y:=(ok.free _ (cN y6.1) rfl).elim (λk=>.inr (.inl k)) (λk=>.inr (.inr k));obtain⟨w,r,q⟩:=hl i y av e1 e2 adk;nomatch w,r,.inr ⟨y6.2,?_⟩
  obtain⟨c,h1,h2⟩:=look y6.1;rcases q with⟨k,_⟩|⟨_,c',e',z⟩
  .have k:X.env.scope.names.lookup y=some .local:=k;rcases ok.free _ (cN y6.1) rfl with k'|k'<;>rw[show X.env.scope.names.lookup y=_ from k']at k<;>cases k
  .rw[h2]at e';cases e';nomatch c,h1,z.keeps kp
 .have e:lW.cells.lookup y=some c:=e;rcases mem e with⟨h1,_⟩|⟨_,z⟩
  .obtain⟨w,z⟩:=I.cell y c h1;nomatch w,z.keeps kp
  .nomatch _,z
 .show H lW.locals=none;rw[hL];exact I.gI.fresh (bw _)
 .have e:lW.cells.lookup y=some c:=e;rcases mem e with⟨h1,_⟩|⟨h1,_⟩
  .exact I.nI y c h1
  .exact I.gI.fresh (sP h1)
 .exact absurd (show p∈([]:List (aB×mU))++[]from hp) (by simp)
def WY(I:Inv X aA σ H s)(hD:H D=some (.lst xs))(hz:xs.length<aH)(r:RelV y v) (h:∀s',Inv X aA σ (upd H D (.lst (xs++[y]))) s'->Q .none s'):b8 (cg X.prog X.w) X.A (call (.builtin "list.append") [.ref D,v]) Q E s:=by obtain⟨hz',dj,n,ri,e⟩:=I.gI D _ hD;have hl:=ri.length;refine append_at (hsz:=by rw[bG];lia) e λh' sb u9=>?_;refine h {s with heap:=h'} (I.write (t':=s.toks) (by rw[hD];trivial) (.inl rfl) (λb u hb q=>(sb.2 b hb).trans q) ⟨_,u9⟩ ⟨by rw[az];exact hz,dj++[v],n+1,ri.append (.cons r .nil),?_⟩);rw[u9];simp
def PTs(X:Cx)(ifs:List jx)(t:TT):Prop:=∀(aA:List (aB×mU))(s:bq)(σ:St)(H:Hp)(Q:Bool->Hp->Prop),Inv X aA σ H s->t σ H Q-> b8 (cg X.prog X.w) X.A (forIn ifs true λc r=>if r=true then do let ok <-isTrue c X.env (eval c X.env);pure (ForInStep.yield ok)else pure (ForInStep.yield r)) (TP X aA σ Q) X.xe s
def Nt:TT:=λ_ H Q=>Q true H
def uK:PTs X [] Nt:=λ_ _ _ H _ I h=>wpAny_tests_nil ⟨H,I,h⟩
end
def Nu(h:b8 M A t Q (λ_ _=>False) s)(hQ:∀a s,Q a s->Q' a s):b8 M A t Q' E s:=ip h hQ λ_ _ z=>False.elim z
theorem F9(I:Nat->bq->Prop) (turn:∀n s,I n s->b8 (cg prog w) A (pyNext it) (λr s₁=>match r with
   |none=>R (.ok .next) s₁
   |some v=>b8 (cg prog w) A (letOwnedTupleGo target it v) (λ_ s₁'=>b8 (cg prog w) A (assign target env v) (λ_ s₂=>b8 (cg prog w) A (forIn ifs true λc r=>if r=true then do let ok <-isTrue c env (eval c env);pure (ForInStep.yield ok)else pure (ForInStep.yield r)) (λok s₃=>if ok=true then b8 (cg prog w) A (eval elt env) (λx s₄=>b8 (cg prog w) A (call (.builtin "list.append") [acc,x]) (λ_ s₅=>∃m,m<n/\I m s₅) (notedBy (cg prog w) A env λe s'=>R (.error e) s') s₄) (notedBy (cg prog w) A env λe s'=>R (.error e) s') s₃ else ∃m,m<n/\I m s₃) (notedBy (cg prog w) A env λe s'=>R (.error e) s') s₂) (notedBy (cg prog w) A env λe s'=>R (.error e) s') s₁') (notedBy (cg prog w) A env λe s'=>R (.error e) s') s₁) (notedBy (cg prog w) A env λe s'=>R (.error e) s') s)
  (n:Nat) (h:I n s):
  codeAny (cg prog w) A (.compLoop (.ListComp elt [⟨target,iter,ifs,0⟩] bb d_) 0 it acc env) R s:=by
 refine codeAny_loop rfl I (λn s hI=>?_) n h;show b8 _ A ((compTurn (.ListComp elt [⟨target,iter,ifs,0⟩] bb d_) 0 it acc env).onRaise (λx=>do noteFrame x env;theTreesLotGoes x)) _ _ s;refine wpAny_noted ?_;rw[compTurn_list];refine bR (wpAny_standAt (bR (ip (turn n s hI) (λr s₁ h₁=>?_) λ_ _ h'=>h')));cases r with
 |none=>exact dc h₁
 |some v=>
  refine bR (ip h₁ (λ_ s₁' h₁'=>?_) λ_ _ h'=>h');refine bR (ip h₁' (λ_ s₂ h₂=>bR (ip h₂ (λok s₃ h₃=>?_) λ_ _ h'=>h')) λ_ _ h'=>h');cases ok with
  |false=>exact dc ⟨rfl,h₃⟩
  |true=>exact bR (bR (ip h₃ (λx s₄ h₄=>bR (ip h₄ (λ_ s₅ h₅=>dc (dc ⟨rfl,h₅⟩)) λ_ _ h'=>h')) λ_ _ h'=>h'))
section
def tLc(wi:TI)(g:TG)(tt:TT)(te:TE)(vs:List Nat):TE:=fun σ H Q=>wi σ H λJ H1=>∀D,H1 D=none->∃W:Nat->Nat->Hp->Prop,(∃m,W 0 m (upd H1 D (.lst [])))/\∀i m H,W i m H-> (J.stop i H/\Q (.ref D) H)\/(J.go i H/\∃Nx:Hp->Prop,(∀H',Nx H'->∃m',m'<m/\W (i+1) m' H')/\∀x H',J.Tw i H x H'->g x (wipe σ vs) H' fun σ2 H2=>wipe σ2 vs=wipe σ vs/\tt σ2 H2 λb H3=>if b=true then te σ2 H3 λy H4=>∃acc,H4 D=some (.lst acc)/\acc.length<aH/\Nx (upd H4 D (.lst (acc++[y])))else Nx H3)
def Mm{aA:List (aB×mU)}{s:bq}{σ:St}{H:Hp}{Q:VK}{elt tg iter:jx}{ifs:List jx}{bb:ql}{own:List (bL×Nat)}{d_ pos':Nd}{wi:TI}{g:TG}{tt:TT}{te:TE}{use:Option (aM->acL Unit)}{Qf:aM->bq->Prop} (hc:X.calm=true) (hN:X.N.Nodup) (I:Inv X aA σ H s) (hi:PI X tg iter wi) (ok:vt X.N X.env.scope bb own) (hg:∀(s:bq)(H:Hp)(C:aB)(cl:List (bL×aB))(fp:List aB),PG (X.zS s H bb (compEnvC bb cl C X.env) fp) tg g) (ht:∀(s:bq)(H:Hp)(C:aB)(cl:List (bL×aB))(fp:List aB),PTs (X.zS s H bb (compEnvC bb cl C X.env) fp) ifs tt) (he:∀(s:bq)(H:Hp)(C:aB)(cl:List (bL×aB))(fp:List aB),PE (X.zS s H bb (compEnvC bb cl C X.env) fp) elt te) (hs:∀x,foldedSetIterable iter X.env x=pure x) (h:tLc wi g tt te (own.map (·.2)) σ H Q) (WZ:∀D C s' m H',Inv X aA σ H' s'->Q (.ref D) H'->s'.heap.Ns C m->BI X aA H' C->compPost (cg X.prog X.w) X.A X.xe use Qf (.ref D) C (.ok .next) s'): b8 (cg X.prog X.w) X.A (comprehension (.ListComp elt [⟨tg,iter,ifs,0⟩] bb d_) bb X.env pos' (newList []) false (eval iter X.env) use) Qf X.xe s:=by
 have ER:∀y∈bb.names,y.2= .free->∃c,X.env.cells.lookup y.1=some c:=λy hy e=>by
  rcases ok.free y hy e with k|k
  .exact I.ok.has _ (.inl k)
  .exact I.ok.has _ (.inr k)
 refine wpAny_comprehension_free (use:=use) rfl hs (Kw ER) ok.kind (λy hy e=>by rw[ok.uniq y hy,e]) (ic (hi aA s σ H _ I h) λxv s1 hx=>ic hx λitv s2 h2=>?_);obtain⟨it,fp,tn,J,H2,e,I2,T,st2,f2,q⟩:=h2;subst e;refine wpAny_newObj_type (HU ?_) (by show 0<=aH;decide);generalize hD:s2.heap.objs.size=D;have hDn:H2 D=none:=I2.gI.fresh (vo hD);obtain⟨W,⟨m0,w0⟩,turn⟩:=q D hDn;generalize hs3:({s2 with heap:=s2.heap.push {cls:=.type "list",data:=.seq ([]:List aM).toArray}}:bq)=s3;have I3:Inv X aA σ (upd H2 D (.lst [])) s3:=by rw[<-hs3];refine I2.laid (t':=s2.toks) (λb o e=>bx _ e) (vo hD) ⟨bQ _,[],0,.nil,?_⟩;rw[<-hD];exact cv _ rfl
 have h3:s3.heap=s2.heap.push {cls:=.type "list",data:=.seq ([]:List aM).toArray}:=by rw[<-hs3]
 have sz:∀b∈fp,b<s2.heap.objs.size:=λb hb=>by obtain⟨o,e,_⟩:=T.obj _ _ st2 b hb;exact bF e
 have f3:∀b∈fp,BI X aA (upd H2 D (.lst [])) b/\b<s3.heap.objs.size:=λb hb=>by
  have oB:=sz b hb;nomatch⟨?_,(f2 b hb).2⟩,by rw[h3,gB];exact DG oB
  rw[aG (by rw[<-hD];exact cE oB)];exact(f2 b hb).1
 have st3:tn 0 s3.heap:=T.keep _ _ _ st2 λb _ o e=>by rw[h3];exact bx _ e
 have I4:=HV I3 ok hN f3;have pg:=hg s3 (upd H2 D (.lst [])) s3.heap.objs.size (cellsFrom (s3.heap.objs.size+1) bb.names (hX X.env.cells bb.names [])) fp;have pt:=ht s3 (upd H2 D (.lst [])) s3.heap.objs.size (cellsFrom (s3.heap.objs.size+1) bb.names (hX X.env.cells bb.names [])) fp;have pe:=he s3 (upd H2 D (.lst [])) s3.heap.objs.size (cellsFrom (s3.heap.objs.size+1) bb.names (hX X.env.cells bb.names [])) fp;show codeAny _ _ (.compStart (.ListComp elt [⟨tg,iter,ifs,0⟩] bb d_) 0 (.ref it) (.ref D) (compEnvC bb (cellsFrom (s3.heap.objs.size+1) bb.names (hX X.env.cells bb.names [])) s3.heap.objs.size X.env)) (compPost (cg X.prog X.w) X.A X.xe use Qf (.ref D) s3.heap.objs.size) {s3 with heap:=pushCells (s3.heap.push {cls:=.type "dict",data:=.dict #[]}) bb.names};have nfp:∀b∈fp,(upd H2 D (.lst [])) b=none:=λb hb=>(f3 b hb).1.1;generalize hce:compEnvC bb (cellsFrom (s3.heap.objs.size+1) bb.names (hX X.env.cells bb.names [])) s3.heap.objs.size X.env=ce at I4 pg pt pe ⊢;have cL:ce.locals=s3.heap.objs.size:=by subst hce;rfl
 generalize Z3:upd H2 D (.lst [])=H3 at I3 I4 pg pt pe w0 nfp f3;generalize Z4:({s3 with heap:=pushCells (s3.heap.push {cls:=.type "dict",data:=.dict #[]}) bb.names}:bq)=s4 at I4 ⊢;have st4:tn 0 s4.heap:=T.keep _ _ _ st3 λb _ o e=>by rw[<-Z4];exact pushCells_keeps _ _ _ _ (bx _ e)
 have stat:∀{σ':St}{H':Hp}{s':bq},Inv (X.zS s3 H3 bb ce fp) [] σ' H' s'->(∀b∈fp,H' b=none)->∀b∈fp,BI (X.zS s3 H3 bb ce fp) [] H' b:=fun{σ' H' s'} I' hn b hb=>
  ⟨hn b hb,(I'.ok.Vy b hb).1,I'.ok.FW b hb,.inl hb,λx c e=>(I'.ok.Vy b hb).2 x c e,λp hp=>absurd (show p∈([]:List (aB×mU))++[]from hp) (by simp)⟩
 have loop:codeAny (cg X.prog X.w) X.A (.compLoop (.ListComp elt [⟨tg,iter,ifs,0⟩] bb d_) 0 (.ref it) (.ref D) ce) (compPost (cg X.prog X.w) X.A X.xe use Qf (.ref D) s3.heap.objs.size) s4:=by
  refine F9 (λn s'=>∃i H',Inv (X.zS s3 H3 bb ce fp) [] (wipe σ (own.map (·.2))) H' s'/\tn i s'.heap/\(∀b∈fp,H' b=none)/\W i n H') ?_ m0 ⟨0,H3,I4,st4,nfp,w0⟩;rintro n s5 ⟨i,H5,I5,YO,n5,w5⟩;rcases turn i n H5 w5 with⟨stop,qq⟩|⟨go,Nx,hNx,step⟩
  .have td:=T.done (X.zS s3 H3 bb ce fp) rfl rfl rfl hc i [] s5 _ H5 (λ_ _=>False) I5 (stat I5 n5) YO stop;refine Nu td λr s6⟨hr,I6⟩=>?_;subst hr;have I7:Inv X aA σ H5 s6:=I3.ZD (ch:=fp) I6.os I6.base I6.gI I6.bare λb hb=>⟨(f3 b hb).1.2.2.2.1,(f3 b hb).1.2.1,(f3 b hb).1.2.2.2.2.1,(f3 b hb).1.2.2.2.2.2⟩;have nC:H5 s3.heap.objs.size=none:=by have z:H5 ce.locals=none:=I6.free;rw[cL]at z;exact z
   obtain⟨m,hn,_⟩:=I6.loc;have hn:s6.heap.Ns ce.locals m:=hn;rw[cL]at hn;exact WZ D s3.heap.objs.size s6 m H5 I7 qq hn (I3.PL (bw _) nC)
  .have ti:=T.item (X.zS s3 H3 bb ce fp) rfl rfl rfl hc i [] s5 _ H5 (λ_ _=>False) I5 (stat I5 n5) YO go;refine Nu ti λr s6⟨u,hr,h6⟩=>?_;subst hr;refine Nu h6 λ_ s7⟨x,H7,I7,r7,y7,st7,n7⟩=>?_;have I7':=I7.pinned (stat I7 n7) (T.obj _ _ st7);refine Nu (pg _ s7 _ H7 x u _ I7' r7 (step x H7 y7)) λ_ s8⟨σ8,H8,I8,hw8,q8⟩=>?_;refine Nu (pt _ s8 σ8 H8 _ I8 q8) λb s9⟨H9,I9,q9⟩=>?_;have fin:∀{s':bq}{H':Hp},Inv (X.zS s3 H3 bb ce fp) ([]++BK fp s7.heap) σ8 H' s'->Nx H'->∃m,m<n/\∃i H',Inv (X.zS s3 H3 bb ce fp) [] (wipe σ (own.map (·.2))) H' s'/\tn i s'.heap/\(∀b∈fp,H' b=none)/\W i m H':=fun{s' H'} I' nx=>by
    obtain⟨m',hm,w'⟩:=hNx H' nx;have Z5:∀b∈fp,∀o,s7.heap.get? b=some o->s'.heap.get? b=some o/\H' b=none:=λb hb o e=>
     let z:=I'.pin (b,o) (fM _ (fM _ (wj hb e)));⟨z.1,z.2.1⟩
    have hl:(wipe σ (own.map (·.2))).length=σ8.length:=by rw[<-hw8,tO]
    nomatch m',hm,i+1,H',(I'.xj (aA:=[])).weak hl (λj v e=>?_),T.keep _ _ _ st7 λb hb o e=>(Z5 b hb o e).1,λb hb=>?_,w'
    .rw[<-hw8]at e;exact(y4 e).1
    .obtain⟨o,e,_⟩:=T.obj _ _ st7 b hb;exact(Z5 b hb o e).2
   cases b with
   |false=>simp only[mD,if_false]at q9 ⊢;exact fin I9 q9
   |true=>simp only[if_true]at q9 ⊢;refine Nu (pe _ s9 σ8 H9 _ I9 q9) λz s10⟨yv,H10,I10,r10,acc,adm,adn,nx⟩=>?_;exact WY (X:=X.zS s3 H3 bb ce fp) I10 adm adn r10 λs11 I11=>fin I11 nx
 exact codeAny_compStart_list loop (T.self X.A 0 _ _ _ st4 loop)
def Mn(hc:X.calm=true)(hN:X.N.Nodup)(hi:PI X tg iter wi)(ok:vt X.N X.env.scope bb own) (hg:∀(s:bq)(H:Hp)(C:aB)(cl:List (bL×aB))(fp:List aB),PG (X.zS s H bb (compEnvC bb cl C X.env) fp) tg g) (ht:∀(s:bq)(H:Hp)(C:aB)(cl:List (bL×aB))(fp:List aB),PTs (X.zS s H bb (compEnvC bb cl C X.env) fp) ifs tt) (he:∀(s:bq)(H:Hp)(C:aB)(cl:List (bL×aB))(fp:List aB),PE (X.zS s H bb (compEnvC bb cl C X.env) fp) elt te) (hs:∀x,foldedSetIterable iter X.env x=pure x:=by intro _;rfl): PE X (.ListComp elt [⟨tg,iter,ifs,0⟩] bb d_) (tLc wi g tt te (own.map (·.2))):=by intro aA s σ H Q I h;rw[eval_ListComp];refine Mm hc hN I hi ok hg ht he hs h λD C s' m H' I' q hn f=>⟨m,hn,λT1 sb=>?_⟩;obtain⟨f0,f1,f2,f3,f4,f5⟩:=f;nomatch .ref D,H',I'.turned (t':=s'.toks) (λb o hb e=>(sb.2 b hb).trans e) f0 f1 f3 f4 f5,rfl,q
def HX(hc:X.calm=true)(hN:X.N.Nodup)(hy:X.N[i]? =some y)(hyl:X.env.scope.names.lookup y=some .local) (hsw:swapsWith (.ListComp elt [⟨tg,iter,ifs,0⟩] bb d_) (some (.Name y py)) ado.line X.env=pure true) (hi:PI X tg iter wi) (ok:vt X.N X.env.scope bb own) (hg:∀(s:bq)(H:Hp)(C:aB)(cl:List (bL×aB))(fp:List aB),PG (X.zS s H bb (compEnvC bb cl C X.env) fp) tg g) (ht:∀(s:bq)(H:Hp)(C:aB)(cl:List (bL×aB))(fp:List aB),PTs (X.zS s H bb (compEnvC bb cl C X.env) fp) ifs tt) (he:∀(s:bq)(H:Hp)(C:aB)(cl:List (bL×aB))(fp:List aB),PE (X.zS s H bb (compEnvC bb cl C X.env) fp) elt te) (hs:∀x,foldedSetIterable iter X.env x=pure x:=by intro _;rfl): PS X (.Assign [.Name y py] (.ListComp elt [⟨tg,iter,ifs,0⟩] bb d_) ado) (PK (tLc wi g tt te (own.map (·.2))) (nJ i)):=by
 intro aA s σ H D I h;rw[exec_Assign_Name_used _ _ _ _ hsw];refine bR (wpAny_standAt (bR ?_));show b8 _ X.A (do let _ <-comprehension (.ListComp elt [⟨tg,iter,ifs,0⟩] bb d_) bb X.env (firstIterPos [⟨tg,iter,ifs,0⟩] d_) (newList []) false (eval iter X.env) (some (assign (.Name y py) X.env))) _ _ s;have h:tLc wi g tt te (own.map (·.2)) σ H (λx H1=>nJ i x σ H1 D.nx):=h;refine bR (ic (Mm (Qf:=λ_ s'=>SP X aA D .next s') hc hN I hi ok hg ht he hs h λL C s' m H' I' q hn f=>?_) λ_ s' hq=>dc (dc hq));show b8 _ _ (assign (.Name y py) X.env (.ref L)) _ _ _;refine wpAny_assign_Name (EO (v:=V.ref L) I' hN hy (.inl hyl) rfl (λs2 I2⟨a,sb,ha⟩=>?_) (.inr hyl));obtain⟨f0,f1,f2,f3,f4,f5⟩:=f;have haC:C≠a:=by
  rcases ha with z|z
  .rw[z];exact f1
  .exact λe=>f4 y a z e.symm
 nomatch m,hn.sameBut sb haC,λh3 sb3=>?_
 nomatch _,H',I2.turned (t':=s2.toks) (λb o hb e=>(sb3.2 b hb).trans e) f0 f1 f3 f4 f5,q
end
def Qi{lo:Int}{n:Nat}{g:TG}{tt:TT}{te:TE}{vs:List Nat}{σ:St}{H1:Hp}{D:aB}{Qd:Hp->Prop}(Pv:Nat->Hp->Prop)(h0:Pv 0 (upd H1 D (.lst []))) (hs:∀i H,i<n->Pv i H->g (.int (lo+i)) (wipe σ vs) H fun σ2 H2=>wipe σ2 vs=wipe σ vs/\tt σ2 H2 λb H3=>if b=true then te σ2 H3 λy H4=>∃acc,H4 D=some (.lst acc)/\acc.length<aH/\Pv (i+1) (upd H4 D (.lst (acc++[y])))else Pv (i+1) H3) (hd:∀H,Pv n H->Qd H): ∃W:Nat->Nat->Hp->Prop,(∃m,W 0 m (upd H1 D (.lst [])))/\∀i m H,W i m H-> ((SY lo n).stop i H/\Qd H)\/((SY lo n).go i H/\∃Nx:Hp->Prop,(∀H',Nx H'->∃m',m'<m/\W (i+1) m' H')/\∀x H',(SY lo n).Tw i H x H'->g x (wipe σ vs) H' fun σ2 H2=>wipe σ2 vs=wipe σ vs/\tt σ2 H2 λb H3=>if b=true then te σ2 H3 λy H4=>∃acc,H4 D=some (.lst acc)/\acc.length<aH/\Nx (upd H4 D (.lst (acc++[y])))else Nx H3):=by
 exists λi m H=>m=n-i/\i<=n/\Pv i H,⟨n,by simp,bQ _,h0⟩;rintro i m H ⟨rfl,hi,p⟩;by_cases oB:i<n
 .refine .inr ⟨oB,Pv (i+1),λH' p'=>⟨n-(i+1),by lia,rfl,oB,p'⟩,λx H' y=>?_⟩;obtain⟨e,y⟩:=y;subst e y;exact hs i _ oB p
 .have e:i=n:=by lia
  subst e;exact .inl ⟨bw _,hd H p⟩
def A_{K:aq}{a:aB}{xs:List V}{g:TG}{tt:TT}{te:TE}{vs:List Nat}{σ:St}{H1:Hp}{D:aB}{Qd:Hp->Prop}(Pv:Nat->Hp->Prop)(h0:Pv 0 (upd H1 D (.lst [])))(hl:∀i H,i<=xs.length->Pv i H->fT K H a xs) (hs:∀i x H,xs[i]? =some x->Pv i H->g x (wipe σ vs) H fun σ2 H2=>wipe σ2 vs=wipe σ vs/\tt σ2 H2 λb H3=>if b=true then te σ2 H3 λy H4=>∃acc,H4 D=some (.lst acc)/\acc.length<aH/\Pv (i+1) (upd H4 D (.lst (acc++[y])))else Pv (i+1) H3) (hd:∀H,Pv xs.length H->Qd H): ∃W:Nat->Nat->Hp->Prop,(∃m,W 0 m (upd H1 D (.lst [])))/\∀i m H,W i m H-> ((VF K a).stop i H/\Qd H)\/((VF K a).go i H/\∃Nx:Hp->Prop,(∀H',Nx H'->∃m',m'<m/\W (i+1) m' H')/\∀x H',(VF K a).Tw i H x H'->g x (wipe σ vs) H' fun σ2 H2=>wipe σ2 vs=wipe σ vs/\tt σ2 H2 λb H3=>if b=true then te σ2 H3 λy H4=>∃acc,H4 D=some (.lst acc)/\acc.length<aH/\Nx (upd H4 D (.lst (acc++[y])))else Nx H3):=by
 exists λi m H=>m=xs.length-i/\i<=xs.length/\Pv i H,⟨xs.length,by simp,bQ _,h0⟩;rintro i m H ⟨rfl,hi,p⟩;have q:=hl i H hi p;by_cases oB:i<xs.length
 .refine .inr ⟨⟨xs,xs[i],q,by simp[oB]⟩,Pv (i+1),λH' p'=>⟨xs.length-(i+1),by lia,rfl,oB,p'⟩,λx H' y=>?_⟩;obtain⟨e,y⟩:=y;subst e;exact hs i x _ (y xs q) p
 .have e:i=xs.length:=by lia
  subst e;exact .inl ⟨⟨xs,q,bw _⟩,hd H p⟩
section
end
section
end
section
variable[DecidableEq κ]
def jl(dh:List (κ×V))(k:κ):Option V:=(dh.find? λkv=>decide (kv.1=k)).map (·.2)
def putK(dh:List (κ×V))(k:κ)(v:V):List (κ×V):=if(dh.any λkv=>decide (kv.1=k))=true then dh.map (λkv=>if kv.1=k then(kv.1,v)else kv)else dh++[(k,v)]
def BP(dh:List (κ×V))(k:κ):List (κ×V):=dh.filter λkv=>decide (kv.1≠k)
def xq{p:κ×V}{r:List (κ×V)}{k:κ}(e:p.1=k):jl (p::r) k=some p.2:=by simp[jl,dv,e]
def jW{p:κ×V}{r:List (κ×V)}{k:κ}(e:¬p.1=k):jl (p::r) k=jl r k:=by simp[jl,dv,e]
theorem BQ(k:κ):∀dh:List (κ×V),(dh.any λkv=>decide (kv.1=k))=(jl dh k).isSome
 | []=>rfl
 |p::r=>by
  rw[fg];by_cases e:p.1=k
  .simp only [xq e,decide_eq_true e,M7,Po]
  .rw[jW e,decide_eq_false e,gc];exact BQ k r
def zT(dh:List (κ×V))(k:κ)(v:V):(putK dh k v).length<=dh.length+1:=by
 unfold putK;split
 .rw[aK];lia
 .rw[az,aN,bN];lia
def xr{dh:List (κ×V)}{k:κ}(v:V)(h:jl dh k=none):putK dh k v=dh++[(k,v)]:=by unfold putK;rw[BQ,h];exact if_neg (by decide)
def tq.y8(r:tq o u):o.isSome=u.isSome:=by
 cases o with
 |none=>cases u with
  |none=>rfl
  |some _=>exact(show False from r).elim
 |some _=>cases u with
  |none=>exact(show False from r).elim
  |some _=>rfl
theorem tq.getD(r:tq o u)(rd:RelV d d'):RelV (o.getD d) (u.getD d'):=by
 cases o with
 |none=>cases u with
  |none=>exact rd
  |some _=>exact(show False from r).elim
 |some _=>cases u with
  |none=>exact(show False from r).elim
  |some _=>exact r
def KV.val(r:KV dh vs)(k:κ):tq (jl dh k) (valueAt vs k):=by
 unfold KV at r;induction r with
 |nil=>exact True.intro
 | @cons p q ps qs h t ih=>
  obtain⟨h1,h2⟩:=h;by_cases e:p.1=k
  .have e':q.1=k:=h1.symm.trans e;have b:valueAt (q::qs) k=some q.2:=by simp[valueAt,dv,e']
   rw[xq e,b];exact h2
  .have e':¬q.1=k:=λz=>e (h1.trans z);have b:valueAt (q::qs) k=valueAt qs k:=by simp[valueAt,dv,e']
   rw[jW e,b];exact ih
theorem KV.any(r:KV dh vs)(k:κ):(dh.any λkv=>decide (kv.1=k))=vs.any λkv=>decide (kv.1=k):=by
 unfold KV at r;induction r with
 |nil=>rfl
 |cons h t ih=>rw[fg,fg,ih,h.1]
def KV.adp(r:KV dh vs)(k:κ)(ry:RelV y u): KV (dh.map λkv=>if kv.1=k then(kv.1,y)else kv) (vs.map λkv=>if kv.1=k then(kv.1,u)else kv):=by
 unfold KV at r ⊢;induction r with
 |nil=>exact .nil
 | @cons p q ps qs h t ih=>
  rw[bp,bp];refine .cons ?_ ih;obtain⟨h1,h2⟩:=h;by_cases e:p.1=k
  .rw[if_pos e,if_pos (h1.symm.trans e)];nomatch h1,ry
  .rw[if_neg e,if_neg (λz=>e (h1.trans z))];nomatch h1,h2
def KV.put(r:KV dh vs)(k:κ)(ry:RelV y u):KV (putK dh k y) (stored vs k u):=by
 unfold putK stored;rw[r.any k];by_cases e:(vs.any λkv=>decide (kv.1=k))=true
 .rw[if_pos e,if_pos e];exact r.adp k ry
 .rw[if_neg e,if_neg e];exact Paired.snoc r ⟨rfl,ry⟩
def KV.drop(r:KV dh vs)(k:κ):KV (BP dh k) (without vs k):=by
 unfold KV at r ⊢;unfold BP without;induction r with
 |nil=>exact .nil
 | @cons p q ps qs h t ih=>
  obtain⟨h1,h2⟩:=h;rw[i8,i8];by_cases e:p.1=k
  .have a:¬decide (p.1≠k)=true:=by simp[e]
   have b:¬decide (q.1≠k)=true:=by simp[h1.symm.trans e]
   rw[if_neg a,if_neg b];exact ih
  .have e':¬q.1=k:=λz=>e (h1.trans z);have a:decide (p.1≠k)=true:=by simp[e]
   have b:decide (q.1≠k)=true:=by simp[e']
   rw[if_pos a,if_pos b];exact .cons ⟨h1,h2⟩ ih
theorem KV.length(r:KV dh vs):dh.length=vs.length:=Paired.length r
def Qj(dh:List (κ×V))(k:κ):(BP dh k).length<=dh.length:=O8 _ _
end
def vw(r:RelV (kV k) u):(hW P w).is k u=true:=by
 cases k with
 |inl i=>obtain⟨t,e⟩:=(show ∃t,u=qk i t from r);subst e;exact HA P w i t
 |inr x=>obtain⟨t,e⟩:=(show ∃t,u=DB x t from r);subst e;exact HB P w x t
section
def Z6(ok:u7 P w H h)(e:Rd H a u):jG P w H h a u:=e.ok ok
def vx(ok:u7 P w H h)(e:Rd H a (.dK dh)):dh.length<=aH/\(a==iX)=false/\∃vs,KV dh vs/\h.DictOf (hW P w) a vs:=
 show jG P w H h a (.dK dh)from Z6 ok e
def VN(ok:u7 P w H h)(e:H a=some (.dK dh)):dh.length<=aH/\(a==iX)=false/\∃vs,KV dh vs/\h.DictOf (hW P w) a vs:=vx ok (.inl e)
end
def lM(H:Hp)(a:aB)(y:V)(r:Option V):Prop:=∃dh k,Rd H a (.dK dh)/\y=kV k/\r=jl dh k
def u_(H:Hp)(a:aB)(y v:V)(H':Hp):Prop:=∃dh k,H a=some (.dK dh)/\y=kV k/\dh.length<aH/\H'=upd H a (.dK (putK dh k v))
theorem lM.k{H:Hp}{a:aB}{dh:List (Key×V)}{k:Key}(e:H a=some (.dK dh)):lM H a (kV k) (jl dh k):=⟨dh,k,.inl e,rfl,rfl⟩
theorem u_.k{H:Hp}{a:aB}{dh:List (Key×V)}{k:Key}{v:V}(e:H a=some (.dK dh))(hl:dh.length<aH):u_ H a (kV k) v (upd H a (.dK (putK dh k v))):=⟨dh,k,e,rfl,hl,rfl⟩
section
def Inv.big(I:Inv X aA σ H s):iX<s.heap.objs.size:=by have h:dX<s.heap.objs.size:=(I.mod.glob.keeps I.bk).lt;exact DH (by decide) h
def Nv(hu:A.units+1<cLine)(I:Inv X aA σ H s)(g:lM H a y (some v))(ry:RelV y u)(h:∀w' s',Inv X aA σ H s'->RelV v w'->Q w' s'): b8 (cg X.prog X.w) A (getItem (.ref a) u) Q E s:=by obtain⟨dh,k,e,ey,l⟩:=g;subst ey;obtain⟨z,hd,vs,rel,dd⟩:=vx I.gI e;obtain⟨w',hw,HR⟩:=tq.some_of (v:=v) (o:=valueAt vs k) (by rw[l];exact rel.val k);exact wpAny_getItem_of (vw ry) dd.mapOf hw (h w' _ (I.tok _) HR)
def adq(hu:A.units+1<cLine)(I:Inv X aA σ H s)(g:lM H a y o)(ry:RelV y u)(h:∀s',Inv X aA σ H s'->Q (.bool o.isSome) s'): b8 (cg X.prog X.w) A (gN .In u (.ref a)) Q E s:=by obtain⟨dh,k,e,ey,l⟩:=g;subst ey;obtain⟨z,hd,vs,rel,dd⟩:=vx I.gI e;refine wpAny_in_of (vw ry) hd dd.mapOf ?_;rw[<-(rel.val k).y8,<-l];exact h _ (I.tok _)
def T2(hu:A.units+1<cLine)(I:Inv X aA σ H s)(g:lM H a y o)(ry:RelV y u)(h:∀s',Inv X aA σ H s'->Q (.bool (!o.isSome)) s'): b8 (cg X.prog X.w) A (gN .NotIn u (.ref a)) Q E s:=by obtain⟨dh,k,e,ey,l⟩:=g;subst ey;obtain⟨z,hd,vs,rel,dd⟩:=vx I.gI e;refine wpAny_notIn_of (vw ry) hd dd.mapOf ?_;rw[<-(rel.val k).y8,<-l];exact h _ (I.tok _)
def Mo(I:Inv X aA σ H s)(mu:Vx (H a))(hs:Bu a s.heap h')(he:∃q,h'.get? a=some q)(new:jG X.prog X.w (upd H a ob) h' a ob): Inv X aA σ (upd H a ob) {s with heap:=h',toks:=t'}:=I.write (x:=a) (e:=a) mu (.inl rfl) (λb q hb z=>(hs.2 b hb).trans z) he new
def F_(z:dh.length<=aH)(hd:(a==iX)=false)(rel:KV dh vs)(dd:h'.DictOf (hW P w) a vs): jG P w H' h' a (.dK dh):=⟨z,hd,vs,rel,dd⟩
def Nw(hu:A.units+1<cLine)(I:Inv X aA σ H s)(g:u_ H a y v H')(ry:RelV y u)(rv:RelV v r)(h:∀s',Inv X aA σ H' s'->Q () s'): b8 (cg X.prog X.w) A (setItem (.ref a) u r) Q E s:=by
 obtain⟨dh,k,e,ey,l,eH⟩:=g;subst ey eH;obtain⟨z,hd,vs,rel,dd⟩:=VN I.gI e;have hz:vs.length<=aH:=by rw[<-rel.length];exact z
 have hl:(putK dh k v).length<=aH:=by have:=zT dh k v;lia
 refine wpAny_setItem_pairs (hsz:=hz) (vw ry) dd λh' T3 hs=>h _ ?_;have he:∃q,h'.get? a=some q:=let⟨q,_,_,hq,_⟩:=T3;⟨q,hq⟩;exact Mo I (by rw[e];exact True.intro) hs he (F_ hl hd (rel.put k rv) T3)
end
section
def Z7(I:Inv X aA σ H s)(e:H a=some (.dK dh))(ry:RelV (kV k) u)(l:jl dh k=some v)(hm:more=[]\/∃x,more=[x]) (h:∀w' s',Inv X aA σ (upd H a (.dK (BP dh k))) s'->RelV v w'->Q w' s'):b8 (cg X.prog X.w) A (call (.builtin "dict.pop") (.ref a::u::more)) Q E s:=by
 obtain⟨z,hd,vs,rel,dd⟩:=VN I.gI e;obtain⟨w',hw,HR⟩:=tq.some_of (v:=v) (o:=valueAt vs k) (by rw[<-l];exact rel.val k);have hp:(keyPart u).isSome=true:=by
  cases k with
  |inl i=>obtain⟨t,q⟩:=(show ∃t,u=qk i t from ry);subst q;rfl
  |inr x=>obtain⟨t,q⟩:=(show ∃t,u=DB x t from ry);subst q;rfl
 have ha:argsOk "dict.pop" ⟨.ref a::u::more,[]⟩:=by
  rcases hm with q|⟨x,q⟩
  .subst q;exact PySem.F.args_dict_pop_2 _ _
  .subst q;exact PySem.F.args_dict_pop_3 _ _ _
 refine call_meetsIn Kf dd.typeIs PySem.F.entry_dict_pop ha (meets_dict_pop_there (hW X.prog X.w) a (vw ry) more hm hp) ⟨vs,w',dd,by rw[<-rel.length];exact z,hw,λh' T3 hs=>h w' _ ?_ HR⟩;have he:∃q,h'.get? a=some q:=let⟨q,_,_,hq,_⟩:=T3;⟨q,hq⟩;exact Mo I (by rw[e];exact True.intro) hs he (F_ (cZ (Qj dh k) z) hd (rel.drop k) T3)
def Z8(I:Inv X aA σ H s)(e:Rd H a (.dK dh))(h:∀t s',Inv X aA σ H s'->Q (.int dh.length t) s'):b8 (cg X.prog X.w) A (call (.builtin "len") [.ref a]) Q E s:=by obtain⟨z,hd,vs,rel,dd⟩:=vx I.gI e;refine call_len_dict hd dd (by rw[<-rel.length];rw[sizeLine_eq]at z;lia) ?_;rw[<-rel.length];exact h _ _ (I.tok _)
end
def W0(i:jx):Prop:=∀ov iv,subscripted i false ov iv=operate [ov,iv] (getItem ov iv)
def Mp{prog:cq}{w:dH}{A:lE}{E:aM->bq->Prop}{s:bq}{env:J3}{qm slice:jx}{d_:Nd}{T id:String}{Q:aM->bq->Prop} (hl:typeLookup (.type T) "__getitem__"=pure (some (.builtin id))) (hs:W0 slice) (h:b8 (cg prog w) A (eval qm env) (λo s₁=>b8 (cg prog w) A (eval slice env) (λi s₂=>s₂.TypeIs o T/\b8 (cg prog w) A (getItem o i) Q E s₂) E s₁) E s): b8 (cg prog w) A (eval (.Subscript qm slice d_) env) Q E s:=by
 refine Subscript_ (ip h (λo s₁ h₁=>ip h₁ (λi s₂ h₂=>?_) λ_ _ x=>x) λ_ _ x=>x);obtain⟨hT,h₂⟩:=h₂;unfold subscriptTail;refine bR ?_;rw[getitemInPython_of_ne hT.not_modules];refine bR (wpAny_specialOf hT hl ?_);have fin:b8 (cg prog w) A (subscripted slice false o i) (λr s₃=>b8 (cg prog w) A (letTemporaryGo qm o r>>=λ_=>pure r) Q E s₃) E s₂:=by rw[hs o i];exact wpAny_operating (ip h₂ (λr s₃ h₃=>bR (wpAny_letTemporaryGo (dc h₃))) λ_ _ x=>x)
 first
  |exact dc (bR fin)
  |exact bR (dc (bR fin))
  |exact bR fin
def HY(I:Inv X aA σ H s)(g:lM H a y o):s.TypeIs (.ref a) "dict":=by obtain⟨dh,k,e,_,_⟩:=g;obtain⟨_,_,vs,_,dd⟩:=vx I.gI e;exact dd.typeIs
inductive T4(Q:VK)(x:V)(y:V)(H2:Hp):Prop
 |mk(a:_)(v:_)(mV:x= .ref a)(mW:lM H2 a y (some v))(sS:Q v H2)
def Z9(td ty:TE):TE:=fun σ H Q=>td σ H λx H1=>ty σ H1 λy H2=>T4 Q x y H2
inductive W6(Q:VK)(y:V)(x:V)(H2:Hp):Prop
 |mk(a:_)(o:_)(mV:x= .ref a)(mW:lM H2 a y o)(sS:Q (.bl o.isSome) H2)
def ads(ty td:TE):TE:=fun σ H Q=>ty σ H λy H1=>td σ H1 λx H2=>W6 Q y x H2
inductive Ny(Q:VK)(y:V)(x:V)(H2:Hp):Prop
 |mk(a:_)(o:_)(mV:x= .ref a)(mW:lM H2 a y o)(sS:Q (.bl (!o.isSome)) H2)
def T5(ty td:TE):TE:=fun σ H Q=>ty σ H λy H1=>td σ H1 λx H2=>Ny Q y x H2
inductive T6(D:Ends)(σ:St)(v:V)(x:V)(y:V)(H3:Hp):Prop
 |mk(a:_)(H4:_)(mV:x= .ref a)(mW:u_ H3 a y v H4)(sS:D.nx σ H4)
def VO(td ty tv:TE):TS:=λD σ H=>tv σ H λv H1=>td σ H1 λx H2=>ty σ H2 λy H3=>T6 D σ v x y H3
section
def m_(hu:X.A.units+1<cLine)(ho:PE X o td)(hi:PE X i ty)(hs:W0 i):PE X (.Subscript o i d_) (Z9 td ty):=by intro aA s σ H Q I h;refine Mp PySem.F.slot_dict_getitem.lookup hs (ic (ho aA s σ H _ I h) λu s1⟨x,H1,I1,rx,q1⟩=>ic (hi aA s1 σ H1 _ I1 q1) λiv s2⟨y,H2,I2,ry,a,v,ex,g,q2⟩=>?_);subst ex;obtain rfl:u=dZ a:=rx;nomatch HY I2 g,Nv hu I2 g ry λw' s3 I3 HR=>⟨v,H2,I3,HR,q2⟩
def Qk(hu:X.A.units+1<cLine)(hi:PE X i ty)(ho:PE X o td):PC X .In i o (ads ty td):=by intro aA s σ H Q I h;refine ic (hi aA s σ H _ I h) λiv s1⟨y,H1,I1,ry,q1⟩=>ic (ho aA s1 σ H1 _ I1 q1) λu s2⟨x,H2,I2,rx,a,ov,ex,g,q2⟩=>?_;subst ex;obtain rfl:u=dZ a:=rx;exact adq hu I2 g ry λs3 I3=>⟨.bl ov.isSome,H2,I3,rfl,q2⟩
def EZ(hu:X.A.units+1<cLine)(hi:PE X i ty)(ho:PE X o td):PC X .NotIn i o (T5 ty td):=by intro aA s σ H Q I h;refine ic (hi aA s σ H _ I h) λiv s1⟨y,H1,I1,ry,q1⟩=>ic (ho aA s1 σ H1 _ I1 q1) λu s2⟨x,H2,I2,rx,a,ov,ex,g,q2⟩=>?_;subst ex;obtain rfl:u=dZ a:=rx;exact T2 hu I2 g ry λs3 I3=>⟨.bl (!ov.isSome),H2,I3,rfl,q2⟩
def ng(hu:X.A.units+1<cLine)(ho:PE X o td)(hi:PE X i ty)(hv:PE X qm tv)(hs:swapsWith qm (some (.Subscript o i pos')) d_.line X.env=pure false): PS X (.Assign [.Subscript o i pos'] qm d_) (VO td ty tv):=by intro aA s σ H D I h;refine wpAny_Assign_Subscript (ic (hv aA s σ H _ I h) λr s1⟨v,H1,I1,rv,q1⟩=>ic (ho aA s1 σ H1 _ I1 q1) λu s2⟨x,H2,I2,rx,q2⟩=>ic (hi aA s2 σ H2 _ I2 q2) λiv s3⟨y,H3,I3,ry,a,H4,ex,g,q3⟩=>?_) hs;subst ex;obtain rfl:u=dZ a:=rx;exact Nw hu I3 g ry rv λs4 I4=>⟨σ,H4,I4,q3⟩
end
def Ql(h:gD)(hb:iX<h.objs.size):jG P w H (h.push {cls:=.type "dict",data:=.dict #[]}) h.objs.size (.dK []):=⟨bQ _,beq_eq_false_iff_ne.mpr (aL (cE hb)),[],.nil,M8 h⟩
def W7:TE:=λ_ H Q=>∀p,H p=none->Q (.ref p) (upd H p (.dK []))
section
def tP:PE X (.Dict [] [] d_) W7:=λaA s σ H Q I h=>wpAny_Dict_empty ⟨.ref s.heap.objs.size,_,I.laid (a:=s.heap.objs.size) (o:=.dK []) (t':=s.toks) (λ_ _ q=>bx _ q) (bw _) (Ql s.heap I.big),rfl,h _ (I.gI.fresh (bw _))⟩
end
def qp(dh more:List (Key×V)):List (Key×V):=more.foldl (λacc kv=>putK acc kv.1 kv.2) dh
def KV.merge:∀{more:List (Key×V)}{rs:List (Key×aM)}{dh:List (Key×V)}{vs:List (Key×aM)},KV more rs->KV dh vs->KV (qp dh more) (merged vs rs):=by
 intro more rs dh vs r;unfold KV at r;induction r generalizing dh vs with
 |nil=>intro q;exact q
 | @cons p q ps qs h t ih=>
  intro r0;have e:KV (putK dh p.1 p.2) (stored vs q.1 q.2):=by have:=r0.put p.1 h.2;rw[<-h.1];exact this
  exact ih e
theorem vy:∀(more dh:List (Key×V)),(qp dh more).length<=dh.length+more.length
 | [],dh=>by show dh.length<=dh.length+0;lia
 |p::r,dh=>by have h1:=vy r (putK dh p.1 p.2);have h2:=zT dh p.1 p.2;show(qp (putK dh p.1 p.2) r).length<=_;rw[aN];lia
structure M1(X:Cx)(o:jx)(m:bL)(apos:Nd)(e:jx)(mf:Nd):Prop where
 base:attributeBase o m X.env (eval o X.env)=eval o X.env
 As:((ku mf (bE [e] X.env)).all (λx=> !x.1)&&(yJ mf (pH [] X.env)).all (λx=>x.1.isSome)
  &&decide (([e]:List jx).length+([]:List Keyword).length+(if([]:List Keyword).isEmpty then 0 else 1)<30))=true
 line:(apos.endLine==mf.line)=true
 trees:ku mf (bE [e] X.env)=[(false,eval e X.env)]
structure M2(X:Cx)(o:jx)(m:bL)(apos:Nd)(e f:jx)(mf:Nd):Prop where
 base:attributeBase o m X.env (eval o X.env)=eval o X.env
 As:((ku mf (bE [e,f] X.env)).all (λx=> !x.1)&&(yJ mf (pH [] X.env)).all (λx=>x.1.isSome)
  &&decide (([e,f]:List jx).length+([]:List Keyword).length+(if([]:List Keyword).isEmpty then 0 else 1)<30))=true
 line:(apos.endLine==mf.line)=true
 trees:ku mf (bE [e,f] X.env)=[(false,eval e X.env),(false,eval f X.env)]
def IsD(H:Hp)(a:aB):Prop:=(∃dh,Rd H a (.dK dh))\/False
def Kx(I:Inv X aA σ H s)(d:IsD H a): s.TypeIs (.ref a) "dict"/\(∀b,dZ a= .ref b->∃ob,s.heap.get? b=some ob/\ob.dict=none)/\(a==iX)=false:=by
 obtain⟨dh,e⟩:=Or.resolve_right (show _\/False from d) id;obtain⟨_,hd,vs,_,dd⟩:=vx I.gI e;nomatch dd.typeIs,λb q=>?_,hd
 cases q;obtain⟨ob,_,_,h1,h2,_⟩:=dd;nomatch ob,h1,h2.2.1
section
def W8(hu:A.units+1<cLine)(I:Inv X aA σ H s)(g:lM H a y o)(ry:RelV y u)(h:∀w' s',Inv X aA σ H s'->RelV (o.getD .eY) w'->Q w' s'): b8 (cg X.prog X.w) A (call (.builtin "dict.get") [.ref a,u]) Q E s:=by obtain⟨dh,k,e,ey,l⟩:=g;subst ey;obtain⟨z,hd,vs,rel,dd⟩:=vx I.gI e;refine call_meetsIn nD dd.typeIs J2 (PySem.F.args_dict_get_2 _ _) (meets_dict_get (hW X.prog X.w) a (vw ry) hd) ⟨_,dd.mapOf,h _ _ (I.tok _) ?_⟩;rw[l];exact(rel.val k).getD rfl
def W9(hu:A.units+1<cLine)(I:Inv X aA σ H s)(g:lM H a y o)(ry:RelV y u)(rd:RelV d r)(h:∀w' s',Inv X aA σ H s'->RelV (o.getD d) w'->Q w' s'): b8 (cg X.prog X.w) A (call (.builtin "dict.get") [.ref a,u,r]) Q E s:=by obtain⟨dh,k,e,ey,l⟩:=g;subst ey;obtain⟨z,hd,vs,rel,dd⟩:=vx I.gI e;refine call_meetsIn nD dd.typeIs J2 (PySem.F.args_dict_get_3 _ _ _) (meets_dict_get_default (hW X.prog X.w) a (vw ry) hd r) ⟨_,dd.mapOf,h _ _ (I.tok _) ?_⟩;rw[l];exact(rel.val k).getD rd
end
inductive Qm(ty:TE)(σ:St)(Q:VK)(x:V)(H1:Hp):Prop
 |mk(a:_)(mV:x= .ref a)(mW:IsD H1 a)(sS:ty σ H1 λy H2=>∃o,lM H2 a y o/\Q (o.getD .eY) H2)
def W_(td ty:TE):TE:=fun σ H Q=>td σ H λx H1=>Qm ty σ Q x H1
inductive Qn(ty tx:TE)(σ:St)(Q:VK)(x:V)(H1:Hp):Prop
 |mk(a:_)(mV:x= .ref a)(mW:IsD H1 a)(sS:ty σ H1 λy H2=>tx σ H2 λz H3=>∃o,lM H3 a y o/\Q (o.getD z) H3)
def Ky(td ty tx:TE):TE:=fun σ H Q=>td σ H λx H1=>Qn ty tx σ Q x H1
inductive Qo(ty:TE)(σ:St)(Q:VK)(x:V)(H1:Hp):Prop
 |mk(a:_)(mV:x= .ref a)(mW:IsD H1 a)(sS:ty σ H1 λy H2=>∃dh k v,H2 a=some (.dK dh)/\y=kV k/\jl dh k=some v/\Q v (upd H2 a (.dK (BP dh k))))
def Xa(td ty:TE):TE:=fun σ H Q=>td σ H λx H1=>Qo ty σ Q x H1
section
def Qp(hu:X.A.units+1<cLine)(ho:PE X o td)(he:PE X e ty)(m:M1 X o "get" apos e mf):PE X (.Call (.Attribute o "get" apos) [e] [] mf) (W_ td ty):=by intro aA s σ H Q I h;refine wpAny_Call_method m.base m.As m.line sg nD Kg (ic (ho aA s σ H _ I h) λu s1⟨x,H1,I1,rx,a,ex,d,q1⟩=>?_);subst ex;obtain rfl:u=dZ a:=rx;obtain⟨t1,t2,_⟩:=Kx I1 d;exists t1,t2;rw[m.trees];refine Calls.callWith_builtin rfl (Calls.evalArgs_plain (Calls.spliced_cons (ic (he aA s1 σ H1 _ I1 q1) λiv s2⟨y,H2,I2,ry,ov,g,q2⟩=>Calls.spliced_nil ?_)));exact W8 hu I2 g ry λw' s3 I3 HR=>⟨_,H2,I3,HR,q2⟩
def BR(hu:X.A.units+1<cLine)(ho:PE X o td)(he:PE X e ty)(hf:PE X f tx)(m:M2 X o "get" apos e f mf):PE X (.Call (.Attribute o "get" apos) [e,f] [] mf) (Ky td ty tx):=by intro aA s σ H Q I h;refine wpAny_Call_method m.base m.As m.line sg nD Kg (ic (ho aA s σ H _ I h) λu s1⟨x,H1,I1,rx,a,ex,d,q1⟩=>?_);subst ex;obtain rfl:u=dZ a:=rx;obtain⟨t1,t2,_⟩:=Kx I1 d;exists t1,t2;rw[m.trees];refine Calls.callWith_builtin rfl (Calls.evalArgs_plain (Calls.spliced_cons (ic (he aA s1 σ H1 _ I1 q1) λiv s2⟨y,H2,I2,ry,q2⟩=>Calls.spliced_cons (ic (hf aA s2 σ H2 _ I2 q2) λfv s3⟨z,H3,I3,rz,ov,g,q3⟩=>Calls.spliced_nil ?_))));exact W9 hu I3 g ry rz λw' s4 I4 HR=>⟨_,H3,I4,HR,q3⟩
def HZ(ho:PE X o td)(he:PE X e ty)(m:M1 X o "pop" apos e mf):PE X (.Call (.Attribute o "pop" apos) [e] [] mf) (Xa td ty):=by intro aA s σ H Q I h;refine wpAny_Call_method m.base m.As m.line sg Kf PySem.F.type_dict_pop (ic (ho aA s σ H _ I h) λu s1⟨x,H1,I1,rx,a,ex,d,q1⟩=>?_);subst ex;obtain rfl:u=dZ a:=rx;obtain⟨t1,t2,_⟩:=Kx I1 d;exists t1,t2;rw[m.trees];refine Calls.callWith_builtin rfl (Calls.evalArgs_plain (Calls.spliced_cons (ic (he aA s1 σ H1 _ I1 q1) λiv s2⟨y,H2,I2,ry,dh,k,v,ea,ey,l,q2⟩=>Calls.spliced_nil ?_)));subst ey;exact Z7 I2 ea ry l (.inl rfl) λw' s3 I3 HR=>⟨v,_,I3,HR,q2⟩
end
section
def Qq(I:Inv X aA σ H s)(e:Rd H a (.dK dh))(h:∀p s',H p=none->Inv X aA σ (upd H p (.dK dh)) s'->Q (.ref p) s'):b8 (cg X.prog X.w) A (call (.type "dict") [.ref a]) Q E s:=by obtain⟨z,hd,vs,rel,dd⟩:=vx I.gI e;refine kt_call_dict hd dd (by rw[<-rel.length];exact z) λh' T3 hs=>?_;refine h _ _ (I.gI.fresh (bw _)) (I.laid (a:=s.heap.objs.size) (o:=.dK dh) (t':=s.toks) (λb q hq=>?_) (bw _) (F_ z (beq_eq_false_iff_ne.mpr (aL (cE I.big))) rel T3));exact(hs.2 b (cE (bF hq))).trans (bx _ hq)
end
section
end
def BS:typeLookup (.type "list") "keys"=pure none:=am_miss_of_fast (by first|decide+kernel|rfl)
def H_:entryFor table "dict.update.loop"=some Builtin.«dict.update.loop»:=entryFor_of_tree (by kernel_rfl)
def tQ:plainId "dict.update.loop"=true:=by decide+kernel
section
def Nz(hx:s.heap.get? a=some o)(hc:o.cls= .type "list")(wq:o.data= .seq xs k)(hd:o.dict=none)(hA:A.handled=none) (h:∀h' tk,(∀b ob,s.heap.get? b=some ob->h'.get? b=some ob)->Q none {s with heap:=h',toks:=tk}):b8 (cg prog w) A (getAttr? (.ref a) "keys") Q E s:=by
 obtain⟨c,dct,dat,sl⟩:=o;simp only at hc wq hd;subst hc wq hd;obtain⟨hp,g,d,tk,os⟩:=s;have hT:∀tk',(⟨hp,g,d,tk',os⟩:bq).TypeIs (.ref a) "list":=λ_=>⟨_,hx,rfl⟩;have Z_:=BS;have aaa:(["__module__","__name__","__qualname__","__doc__","__annotations__"]:List bL).contains "keys"=false:=by decide+kernel
 have hsz:("keys":bL).length+100<=aH:=by first|size_fits|decide+kernel
 have f1:=sub_AttributeError;have f3:=PySem.F.slot_list_getattribute.lookup;have f4:=PySem.F.slot_list_getattribute.bind (.ref a);have f5:=am_list_getattr_none;unfold getAttr? getAttrBy? getAttrBy;repeat (any_goals (first|assumption|exact hT _|((with_reducible show b8 _ _ (call (Value.builtin "list.__getattribute__") _ _) _ _ _);refine call_meets PySem.F.slot_list_getattribute (hT _) am_entry_list_getattribute (PySem.F.args_list_getattribute_2 _ _) (meets_getattribute_miss_list a xs k sl "keys" _ Z_ aaa hsz) ⟨hx,hA,λh' tk' e hx'=>?_⟩)|wp_step))
 obtain⟨t',u',he⟩:=hx'.there;show b8 _ _ (getattributeRaised _ _ _ _ _ _ _) _ _ _;unfold getattributeRaised;repeat (any_goals (first|assumption|wp_step))
 all_goals first|exact h _ _ hx'.keeps|(dsimp only;repeat (any_goals (first|assumption|exact h _ _ hx'.keeps|wp_step)))
theorem Ia(hh:A.handled=none)(hlI:l≠I)(hSI:S≠I)(hSl:S≠l): ∀(sZ:List (Key×aM))(i:Nat)(acc:List (Key×aM))(ix:Int)(t:SV)(s:bq),items.size=i+sZ.length->acc.length+sZ.length<=aH-> (∀(j:Nat)(q:Key×aM),sZ[j]? =some q->∃(b:aB)(u:aM),items[i+j]? =some (.ref b)/\b≠S/\b≠I/\IsTup s.heap b #[u,q.2]/\tm q.1 u=true)-> s.heap.IsListIter I l i->s.heap.IsList l items->s.heap.DictOf (hW prog w) S acc-> (∀h' tk,h'.DictOf (hW prog w) S (merged acc sZ)->(∀b o,b≠S->b≠I->s.heap.get? b=some o->h'.get? b=some o)->R (.ok (.ret res)) {s with heap:=h',toks:=tk})-> codeAny (cg prog w) A (.builtin "dict.update.loop" ⟨[.ref S,.ref I,.int ix t,res],[]⟩) R s
 | [],i,acc,ix,t,s,hsz,Xb,ht,hit,hl,hm,hR=>by
  refine codeAny_builtin H_ ?_;rw[Around.under_plainId tQ _];show b8 _ A.in1 (pyNext (.ref I)>>=_) _ _ s;refine bR (wpAny_pyNext_list_end (A:=A.in1) hh hit hl (by first|exact LZ (vo hsz)|(simp at hsz;simp;lia)) λh' he=>?_)
  show b8 _ A.in1 (Builtin.Dict.addKeywords S []>>=_) _ _ _;refine bR (dc (dc ?_));exact hR h' s.toks (hm.extBut he hSI) λb o _ hb e=>he b o hb e
 |q::sZ,i,acc,ix,t,s,hsz,Xb,ht,hit,hl,hm,hR=>by
  obtain⟨b,u,hb,hbS,hbI,adu,hk⟩:=ht 0 q rfl;rw[aN]at hsz Xb;refine codeAny_builtin H_ ?_;rw[Around.under_plainId tQ _];show b8 _ A.in1 (pyNext (.ref I)>>=_) _ _ s;refine bR (wpAny_pyNext_list_item (x:=.ref b) hit hl (by simpa using hb) λh1 adv DO=>?_);have VP:IsTup h1 b #[u,q.2]:=adu.extBut DO.extBut hbI;have J7:h1.IsList l items:=hl.extBut DO.extBut hlI;have hm1:h1.DictOf (hW prog w) S acc:=hm.extBut DO.extBut hSI;obtain⟨o,ho,hc,n,hd⟩:=id VP;show b8 _ A.in1 (holding [dZ b] _>>=_) _ _ _;refine bR (wpAny_holding ?_);refine bR (wpAny_tryCatch ?_);unfold Builtin.Dict.pairItems;refine bR (wpAny_typeOf (T:="tuple") ⟨o,ho,hc⟩ ?_);rw[if_pos (by first|decide|rfl|simp)]
  refine bR (wpAny_seqItems ho hd (dc ?_));show b8 _ A.in1 (holding [u,q.2] (dictSet S u q.2)) _ _ _;refine wpAny_holding (wpAny_dictSet_pairs (knd:=hW prog w) (k:=q.1) hk hm1 (λh2 hm2 BJ=>?_) (by lia));refine dc ⟨plainId_quiet tQ _,Ia (items:=items) hh hlI hSI hSl sZ (i+1) (stored acc q.1 q.2) (ix+1) 0 _ (show items.size=i+1+sZ.length by lia) ?_ (λj q' e=>?_) ?_ ?_ hm2 λh' tk DN k=>?_⟩
  .have z:=stored_length_le acc q.1 q.2;lia
  .obtain⟨b',u',hb',aab,aac,aad,Z2⟩:=ht (j+1) q' (by simpa using e);nomatch b',u',?_,aab,aac,(aad.extBut DO.extBut aac).extBut BJ.extBut aab,Z2
   rw[show i+1+j=i+(j+1) by lia];exact hb'
  .exact adv.at λo' e=>BJ.extBut I o' (aL hSI) e
  .exact J7.extBut BJ.extBut (aL hSl)
  .exact hR h' tk DN λc oc h3 h4 e=>k c oc h3 h4 (BJ.extBut c oc h3 (DO.extBut c oc h4 e))
def Au(hh:A.handled=none)(hl:s.heap.get? l=some ol)(hc:ol.cls= .type "list")(hd:ol.dict=none) (wq:ol.data= .seq items n) (hsz:items.size=prs.length) (Xb:prs.length<=aH) (ht:∀(j:Nat)(q:Key×aM),prs[j]? =some q->∃(b:aB)(u:aM),items[j]? =some (.ref b)/\IsTup s.heap b #[u,q.2]/\tm q.1 u=true) (h:∀h' tk,h'.DictOf (hW prog w) s.heap.objs.size (merged [] prs)->(∀b o,s.heap.get? b=some o->h'.get? b=some o)->Q (.ref s.heap.objs.size) {s with heap:=h',toks:=tk}): b8 (cg prog w) A (call (.type "dict") [.ref l]) Q E s:=by
 refine callType_codes (Q₁:=λobj s₁=>obj= .ref s.heap.objs.size/\s₁={s with heap:=s.heap.push {cls:=.type "dict",data:=.dict #[]}}) PySem.F.kt_called_dict (PySem.F.kt_typeCall_dict_1 _) PySem.F.entry_dict_init (kt_code_dict_new _ ⟨rfl,rfl⟩) ?_;rintro obj s₁ ⟨rfl,rfl⟩;have Kv:(s.heap.push {cls:=.type "dict",data:=.dict #[]}).DictOf (hW prog w) s.heap.objs.size []:=M8 s.heap;have k0:∀b o,s.heap.get? b=some o->(s.heap.push {cls:=.type "dict",data:=.dict #[]}).get? b=some o:=λb o e=>bx _ e;exists Kv.typeIs,PySem.F.args_dict_init_2 _ _;unfold Builtin.«dict.__init__»;refine bR ?_;unfold Builtin.Dict.selfAndRest;refine bR (wpAny_notOrdered_dict Kv.typeIs ?_);show b8 _ _ (pure (s.heap.objs.size,[dZ l])) _ _ _;refine dc ?_;show b8 _ _ (DI "dict.__init__" s.heap.objs.size (.ref l) [] .none) _ _ _;unfold DI;refine bR (wpAny_typeOf (T:="list") ⟨ol,k0 _ _ hl,hc⟩ ?_);rw[if_pos (by first|decide|rfl|simp)]
 refine bR (Nz (k0 _ _ hl) hc wq hd hh λh1 tk1 hk1=>?_);rw[if_pos (show(none:Option aM).isNone=true from rfl)];refine bR (wpAny_rule ?_);have J7:h1.IsList l items:=⟨ol,hk1 _ _ (k0 _ _ hl),hc,n,wq⟩;have hS1:s.heap.objs.size<h1.objs.size:=by have e:(s.heap.push {cls:=.type "dict",data:=.dict #[]}).get? s.heap.objs.size=some {cls:=.type "dict",data:=.dict #[]}:=cv _ rfl;exact bF (hk1 _ _ e)
 refine bR (wpAny_pyIter_list J7 ?_);have k2:∀b o,h1.get? b=some o->(h1.push {cls:=.type "list_iterator",data:=.fields #[.ref l,.int 0 0]}).get? b=some o:=λb o e=>bx _ e;have oB:l<s.heap.objs.size:=bF hl;have key:=Ia (prog:=prog) (w:=w) (A:=A.in1) (R:=wants (λr s₂=>r= .none/\Q (.ref s.heap.objs.size) s₂) E) (S:=s.heap.objs.size) (I:=h1.objs.size) (l:=l) (items:=items) (res:=zJ) hh (cE (DH oB hS1)) (cE hS1) (vk oB) prs 0 [] 0 0 {s with heap:=h1.push {cls:=.type "list_iterator",data:=.fields #[.ref l,.int 0 0]},toks:=tk1} (by rw[hsz,qD]) (by rw[bN,qD];exact Xb) (λj q e=>by obtain⟨b,u,e1,e2,e3⟩:=ht j q e;have hb:b<s.heap.objs.size:=e2.lt;nomatch b,u,by rw[qD];exact e1,cE hb,cE (DH hb hS1),e2.keeps λc o z=>k2 _ _ (hk1 _ _ (k0 _ _ z)),e3) ⟨_,cv _ rfl,rfl,rfl⟩ (J7.at λo e=>k2 _ _ e) ((Kv.at λo e=>hk1 _ _ e).at λo e=>k2 _ _ e) (λh' tk DN k=>⟨rfl,h h' tk DN λb o e=>k b o (cE (bF e)) (cE (DH (bF e) hS1)) (k2 _ _ (hk1 _ _ (k0 _ _ e)))⟩);first
  |exact dc ⟨plainId_quiet tQ _,key⟩
  |exact bR (dc (dc ⟨plainId_quiet tQ _,key⟩))
end
section
theorem Ib(I:Inv X aA σ H s):∀{ps:List aB}{dh:List (Key×V)},Paired (λp kv=>l_ X.K H p [kV kv.1,kv.2]) ps dh-> ∃prs:List (Key×aM),KV dh prs/\prs.length=ps.length/\∀(j:Nat)(q:Key×aM),prs[j]? =some q->∃(b:aB)(u:aM),ps[j]? =some b/\IsTup s.heap b #[u,q.2]/\tm q.1 u=true
 |_,_,.nil=>⟨[],.nil,rfl,λj q e=>by simp at e⟩
 |_,_,.cons (a:=p) (b:=kv) h t=>by
  obtain⟨prs,r,hl,hp⟩:=Ib I t;obtain⟨dj,rv,ht,_⟩:=I.tuple h;obtain⟨u,y,ei,ru,ry⟩:=vals2 rv;subst ei;nomatch(kv.1,y)::prs,.cons ⟨rfl,ry⟩ r,by rw[aN,aN,hl],λj q e=>?_
  cases j with
  |zero=>have e':(kv.1,y)=q:=af e;subst e';nomatch p,u,rfl,ht,vw (P:=X.prog) (w:=X.w) ru
  |succ j=>obtain⟨b,u',e1,e2,e3⟩:=hp j q (by simpa using e);nomatch b,u',by simpa using e1,e2,e3
theorem Mq:∀{ps:List aB}{us:List aM},Vals (ps.map V.ref) us->us=ps.map dZ
 | [],us,r=>by rw[Bw]at r;cases r;rfl
 |p::ps,us,r=>by
  rw[bp]at r;cases r with
  |cons h t=>cases h;rw[bp,<-Mq t]
def Kz(aaf:X.calm=true):oC X (.type "dict") (λxs H Q=>∃(a:aB)(ps:List aB)(dh:List (Key×V)),xs=[.ref a]/\fT X.K H a (ps.map V.ref)/\Paired (λp kv=>l_ X.K H p [kV kv.1,kv.2]) ps dh/\ ∀p,H p=none->Q (.ref p) (upd H p (.dK (qp [] dh)))):=by
 intro aA s σ H xs us Q I r q;obtain⟨a,ps,dh,ex,hq,hp,q⟩:=q;subst ex;obtain⟨u,eu,rx⟩:=vals1 r;subst eu;cases rx;obtain⟨dj,rv,pl,hz⟩:=I.list hq;have ei:=Mq rv;subst ei;rw[aK]at hz;obtain⟨prs,rel,hl,hpr⟩:=Ib I hp;obtain⟨o,n,ho,hc,hd,wq⟩:=pl;refine Au (prs:=prs) (I.ok.hd aaf) ho hc hd wq (by simp[hl]) (by rw[hl];exact hz) (λj q' e=>?_) λh' tk DN k=>?_
 .obtain⟨b,u,e1,e2,e3⟩:=hpr j q' e;nomatch b,u,by simp[e1],e2,e3
 .have hm:(s.heap.objs.size==iX)=false:=beq_eq_false_iff_ne.mpr (vk I.big);have hlen:(qp [] dh).length<=aH:=by refine cZ (vy dh []) ?_;rw[bN,qD,rel.length,hl];exact hz
  nomatch .ref s.heap.objs.size,upd H s.heap.objs.size (.dK (qp [] dh)),I.laid (t':=tk) k (bw _) (show jG X.prog X.w _ _ _ (.dK (qp [] dh))from⟨hlen,hm,merged [] prs,KV.merge rel .nil,DN⟩),rfl,q _ (I.gI.fresh (bw _))
end
section
def Inv.E1{t':Nat}{ch:List aB}{T:aB}{ob:HO}(I:Inv X aA σ H s)(k:∀b o,b∉ch->s.heap.get? b=some o->h'.get? b=some o)(hf:∀b∈ch,BI X aA H b)(hT:s.heap.objs.size<=T) (new:jG X.prog X.w (upd H T ob) h' T ob):Inv X aA σ (upd H T ob) {s with heap:=h',toks:=t'}:=by
 have hn:H T=none:=I.gI.fresh hT;have ZC:∀b u,H b=some u->b∉ch:=λb u e z=>by have q:=(hf b z).1;rw[q]at e;cases e
 refine I.step (g':=s.gens) (d':=s.drawn) (ch:=ch) (λb hb=>⟨(hf b hb).2.2.2.1,(hf b hb).2.1,(hf b hb).2.2.2.2.1,(hf b hb).2.2.2.2.2⟩) (λb o _ _ hc e _=>k b o hc e) (λb o _ _ hc e _=>⟨o.slots,k b o hc e⟩) (λb o _ e n=>?_) (λb o hc e=>⟨o,k b o hc e⟩) (λb xs e=>?_) (λb o u e=>?_) (λb ps e=>⟨#[],?_⟩) (λm hm=>?_) (λb u e=>?_) I.bare
 .rw[aG (cE (cB (bF e) hT))];exact n
 .rw[aG (ai e hn)];exact e
 .rw[aG (ai e hn)];exact e
 .rw[aG (ai e hn),e];simp
 .obtain⟨o,es,ep,ho,r⟩:=hm;nomatch o,es,ep,k _ o (λz=>(hf _ z).2.1 rfl) ho,r
 .by_cases hb:b=T
  .subst hb;rw[ae]at e;cases e;exact new
  .rw[aG hb]at e;refine(I.gI b u e).yT (λc v hc q=>k c v ?_ q) (λc q=>by rw[aG (ai q hn)];exact q) λc xs q=>by rw[aG (ai q hn)];exact q
   rcases hc with z|z
   .rw[z];exact ZC b u e
   .exact ZC c _ z
def Inv.lock(I:Inv X aA σ H s)(h:H d=some u)(mu:Vx (some u)):∃od,Inv X aA σ (upd H d (.gm od u)) s:=by
 have x:=I.gI d u h;have ex:∃od,s.heap.get? d=some od:=by
  cases u with
  |lst xs=>obtain⟨_,_,_,_,e⟩:=x;nomatch _,e
  |dK dh=>obtain⟨_,_,_,_,o,_,_,e,_⟩:=x;nomatch o,e
  |ins C dx fs=>obtain⟨_,_,_,e,_⟩:=x;nomatch _,e
  |_=>exact False.elim mu
 obtain⟨od,e⟩:=ex;have new:jG X.prog X.w (upd H d (.gm od u)) s.heap d (.gm od u):=by
  nomatch e,x.yT (λb v _ q=>q) (λb q=>?_) λb xs q=>?_
  .rw[aG (λz=>by rw[z,h]at q;cases q;exact mu)];exact q
  .rw[aG (λz=>by rw[z,h]at q;cases q;exact mu)];exact q
 nomatch od,I.write (x:=d) (e:=d) (t':=s.toks) (h':=s.heap) (by rw[h];exact mu) (.inl rfl) (λb v _ q=>q) ⟨od,e⟩ new
def Inv.Mr(I:Inv X aA σ H s)(h:H d=some u)(mu:Vx (some u)):∀o' u',X.Wu d≠some (.gm o' u'):=λo' u' e=>by have q:=I.base.tD d o' u' e;rw[h]at q;cases q;exact mu
def Inv.unlock(I:Inv X aA σ H s)(h:H d=some (.gm od u))(hn:∀o' u',X.Wu d≠some (.gm o' u')):Inv X aA σ (upd H d u) s:=by
 have YV:∀b o,H b=some o->(∀o' u',o≠ .gm o' u')->b≠d:=λb o e sU z=>by rw[z,h]at e;cases e;exact sU _ _ rfl
 have neN:∀b,H b=none->b≠d:=λb e z=>by rw[z,h]at e;cases e
 nomatch I.ok,I.os,I.bare,⟨I.base.keep,I.base.slot,λb o e n hx=>?_,I.base.there,λb xs e=>?_,λb o x e=>?_,λb ps e=>?_⟩,I.loc,I.cell,?_,λx c e=>?_,λp hp=>?_,λb o e=>?_,I.len
 .rw[aG (neN b (I.base.free b o e n hx))];exact I.base.free b o e n hx
 .have q:=I.base.xg b xs e;rw[aG (YV b _ q (λ_ _ z=>nomatch z))];exact q
 .have q:=I.base.tD b o x e;rw[aG (λz=>by rw[z]at e;exact hn _ _ e)];exact q
 .obtain⟨m,q⟩:=I.base.xh b ps e;nomatch m,by rw[aG (YV b _ q (λ_ _ z=>nomatch z))];exact q
 .rw[aG (neN _ I.free)];exact I.free
 .rw[aG (neN c (I.nI x c e))];exact I.nI x c e
 .obtain⟨e,n,r⟩:=I.pin p hp;nomatch e,by rw[aG (neN _ n)];exact n,r
 .by_cases hb:b=d
  .rw[hb,ae]at e;cases e;rw[hb];obtain⟨_,x⟩:=I.gI d _ h;exact x.yT (λc v _ q=>q) (λc q=>by rw[aG (YV c _ q (λ_ _ z=>nomatch z))];exact q) λc xs q=>by rw[aG (YV c _ q (λ_ _ z=>nomatch z))];exact q
  .rw[aG hb]at e;exact(I.gI b o e).yT (λc v _ q=>q) (λc q=>by rw[aG (YV c _ q (λ_ _ z=>nomatch z))];exact q) λc xs q=>by rw[aG (YV c _ q (λ_ _ z=>nomatch z))];exact q
end
inductive aag(t:TS)(D:Ends)(σ:St)(H:Hp):Prop
 |mk(d:_)(u:_)(mV:H d=some u)(mW:Vx (some u))(sS:∀od,t ⟨fun σ' H'=>H' d=some (.gm od u)/\D.nx σ' (upd H' d u),λv H'=>H' d=some (.gm od u)/\D.rt v (upd H' d u),fun σ' H'=>H' d=some (.gm od u)/\D.bk σ' (upd H' d u),fun σ' H'=>H' d=some (.gm od u)/\D.ct σ' (upd H' d u)⟩ σ (upd H d (.gm od u)))
section
def T7{st:lR}{t:TS}(h:PS X st t):PS X st (aag t):=by
 intro aA s σ H D I hw;obtain⟨d,u,hd,mu,hw⟩:=hw;obtain⟨od,I1⟩:=I.lock hd mu;refine ic (h aA s σ _ _ I1 (hw od)) λf s1 q=>?_;cases f with
 |next=>obtain⟨σ',H',I2,e,q⟩:=q;nomatch σ',_,I2.unlock e (I.Mr hd mu),q
 |brk=>obtain⟨σ',H',I2,e,q⟩:=q;nomatch σ',_,I2.unlock e (I.Mr hd mu),q
 |cont=>obtain⟨σ',H',I2,e,q⟩:=q;nomatch σ',_,I2.unlock e (I.Mr hd mu),q
 |ret v=>obtain⟨x,σ',H',I2,r,e,q⟩:=q;nomatch x,σ',_,I2.unlock e (I.Mr hd mu),r,q
def KA(I:Inv X aA σ H s)(o:mU) (T:Turn X.prog X.w X.K tg J [s.heap.objs.size] s.heap.objs.size tn) (st:tn 0 (s.heap.push o)) (q:R J H):PIE X aA σ tg R (.ref s.heap.objs.size) {s with heap:=s.heap.push o,toks:=tk}:=by
 nomatch s.heap.objs.size,[s.heap.objs.size],tn,J,H,rfl,I.kept λb ob e=>bx _ e,T,st,λb hb=>?_,q
 have e:b=s.heap.objs.size:=by simpa using hb
 subst e;exact I.PL (bw _) (I.gI.fresh (bw _))
end
section
end
section
end
def Its(x:bL):It:=⟨λi _=>i<x.cps.size,λi H v H'=>H'=H/\∃c,x.cps[i]? =some c/\v= .str ⟨#[c]⟩,λi _=>x.cps.size<=i⟩
def Ic{P:cq}{w:dH}{K:aq}{tg:jx}(it:aB)(x:bL)(t:SV)(ty:String)(YT:ty="str_ascii_iterator"\/ty="str_iterator"): Turn P w K tg (Its x) [it] it (λi h=>h.IsStrIter it ty x t i)where
 mem:=by simp
 obj:=λi h st b hb=>by
  have e:b=it:=by simpa using hb
  subst e;obtain⟨o,e,c,d⟩:=st;nomatch o,e,λv z=>by rw[d]at z;cases z
 keep:=λi h h' st k=>let⟨o,ho,r⟩:=st;⟨o,k it (by simp) o ho,r⟩
 item:=by
  intro X hP hw hK hc i aA s σ H E I hf st hg;subst hP hw hK;obtain⟨f0,f1,f2,f3,f4,f5⟩:=hf it (by simp);have W:Walks X.prog X.w X.A it [it] [it] x.cps.size (SignAt x) (λi h=>h.IsStrIter it ty x t i):=by
   rcases YT with e|e
   .rw[e];exact Walks.strAscii (I.ok.hd hc) it x t
   .rw[e];exact Walks.strWide (I.ok.hd hc) it x t
  have Z1:["enumerate","zip","dict_itemiterator","dict_reverseitemiterator","odict_iterator","itertools.zip_longest","itertools.pairwise"].contains ty=false:=by
   rcases YT with e|e
   .rw[e];decide
   .rw[e];decide
  refine W.item i s _ _ hg st λv h' tk hv Mb kk=>?_;obtain⟨c,u,hcx,rfl⟩:=hv;have I1:Inv X aA σ H {s with heap:=h',toks:=tk}:=I.turned (λb o hb e=>kk b o (by simpa using hb) e) f0 f1 f3 f4 f5;obtain⟨oi,e,cc,dd⟩:=id Mb;nomatch _,rfl,PM (s:={s with heap:=h',toks:=tk}) e cc dd Z1 ⟨.str ⟨#[c]⟩,H,I1,⟨u,rfl⟩,⟨rfl,c,hcx,rfl⟩,Mb,λb hb=>(hf b hb).1⟩
 done:=by
  intro X hP hw hK hc i aA s σ H E I hf st hg;subst hP hw hK;obtain⟨f0,f1,f2,f3,f4,f5⟩:=hf it (by simp);have hx:x.cps[i]? =none:=LZ hg;rcases YT with e|e
  .rw[e]at st;exact wpAny_pyNext_ascii_end (I.ok.hd hc) st hx λh' eb=>⟨rfl,I.turned (t':=s.toks) (λb o hb e=>eb b o hb e) f0 f1 f3 f4 f5⟩
  .rw[e]at st;exact wpAny_pyNext_wide_end (I.ok.hd hc) st hx λh' eb=>⟨rfl,I.turned (t':=s.toks) (λb o hb e=>eb b o hb e) f0 f1 f3 f4 f5⟩
 self:=λA i s Q E st h=>by
  rcases YT with e|e
  .rw[e]at st;exact wpAny_pyIter_striter_ascii st h
  .rw[e]at st;exact wpAny_pyIter_striter_wide st h
inductive Xc(R:(It->Hp->Prop))(v:V)(H1:Hp):Prop
 |mk(x:_)(mV:v= .str x)(mW:R (Its x) H1)
def adx(te:TE):TI:=fun σ H R=>te σ H λv H1=>Xc R v H1
def Xd{X:Cx}{tg e:jx}{te:TE}(he:PE X e te):PI X tg e (adx te):=by
 intro aA s σ H R I h;refine ic (he aA s σ H _ I h) λv s1⟨y,H1,I1,r1,x,ex,q⟩=>?_;subst ex;obtain⟨t,rfl⟩:=r1;cases ha:x.cps.all (· <128)
 .exact wpAny_pyIter_wide ha (KA (tk:=s1.toks) I1 _ (Ic _ x t "str_iterator" (.inr rfl)) ⟨_,cv _ rfl,rfl,rfl⟩ q)
 .exact wpAny_pyIter_ascii ha (KA (tk:=s1.toks) I1 _ (Ic _ x t "str_ascii_iterator" (.inl rfl)) ⟨_,cv _ rfl,rfl,rfl⟩ q)
section
end
def Xe{κ:Type}{dh:List (κ×V)}{vs:List (κ×aM)}(h:KV dh vs):∀{i:Nat}{k:κ}{v:V},dh[i]? =some (k,v)->∃u,vs[i]? =some (k,u)/\RelV v u:=by
 unfold KV at h;induction h with
 |nil=>intro i k v e;simp at e
 | @cons a b l₁ l₂ r t ih=>
  intro i k v e;cases i with
  |zero=>
   simp only[L0,Option.some.injEq]at e;subst e;nomatch b.2,?_,r.2
   simp only[L0];exact congrArg some (Prod.ext r.1.symm rfl)
  |succ j=>simp only[List.getElem?_cons_succ]at e ⊢;exact ih e
def Qr(h:tm k u=true):RelV (kV k) u:=by
 rcases iQ h with⟨i,t,rfl,rfl⟩|⟨x,t,rfl,rfl⟩
 .nomatch t,rfl
 .nomatch t,rfl
section
def Inv.Xf(I:Inv X aA σ H s)(h:H d=some (.gm o (.dK dh))): (d==iX)=false/\s.heap.get? d=some o/\o.ExactDict/\∃(es:Array yR)(ep:Nat)(vs:List (Key×aM)),o.data= .dict es ep/\es.size=dh.length/\KV dh vs/\s.heap.DictAt (hW X.prog X.w) d vs ep:=by
 obtain⟨hd,z,hs,vs,kv,o',es,ep,ho,hx,S7,r⟩:=I.gI d _ h;rw[hd]at ho;cases ho;nomatch hs,hd,hx,es,ep,vs,S7,?_,kv,o,es,hd,hx,S7,r
 have l1:=r.2.1.length;have l2:dh.length=vs.length:=Paired.length kv;rw[yE]at l1;lia
end
def Iti(d:aB)(o:mU)(dh:List (Key×V)):It:=⟨λi H=>H d=some (.gm o (.dK dh))/\i<dh.length,λi H x H'=>∃T k v,dh[i]? =some (k,v)/\x= .ref T/\H T=none/\H'=upd H T (.tup [kV k,v]),λi H=>H d=some (.gm o (.dK dh))/\dh.length<=i⟩
def Ms{o:mU}{es Vz:Array yR}{ep VA:Nat}(h:o.data= .dict es ep)(h':o.data= .dict Vz VA):Vz=es/\VA=ep:=by rw[h]at h';cases h';nomatch rfl,rfl
section
variable{P:cq}{w:dH}{K:aq}{d:aB}{o:mU}{es:Array yR}{ep:Nat}
def KC(it:aB)(hod:o.data= .dict es ep): Turn P w K (.Tuple elts kk NA) (Iti d o dh) [it] it (λi h=>∃ok ov,IsItemIter h it d i dh.length ep ok ov)where
 mem:=by simp
 obj:=λi h st b hb=>by
  have e:b=it:=by simpa using hb
  subst e;obtain⟨ok,ov,e⟩:=st;nomatch _,e,λv z=>nomatch z
 keep:=λi h h' st k=>let⟨ok,ov,e⟩:=st;⟨ok,ov,k it (by simp) _ e⟩
 item:=by
  intro X hP hw hK hc i aA s σ H E I hf st hg;subst hP hw hK;obtain⟨hd,hi⟩:=hg;obtain⟨hs,hgd,hx,Vz,VA,vs,S7,hsz,kv,hm⟩:=I.Xf hd;obtain⟨rfl,rfl⟩:=Ms hod S7;obtain⟨⟨k,v⟩,Xg⟩:∃p,dh[i]? =some p:=⟨dh[i],aX hi⟩;obtain⟨u,hu,ru⟩:=Xe kv Xg;have hl:dh.length=vs.length:=Paired.length kv;obtain⟨ok,ov,he⟩:=st;rw[hl]at he;have oB:it<s.heap.objs.size:=bF he;refine wpAny_pyNext_items_item he hm hu λkey h' WI ho hT hz hk=>?_;nomatch _,rfl,wpAny_letOwnedTupleGo_items (s:={s with heap:=h'}) ho λT1 he' sb=>?_
  have hT2:T1.get? s.heap.objs.size=some {cls:=.type "tuple",data:=.seq #[key,u]}:=(sb.2 _ (vk oB)).trans hT;have new:jG X.prog X.w (upd H s.heap.objs.size (.tup [kV k,v])) T1 s.heap.objs.size (.tup [kV k,v]):=⟨by show 2<=aH;decide,[key,u],.cons (Qr (show tm k key=true from WI)) (.cons ru .nil),⟨_,hT2,rfl,_,rfl⟩⟩;have I1:Inv X aA σ (upd H s.heap.objs.size (.tup [kV k,v])) {s with heap:=T1}:=I.E1 (t':=s.toks) (ch:=[it]) (λb ob hb e=>(sb.2 b (by simpa using hb)).trans (hk b ob (by simpa using hb) e)) hf (bw _) new;nomatch .ref s.heap.objs.size,_,I1,rfl,⟨_,k,v,Xg,rfl,I.gI.fresh (bw _),rfl⟩,⟨key,u,?_⟩,λb hb=>?_
  .rw[hl];exact he'
  .have e:b=it:=by simpa using hb
   rw[e,aG (cE oB)];exact(hf it (by simp)).1
 done:=by intro X hP hw hK hc i aA s σ H E I hf st hg;subst hP hw hK;obtain⟨hd,hi⟩:=hg;obtain⟨f0,f1,f2,f3,f4,f5⟩:=hf it (by simp);obtain⟨hs,hgd,hx,Vz,VA,vs,S7,hsz,kv,hm⟩:=I.Xf hd;obtain⟨rfl,rfl⟩:=Ms hod S7;have hl:dh.length=vs.length:=Paired.length kv;obtain⟨ok,ov,he⟩:=st;rw[hl]at he;exact wpAny_pyNext_items_end (I.ok.hd hc) he hm (gz (by lia)) λh' eb=>⟨rfl,I.turned (t':=s.toks) (λb ob hb e=>eb b ob hb e) f0 f1 f3 f4 f5⟩
 self:=λA i s Q E st h=>let⟨_,_,e⟩:=st;PySem.W.kcp_self e h
end
inductive Qs(R:(It->Hp->Prop))(x:V)(H1:Hp):Prop
 |mk(d:_)(o:_)(dh:_)(mV:x= .ref d)(mW:H1 d=some (.gm o (.dK dh)))(sS:R (Iti d o dh) H1)
def Xh(td:TE):TI:=fun σ H R=>td σ H λx H1=>Qs R x H1
section
variable{X:Cx}{e:jx}{td:TE}{apos mf:Nd}
def Qt(he:PE X e td)(o8:attributeBase e "items" X.env (eval e X.env)=eval e X.env:=by rfl)(o9:(apos.endLine==mf.line)=true:=by rfl): PI X (.Tuple elts kk NA) (.Call (.Attribute e "items" apos) [] [] mf) (Xh td):=by
 intro aA s σ H R I h;refine wpAny_Call_method (T:="dict") (id:="dict.items") o8 rfl o9 F.plainAttrs_dict F.slot_dict_items F.type_dict_items (ic (he aA s σ H _ I h) λu s1⟨x,H1,I1,rx,d,o,dh,ex,hd,q⟩=>?_);subst ex;obtain rfl:u=dZ d:=rx;obtain⟨hs,hgd,hx,es,ep,vs,S7,hsz,kv,hm⟩:=I1.Xf hd;have hl:dh.length=vs.length:=Paired.length kv;exists hm.dictOf.typeIs,hm.dictOf.mapOf.noDict;have I2:Inv X aA σ H1 {s1 with heap:=s1.heap.push {cls:=.type "dict_items",data:=.fields #[.ref d]}}:=I1.kept (t':=s1.toks) λb ob q=>bx _ q;have fin:b8 (cg X.prog X.w) X.A (pyIter (.ref s1.heap.objs.size)) (PIE X aA σ (.Tuple elts kk NA) R) X.xe {s1 with heap:=s1.heap.push {cls:=.type "dict_items",data:=.fields #[.ref d]}}:=by refine wpAny_pyIter_items (d:=d) (knd:=hW X.prog X.w) ⟨_,cv _ rfl,rfl,rfl⟩ (hm.push _) (KA (tk:=s1.toks) I2 _ (KC _ S7) ⟨.none,.none,?_⟩ q);rw[hl];exact cv _ rfl
 show b8 _ _ (J4 mf (.builtin "dict.items") [.ref d] [] []) _ X.xe s1;exact method_meetsIn F.slot_dict_items F.entry_dict_items rfl (Pp ⟨rfl,hm.dictOf.typeIs,F.args_dict_items_1 _,_,meets_dict_items (hW X.prog X.w) d hs,⟨vs,hm.dictOf⟩,fin⟩)
end
def Ite(K:aq)(a:aB):It:=⟨λi H=>∃(xs:List V)(x:V),fT K H a xs/\xs[i]? =some x,λi H v H'=>∃T x,v= .ref T/\H T=none/\H'=upd H T (.tup [.int (i:Nat),x])/\∀xs,fT K H a xs->xs[i]? =some x,λi H=>∃xs:List V,fT K H a xs/\xs.length<=i⟩
def NB{P:cq}{w:dH}{K:aq}{elts:List jx}{kk:Nat}{NA:Nd}(a e it:aB): Turn P w K (.Tuple elts kk NA) (Ite K a) [e,it] e (λi h=>(∃old,IsEnum h e it ((i:Nat):Int) old)/\h.IsListIter it a i/\e≠it)where
 mem:=by simp
 obj:=λi h st b hb=>by
  obtain⟨⟨old,he⟩,⟨o,ho,hc,hd⟩,_⟩:=st;have e':b=e\/b=it:=by simpa using hb
  rcases e' with z|z
  .rw[z];nomatch _,he,λv q=>nomatch q
  .rw[z];nomatch o,ho,λv q=>by rw[hd]at q;cases q
 keep:=λi h h' st k=>let⟨⟨old,he⟩,hi,sU⟩:=st;⟨⟨old,k e (by simp) _ he⟩,hi.at λo q=>k it (by simp) o q,sU⟩
 item:=by
  intro X hP hw hK hc i aA s σ H E I hf st hg;subst hP hw hK;obtain⟨⟨old,he⟩,hit,sU⟩:=st;obtain⟨xs,x,hq,hx⟩:=hg;obtain⟨dj,rv,p,hz⟩:=I.list hq;obtain⟨u,hu,ru⟩:=rv.get hx;have hel:e<s.heap.objs.size:=bF he;have Pd:it<s.heap.objs.size:=by obtain⟨_,q,_⟩:=hit;exact bF q
  refine wpAny_pyNext_enum_item he hit p.isList (x:=u) (by simpa using hu) sU λh' ho adz hT hsz hk=>?_;nomatch _,rfl,wpAny_letOwnedTupleGo_enum (s:={s with heap:=h',toks:=s.toks+1}) ho λT1 he' sb=>?_
  have hT2:T1.get? s.heap.objs.size=some {cls:=.type "tuple",data:=.seq #[.int i s.toks,u]}:=(sb.2 _ (vk hel)).trans hT;have new:jG X.prog X.w (upd H s.heap.objs.size (.tup [.int (i:Nat),x])) T1 s.heap.objs.size (.tup [.int (i:Nat),x]):=⟨by show 2<=aH;decide,[.int i s.toks,u],.cons ⟨_,rfl⟩ (.cons ru .nil),⟨_,hT2,rfl,_,rfl⟩⟩;have I1:Inv X aA σ (upd H s.heap.objs.size (.tup [.int (i:Nat),x])) {s with heap:=T1,toks:=s.toks+1}:=I.E1 (ch:=[e,it]) (λb ob hb q=>(sb.2 b (λz=>hb (by simp[z]))).trans (hk b ob (λz=>hb (by simp[z])) (λz=>hb (by simp[z])) q)) hf (bw _) new;nomatch .ref s.heap.objs.size,_,I1,rfl,⟨_,x,rfl,I.gI.fresh (bw _),rfl,λys hy=>by rw[I.HH hy hq];exact hx⟩,⟨⟨u,?_⟩,adz.at λo q=>(sb.2 it (aL sU)).trans q,sU⟩,λb hb=>?_
  .have e1:((i+1:Nat):Int)=(i:Int)+1:=by lia
   rw[e1];exact he'
  .have hb':b<s.heap.objs.size:=by
    have e':b=e\/b=it:=by simpa using hb
    rcases e' with z|z
    .rw[z];exact hel
    .rw[z];exact Pd
   rw[aG (cE hb')];exact(hf b hb).1
 done:=by intro X hP hw hK hc i aA s σ H E I hf st hg;subst hP hw hK;obtain⟨⟨old,he⟩,hit,sU⟩:=st;obtain⟨xs,hq,hx⟩:=hg;obtain⟨dj,rv,p,hz⟩:=I.list hq;obtain⟨f0,f1,f2,f3,f4,f5⟩:=hf it (by simp);have hl:=rv.length;exact wpAny_pyNext_enum_end (I.ok.hd hc) he hit p.isList (by simp;lia) λh' eb=>⟨rfl,I.turned (t':=s.toks) (λb o hb q=>eb b o hb q) f0 f1 f3 f4 f5⟩
 self:=λA i s Q E st h=>let⟨⟨_,he⟩,_⟩:=st;wpAny_pyIter_enum he h
inductive T8(K:aq)(R:(It->Hp->Prop))(vs:(List V))(H1:Hp):Prop
 |mk(a:_)(xs:_)(mV:vs=[.ref a])(mW:fT K H1 a xs)(sS:R (Ite K a) H1)
def aak(K:aq)(ta:TA):TI:=fun σ H R=>ta σ H λvs H1=>T8 K R vs H1
def T9{X:Cx}{e:jx}{ta:TA}{p d_ NA:Nd}{elts:List jx}{kk:Nat}(hg:Gl X "enumerate")(hm:X.mg "enumerate"=none)(ha:PA X [e] ta)(hs:bE [e] X.env=[(false,eval e X.env)]:=by rfl): PI X (.Tuple elts kk NA) (.Call (.Name "enumerate" p) [e] [] d_) (aak X.K ta):=by
 intro aA s σ H R I h;refine Call_ (BG I hg hm boot_enumerate (j3 (ic (ha d_ aA s σ H _ I h) λus s1⟨vs,H1,I1,r1,q1⟩=>?_) hs rfl));obtain⟨a,xs,ex,hq,q⟩:=q1;subst ex;cases r1 with
 |cons r rr=>
  cases rr;cases r;obtain⟨dj,rv,p',hz⟩:=I1.list hq;refine call_enumerate_list p'.isList λh' he hit hsz hk=>wpAny_pyIter_enum he ?_;have I2:Inv X aA σ H1 {s1 with heap:=h'}:=I1.kept (t':=s1.toks) hk;nomatch s1.heap.objs.size+1,[s1.heap.objs.size+1,s1.heap.objs.size],_,_,H1,rfl,I2,NB a (s1.heap.objs.size+1) s1.heap.objs.size,⟨⟨.none,he⟩,hit,Nat.succ_ne_self _⟩,λb hb=>?_,q
  have e':b=s1.heap.objs.size+1\/b=s1.heap.objs.size:=by simpa using hb
  have hle:s1.heap.objs.size<=b:=by
   rcases e' with z|z
   .rw[z];exact Nat.le_add_right _ _
   .rw[z];exact bw _
  exact I1.PL hle (I1.gI.fresh hle)
end L2
section
namespace Ie
open PySem PyProof.Rows
def nM(k:Nat)(hx:0<=x):cj x (2^k-1)=x%2^k:=by
 obtain⟨n,rfl⟩:=Int.eq_ofNat_of_zero_le hx;have hp:0<2^k:=Nat.two_pow_pos k;rw[two_pow_cast];have e:((2^k:Nat):Int)-1=((2^k-1:Nat):Int):=by generalize(2:Nat)^k=m at hp;lia
 rw[e,bitAnd_pp (by lia) (by lia),DF,DF,Nat.and_two_pow_sub_one_eq_mod];first
  |rfl
  |exact Int.natCast_emod _ _
  |simp
def Av(m:Nat):∀n:Nat,(m^^^n)+2*(m&&& n)=m+n:=by
 induction m using Nat.strongRecOn with
 |_ m ih=>
  intro n;by_cases h0:m=0
  .subst h0;simp
  .have ih':=ih (m/2) (by lia) (n/2);rw[<-Nat.xor_div_two,<-Nat.and_div_two]at ih';have o1:= @Nat.xor_mod_two_eq_one m n;have a1:= @Nat.and_mod_two_eq_one m n;lia
def NC(hx:0<=x)(hy:0<=y):vm x y=((x.toNat^^^y.toNat:Nat):Int):=by have e:=Av x.toNat y.toNat;rw[bitXor_and,bitAnd_pp hx hy];lia
def Qu(hx:0<=x)(hy:0<=y):rm x y=((x.toNat|||y.toNat:Nat):Int):=by have e:=nat_or_add_and x.toNat y.toNat;rw[bitOr_and,bitAnd_pp hx hy];omega
end Ie
end
section
namespace TL
open PySem PySem.Builtin PySem.Builtin.Str PySem.StrLaws
abbrev tl(x:bL):List Nat:=x.cps.toList
def n9(x:bL):x.length=(tl x).length:=by simp[tl,Str.length]
def rL(h:tl x=tl y):x=y:=Str.ext' (Array.toList_inj.mp h)
def jA(x y:bL):tl (x++y)=tl x++tl y:=by show(x++y).cps.toList=_;rw[Str.cps_append,Array.toList_append]
theorem BU:∀{l m:List bL},l.map tl=m.map tl->l=m
 | [],[],_=>rfl
 | [],_::_,h=>by simp at h
 |_::_,[],h=>by simp at h
 |x::l,y::m,h=>by rw[bp,bp]at h;injection h with h1 h2;rw[rL h1,BU h2]
def Ig(s:String):tl (ay s)=s.toList.map Char.toNat:=PyProof.Rows.signs_ofString s
def pre(S l:List Nat):Bool:=l.take S.length==S
def zU(S:List Nat):Nat->List Nat->List Nat->List (List Nat)
 |_,acc,[]=>[acc]
 |0,acc,c::r=>if pre S (c::r)=true then acc::zU S (S.length-1) [] r else zU S 0 (acc++[c]) r
 |k+1,acc,_::r=>zU S k acc r
def Ba(S:List Nat)(k:Nat)(acc:List Nat):zU S k acc []=[acc]:=by cases k<;>rfl
def Mt(h:pre S (c::r)=true):zU S 0 acc (c::r)=acc::zU S (S.length-1) [] r:=by show(if pre S (c::r)=true then acc::zU S (S.length-1) [] r else zU S 0 (acc++[c]) r)=_;rw[if_pos h]
def Qv(h:pre S (c::r)=false):zU S 0 acc (c::r)=zU S 0 (acc++[c]) r:=by show(if pre S (c::r)=true then acc::zU S (S.length-1) [] r else zU S 0 (acc++[c]) r)=_;rw[if_neg (by rw[h];exact bJ)]
theorem Ih(S:List Nat):∀(k:Nat)(acc l:List Nat),zU S k acc l=zU S 0 acc (l.drop k)
 |0,_,_=>by rw[Hx]
 |k+1,acc,[]=>by rw[List.drop_nil,Ba,Ba]
 |k+1,acc,c::r=>by show zU S k acc r=zU S 0 acc (r.drop k);exact Ih S k acc r
def T_(hS:S≠[]):pre S []=false:=by
 cases S with
 |nil=>exact absurd rfl hS
 |cons s S=>rfl
def xu{L:List Nat}{a:Nat}(h:a<L.length):∃c,L.drop a=c::L.drop (a+1):=⟨L[a],ib h⟩
theorem Ga(S L:List Nat):∀(m a:Nat)(acc:List Nat),a+m<=L.length->(∀k,a<=k->k<a+m->pre S (L.drop k)=false)-> zU S 0 acc (L.drop a)=zU S 0 (acc++(L.drop a).take m) (L.drop (a+m))
 |0,a,acc,_,_=>by rw[List.take_zero,eT,qE]
 |m+1,a,acc,h,hn=>by
  have oB:a<L.length:=by lia
  obtain⟨c,e⟩:=xu oB;have h0:=hn a (bw _) (by lia);have ih:=Ga S L m (a+1) (acc++[c]) (by lia) (λk h1 h2=>hn k (by lia) (by lia));have e2:a+1+m=a+(m+1):=by lia
  rw[e2]at ih;rw[e]at h0;rw[e,Qv h0,ih,SK,dW]<;>rfl
def Qw(L:List Nat)(a b:Nat):(L.drop a).drop b=L.drop (a+b):=by
 first
  |rw[gX]
  |rw[gX,O6]
def Xi{S L:List Nat}(hS:S≠[]){c:Nat}{acc:List Nat}(h:pre S (L.drop c)=true):zU S 0 acc (L.drop c)=acc::zU S 0 [] (L.drop (c+S.length)):=by
 rw[<-Qw];cases e:L.drop c with
 |nil=>rw[e,T_ hS]at h;cases h
 |cons d r=>
  rw[e]at h;rw[Mt h,Ih];cases S with
  |nil=>exact absurd rfl hS
  |cons s S=>rfl
def Qx(hy:tl y≠[])(i:Nat):At x y x.length i↔pre (tl y) ((tl x).drop i)=true:=by
 have hx:=n9 x;have hl:=n9 y;constructor
 .intro h;have h2:=h.2;rw[subAt_eq,hl]at h2;exact h2
 .intro h;have e:((tl x).drop i).take (tl y).length=tl y:=eq_of_beq h;have e1:=congrArg hU e;rw[bf,cO]at e1;have e2:0<(tl y).length:=yN.mpr hy;exists by lia
  rw[subAt_eq,hl];exact h
def VQ(hy:tl y≠[])(h:¬At x y x.length i):pre (tl y) ((tl x).drop i)=false:=by
 cases hp:pre (tl y) ((tl x).drop i)with
 |false=>rfl
 |true=>exact absurd ((Qx hy i).mpr hp) h
def adA(hy:tl y≠[]):1<=y.length:=by have e2:0<(tl y).length:=yN.mpr hy;rw[n9 y];exact e2
def E2(x:bL)(i j:Nat):tl (strSub x i j)=((tl x).drop i).take (j-i):=strSub_toList x i j
def DX(x:bL)(i:Nat):tl (strSub x i x.length)=(tl x).drop i:=by rw[E2,n9 x];exact cA (by rw[cO]<;>lia)
theorem E3{x y:bL}(hy:tl y≠[]):∀(aal:List Nat)(a f:Nat),a<=(tl x).length->ChainG x y x.length a aal f->(∀k,f<=k->¬At x y x.length k)-> (partsFrom x y.length a aal).map tl=zU (tl y) 0 [] ((tl x).drop a)
 | [],a,f,ha,h,hn=>by
  have e:f=a:=h;subst e;show[tl (strSub x f x.length)]=_;have run:=Ga (tl y) (tl x) ((tl x).length-f) f [] (by lia) (λk h1 _=>VQ hy (hn k h1));have e2:f+((tl x).length-f)=(tl x).length:=by lia
  rw[e2,lJ,Ba,cx,cA (by rw[cO]<;>lia)]at run;rw[run,DX]
 |c::r,a,f,ha,h,hn=>by
  obtain⟨h1,h2,h3,h4⟩:=h;have hc:c+y.length<=x.length:=h2.1;have hx:=n9 x;have hl:=n9 y;have ih:=E3 hy r (c+y.length) f (by lia) h4 hn;show tl (strSub x a c)::(partsFrom x y.length (c+y.length) r).map tl=_;have run:=Ga (tl y) (tl x) (c-a) a [] (by lia) (λk k1 k2=>VQ hy (h3 k k1 (by lia)));have e2:a+(c-a)=c:=by lia
  rw[e2,cx,Xi hy ((Qx hy c).mp h2)]at run;rw[run,ih,E2,hl]
def ND(x y:bL)(hy:tl y≠[])(hk:¬gd x<gd y):(Txt.split x y).map tl=zU (tl y) 0 [] (tl x):=by
 obtain⟨f,g,hn⟩:=occ_tight x y (adA hy);have key:=E3 hy _ 0 f (bQ _) g hn;rw[Hx]at key;have E4:occurrences x y 0 x.length (x.length+1)=[]->[x].map tl=zU (tl y) 0 [] (tl x):=λho=>by rw[ho]at key;rw[<-key];show[tl x]=[tl (strSub x 0 x.length)];rw[sub_whole]
 unfold Txt.split;by_cases h1:(decide (x.length<y.length)||decide (gd x<gd y))=true
 .rw[if_pos h1];have oB:x.length<y.length:=by
   simp only[ky,decide_eq_true_eq]at h1;rcases h1 with h|h
   .exact h
   .exact absurd h hk
  refine E4 ?_;cases ho:occurrences x y 0 x.length (x.length+1)with
  |nil=>rfl
  |cons c r=>rw[ho]at g;have hc:c+y.length<=x.length:=g.2.1.1;lia
 .rw[if_neg h1];by_cases h2:(occurrences x y 0 x.length (x.length+1)).isEmpty=true
  .rw[if_pos h2];exact E4 (List.isEmpty_iff.mp h2)
  .rw[if_neg h2,partsBetween_eq];exact key
def Ua(h:y.cps.all (· <256)=true):¬gd x<gd y:=by
 have e:gd y=1:=by unfold w_;rw[if_pos h]
 rw[e];unfold w_;split
 .lia
 .split<;>lia
def E5(S:List Nat):List (List Nat)->List Nat
 | []=>[]
 | [p]=>p
 |p::q::r=>p++(S++E5 S (q::r))
theorem Mu(y:bL):∀parts:List bL,tl (Str.join y parts)=E5 (tl y) (parts.map tl)
 | []=>rfl
 | [_]=>rfl
 |x::z::r=>by show tl (x++y++Str.join y (z::r))=tl x++(tl y++E5 (tl y) ((z::r).map tl));rw[jA,jA,Mu y (z::r),dW]
def join_eq(y:bL)(parts:List bL):Txt.join y parts=Str.join y parts:=glued_eq_join y parts
def DY(n:Nat):List Nat:=(qF 10 n).map Char.toNat
def Qy(n:Nat):tl (ay (toString ((n:Nat):Int)))=DY n:=PySem.W.KIN.signs_num n
def vz:∀d:Nat,d<10->(L1 d).toNat=48+d:=by decide
def Ub(h:n<10):DY n=[48+n]:=by unfold DY;rw[M9 h];show[(L1 n).toNat]=_;rw[vz n h]
def NF(h:10<=n):DY n=DY (n/10)++[48+n%10]:=by have hm:n%10<10:=lC n (by decide);have t:qF 10 (n/10)++qF 10 (n%10)=qF 10 (10*(n/10)+n%10):=Nat.toDigits_append_toDigits (by decide) (by lia) hm;rw[Hr]at t;show(qF 10 n).map Char.toNat=_;rw[<-t,bW,M9 hm];show(qF 10 (n/10)).map Char.toNat++[(L1 (n%10)).toNat]=_;rw[vz _ hm]<;>rfl
def Ii(n:Nat):NumText.AllDigits (DY n):=by
 induction n using Nat.strongRecOn with
 |_ n ih=>
  by_cases h:n<10
  .rw[Ub h];intro c hc;rw[aO.mp hc];lia
  .rw[NF (by lia)];intro c hc;rcases du.mp hc with hc|hc
   .exact ih (n/10) (by lia) c hc
   .have hm:n%10<10:=lC n (by decide);rw[aO.mp hc];lia
def Qz(hk:0<k)(h:n<10^k):(DY n).length<=k:=by
 have z:=PyProof.Rows.toString_length_le (v:=(n:Int)) (by lia) hk (by
  have e:((10:Int)^k)=((10^k:Nat):Int):=by
   first
    |exact(Int.natCast_pow 10 k).symm
    |simp
  rw[e];first|exact Int.ofNat_lt.mpr h|lia)
 rw[n9,Qy]at z;exact z
end TL
end
namespace L2
open PySem PySem.Spec PyProof.Rows
theorem E6:∀l:List (bL×SV),Vals ((l.map (·.1)).map V.str) (strValues l)
 | []=>.nil
 |p::r=>.cons ⟨p.2,rfl⟩ (E6 r)
theorem rM:∀{ys:List bL}{us:List aM},Vals (ys.map V.str) us->StrsAre us ys
 | [],_,.nil=>.nil
 |y::ys,_,.cons r t=>by obtain⟨k,rfl⟩:=r;exact .cons y k (rM t)
def BV(ys:List bL):Hp->VK->Prop:=λH Q=>∀p,H p=none->Q (.ref p) (upd H p (.lst (ys.map V.str)))
section
def y9(I:Inv X aA σ H s)(e:l.map (·.1)=ys)(hz:ys.length<=aH)(h:BV ys H Q): EP X aA σ Q (.ref s.heap.objs.size) {s with toks:=k,heap:=s.heap.push {cls:=.type "list",data:=.seq (strValues l).toArray}}:=by
 have hp:=I.gI.fresh (bw _);nomatch .ref s.heap.objs.size,upd H s.heap.objs.size (.lst (ys.map V.str)),I.laid (λb u q=>bx _ q) (bw _) ⟨by rw[aK];exact hz,strValues l,_,?_,cv _ rfl⟩,rfl,h _ hp
 rw[<-e];exact E6 l
end
section
def QA:VM X "str.split" (λx xs H Q=>∃a b,x= .str a/\xs=[.str b]/\(b.length==0)=false/\a.length+2<=aH/\BV (Txt.split a b) H Q):=by
 intro aA s σ H x xs v us Q I rx rs h;obtain⟨a,b,rfl,rfl,hb,hz,h⟩:=h;obtain⟨t,rfl⟩:=rx;cases rs with
 |cons r1 rs=>
  cases rs;obtain⟨u,rfl⟩:=r1;have hl:(Txt.split a b).length<=aH:=cZ (PyProof.Rows.split_le a b) hz;have hn:(DJ a (qG a b 0 a.length (a.length+1)) b.length).length<=aH:=by have e1:=StrLaws.occ_length_le a b 0 a.length (a.length+1);rw[length_partsBetween];lia
  cases h1:(decide (a.length<b.length)||decide (gd a<gd b))
  .cases hf:(qG a b 0 a.length (a.length+1)).isEmpty
   .refine call_meets F.slot_str_split (typeIs_str _ _ _) F.entry_str_split (F.args_str_split_2 _ _) (meets_str_split_sep a b t u h1 hb hf (by lia) hn) ?_;show EP X aA σ Q (.ref s.heap.objs.size) {s with toks:=_,heap:=s.heap.push {cls:=.type "list",data:=.seq (strsFrom s.toks (DJ a (qG a b 0 a.length (a.length+1)) b.length)).toArray}};rw[strsFrom_eq];exact y9 (ys:=Txt.split a b) I ((numbered_texts _ _).trans ((if_neg (ne_true_of_eq_false h1)).trans (if_neg (ne_true_of_eq_false hf))).symm) hl h
   .refine call_meets F.slot_str_split (typeIs_str _ _ _) F.entry_str_split (F.args_str_split_2 _ _) (meets_str_split_not_found a b t u h1 hb hf) ?_;exact y9 (l:=[(a,t)]) (ys:=Txt.split a b) (k:=s.toks) I ((if_neg (ne_true_of_eq_false h1)).trans (if_pos hf)).symm hl h
  .refine call_meets F.slot_str_split (typeIs_str _ _ _) F.entry_str_split (F.args_str_split_2 _ _) (meets_str_split_cannot_occur a b t u h1) ?_;exact y9 (l:=[(a,t)]) (ys:=Txt.split a b) (k:=s.toks) I (if_pos h1).symm hl h
def Uc:VM X "str.join" (λx xs H Q=>∃a p,∃ys:List bL,x= .str a/\xs=[.ref p]/\(fT X.K H p (ys.map V.str)\/l_ X.K H p (ys.map V.str))/\ (ys.map (·.length)).sum+ys.length*a.length<=16777216/\Q (.str (Txt.join a ys)) H):=by
 intro aA s σ H x xs v us Q I rx rs h;obtain⟨a,p,ys,rfl,rfl,hp,hz,h⟩:=h;obtain⟨t,rfl⟩:=rx;cases rs with
 |cons r1 rs=>
  cases rs;cases r1;rcases hp with hp|hp
  .obtain⟨dj,r,⟨o,n,ho,hc,_,hd⟩,_⟩:=I.list hp;exact PyProof.Rows.join_list (items:=dj.toArray) ⟨o,ho,hc,n,hd⟩ (by rw[SM];exact rM r) hz λt' k=>⟨.str _,H,I.tok k,⟨t',rfl⟩,h⟩
  .obtain⟨dj,r,ht,_⟩:=I.tuple hp;exact PyProof.Rows.join_tuple (items:=dj.toArray) ht (by rw[SM];exact rM r) hz λt' k=>⟨.str _,H,I.tok k,⟨t',rfl⟩,h⟩
def Gb:oC X (.type "int") (λxs H Q=>∃a n,xs=[.str a]/\PySem.intText? a=some n/\a.length<=640/\Q (.int n) H):=by
 intro aA s σ H xs us Q I rs h;obtain⟨a,n,rfl,hn,hl,h⟩:=h;cases rs with
 |cons r1 rs=>cases rs;obtain⟨t,rfl⟩:=r1;exact PySem.W.KIN.call_text hn hl ⟨.int n,H,I.tok _,⟨_,rfl⟩,h⟩
end
section
inductive aam(r:V->List V->Hp->VK->Prop)(Q:VK)(x:V)(H1:Hp):Prop
 |mk(mV:(∃a,x= .str a))(mW:r x [] H1 Q)
def tM0(r:V->List V->Hp->VK->Prop)(to:TE):TE:=fun σ H Q=>to σ H λx H1=>aam r Q x H1
def tM1(r:V->List V->Hp->VK->Prop)(to te:TE):TE:=fun σ H Q=>to σ H λx H1=>(∃a,x= .str a)/\te σ H1 λy H2=>r x [y] H2 Q
def VR{id:String}{name:bL}{apos d_:Nd}{r:V->List V->Hp->VK->Prop}(slot:Slot "str" name id)(ty:typeOf (.builtin id)=pure (.type "method_descriptor"))(rule:VM X id r)(ho:PE X o to) (o8:attributeBase o name X.env (eval o X.env)=eval o X.env:=by rfl) (o9:(apos.endLine==d_.line)=true:=by rfl):PE X (.Call (.Attribute o name apos) [] [] d_) (tM0 r to):=by intro aA s σ H Q I h;refine PySem.Call_method0 o8 o9 (ic (ho aA s σ H _ I h) λv s1⟨x,H1,I1,r1,q1⟩=>?_);obtain⟨⟨a,rfl⟩,q1⟩:=q1;obtain⟨t,rfl⟩:=_root_.id r1;nomatch "str",_,F.plainAttrs_str,slot,ty,typeIs_str _ _ _,(λ_ e=>nomatch e),Calls.callWith_builtin rfl (Pp (rule aA s1 σ H1 _ [] _ [] Q I1 r1 .nil q1))
def VS{id:String}{name:bL}{apos d_:Nd}{r:V->List V->Hp->VK->Prop}(slot:Slot "str" name id)(ty:typeOf (.builtin id)=pure (.type "method_descriptor"))(rule:VM X id r)(ho:PE X o to)(he:PE X e te) (hs:bE [e] X.env=[(false,eval e X.env)]:=by rfl) (o8:attributeBase o name X.env (eval o X.env)=eval o X.env:=by rfl) (o9:(apos.endLine==d_.line)=true:=by rfl): PE X (.Call (.Attribute o name apos) [e] [] d_) (tM1 r to te):=by
 intro aA s σ H Q I h;refine PySem.Call_method1 o8 hs o9 (ic (ho aA s σ H _ I h) λv s1⟨x,H1,I1,r1,q1⟩=>?_);obtain⟨⟨a,rfl⟩,q1⟩:=q1;obtain⟨t,rfl⟩:=_root_.id r1;nomatch "str",_,F.plainAttrs_str,slot,ty,typeIs_str _ _ _,(λ_ e=>nomatch e),Calls.callWith_builtin rfl (Calls.evalArgs_plain (Calls.spliced_cons ?_))
 exact ic (he aA s1 σ H1 _ I1 q1) λu s2⟨y,H2,I2,r2,q2⟩=>Calls.spliced_nil (rule aA s2 σ H2 _ [y] _ [u] Q I2 r1 (.cons r2 .nil) q2)
def Ij(ho:PE X o to)(he:PE X e te)(hs:bE [e] X.env=[(false,eval e X.env)]:=by rfl)(o8:attributeBase o "split" X.env (eval o X.env)=eval o X.env:=by rfl)(o9:(apos.endLine==d_.line)=true:=by rfl): PE X (.Call (.Attribute o "split" apos) [e] [] d_) (tM1 (λx xs H Q=>∃a b,x= .str a/\xs=[.str b]/\(b.length==0)=false/\a.length+2<=aH/\BV (Txt.split a b) H Q) to te):=VS F.slot_str_split F.type_str_split QA ho he hs o8 o9
def Ud(ho:PE X o to)(he:PE X e te)(hs:bE [e] X.env=[(false,eval e X.env)]:=by rfl)(o8:attributeBase o "join" X.env (eval o X.env)=eval o X.env:=by rfl)(o9:(apos.endLine==d_.line)=true:=by rfl): PE X (.Call (.Attribute o "join" apos) [e] [] d_) (tM1 (λx xs H Q=>∃a p,∃ys:List bL,x= .str a/\xs=[.ref p]/\(fT X.K H p (ys.map V.str)\/l_ X.K H p (ys.map V.str))/\ (ys.map (·.length)).sum+ys.length*a.length<=16777216/\Q (.str (Txt.join a ys)) H) to te):=VS F.slot_str_join F.type_str_join Uc ho he hs o8 o9
end
section
end
end L2
namespace Att
open PySem PySem.W PySem.Calls PyProof.Rows
section
end
end Att
namespace L2
open PySem PySem.Spec PyProof.Rows
def inClass(s:lR)(j:Nat):lR:=match s with
 | .ClassDef _ _ _ body _ _ _ _ _ _ _=>body.getD j (.Pass ⟨0,0,0,0⟩)
 |_=>.Pass ⟨0,0,0,0⟩
def jK(s:lR):Arguments:=match s with
 | .FunctionDef _ a _ _ _ _ _ _ _ _=>a
 |_=>{posonlyargs:=[],args:=[],vararg:=none,kwonlyargs:=[],kw_defaults:=[],kwarg:=none,defaults:=[]}
def i4(s:lR):List lR:=match s with
 | .FunctionDef _ _ b _ _ _ _ _ _ _=>b
 |_=>[]
def cW(s:lR):ql:=match s with
 | .FunctionDef _ _ _ _ _ _ sc _ _ _=>sc
 |_=>{kind:=.function,names:=[],isGenerator:=false,isCoroutine:=false}
abbrev Pe:HL:=λ_ _ _ _ _ _=>False
abbrev E0:XK:=λ_ _ _=>False
def E7:Passes Pe X E0:=λ_ _ _ _ _ _ _ h=>h.elim
structure S8(K:aq)(x qual:bL)(st:lR)(f:aB)(fd:mz):Prop where
 ex:∃(oc:aM)(od:Option aB)(kV doc pm:aM)(an:Option aB)(cdv ct:aM)(HP:Array (Option aM)),
  fd=fk x qual (jK st) (i4 st) (cW st) .none kV doc pm an cdv ct/\K.lookup f=some ⟨oc,od,.func fd,HP⟩/\mI K cdv qual=true
 kp:gP K (.ref f)=true
section
variable{P:cq}{w:dH}{K:aq}{mg:bL->Option aM}{aR:gD}
def S8.ok{x dB:bL}{st:lR}{f:aB}{fd:mz}{N ps:List bL}{k:Nat}{sp:Sp}(F:S8 K x dB st f fd)(S:pT N ps (cW st))(len:∀vs H Q E,sp vs H Q E->vs.length=ps.length) (P8:∀(cdv:aM)(A:lE)(outer:List J3)(s:bq)(H:Hp)(vs:List V)(Q:VK)(E:XK),jV k (A.deeper (i6 dB (cW st) s.heap.objs.size f cdv))->sp vs H Q E-> ∃t,HE (DV Pe P w K mg aR N dB (cW st) f cdv A outer s H E).ZH (i4 st) t/\t {nx:=λ_ H'=>Q .eY H',rt:=Q} (start N vs) H):qo P w K mg aR Pe (k+1) f fd ps sp:=by obtain⟨oc,od,kV,doc,pm,an,cdv,ct,HP,rfl,lk,Pc⟩:=F.ex;refine VJ lk Pc S len λA outer s H vs Q E hr Mh=>?_;obtain⟨t,h,q⟩:=P8 cdv A outer s H vs Q E hr Mh;nomatch t,h.ZH,q
def S8.binds{x dB:bL}{st:lR}{f:aB}{fd:mz}{ps:List bL}(F:S8 K x dB st f fd) (h:∀(kV doc pm:aM)(an:Option aB)(cdv ct:aM)(us:List aM),us.length=ps.length->bindArgs (fk x dB (jK st) (i4 st) (cW st) .none kV doc pm an cdv ct) ⟨us,[]⟩=pure (ps.zip us)):Binds K fd ps []:=by obtain⟨oc,od,kV,doc,pm,an,cdv,ct,HP,rfl,lk,Pc⟩:=F.ex;exact .all (h kV doc pm an cdv ct)
def y_{x dB:bL}{st:lR}{f:aB}{oc:aM}{od an:Option aB}{HP:Array (Option aM)}{kV doc pm cdv ct:aM}(l:K.lookup f=some ⟨oc,od,.func (fk x dB (jK st) (i4 st) (cW st) .none kV doc pm an cdv ct),HP⟩) (c:mI K cdv dB=true) (k:gP K (.ref f)=true):S8 K x dB st f (fk x dB (jK st) (i4 st) (cW st) .none kV doc pm an cdv ct):=⟨⟨oc,od,kV,doc,pm,an,cdv,ct,HP,rfl,l,c⟩,k⟩
end
def lS(hr:jV k A):A.units+1<cLine:=Vs (Nat.add_le_add_left (by decide:1<=64) _) hr.units
section
def pv(i:Nat){x:bL}{d_:Nd}(hN:X.N[i]? =some x:=by rfl)(hv:Zz X.env.scope x:=by first|exact Wk rfl|exact Or.inr (Wk rfl)|exact Or.inr (Or.inr rfl))(hd:(x==("__debug__":bL))=false:=by decide) (Pc:(x==("__classdict__":bL))=false:=by decide):PE X (.Name x d_) (jU i):=Wx hN hv hd Pc
def za:oC X (.builtin "len") (λxs H Q=>∃a dh,xs=[V.ref a]/\H a=some (.dK dh)/\Q (.int dh.length) H):=by intro aA s σ H xs us Q I r h;obtain⟨a,dh,rfl,ha,q⟩:=h;obtain⟨u,rfl,ru⟩:=vals1 r;cases ru;exact Z8 I (.inl ha) λt s' I'=>⟨.int dh.length,H,I',⟨t,rfl⟩,q⟩
end
def gY{A B:Prop}(h:B):if false=true then A else B:=by rw[if_neg bJ];exact h
def fI{A B:Prop}(h:A):if true=true then A else B:=by rw[if_pos rfl];exact h
def a_(H H':Hp):Prop:=∀b o,H b=some o->H' b=some o
def a_.refl(H:Hp):a_ H H:=λ_ _ h=>h
def a_.trans(a:a_ H H1)(b:a_ H1 H2):a_ H H2:=λc o h=>b c o (a c o h)
def a_.free(e:a_ H H')(h:H' l=DK):H l=DK:=by
 cases q:H l with
 |none=>rfl
 |some o=>rw[e l o q]at h;cases h
def a_.seq{K:aq}{H H':Hp}{a:aB}{xs:List V}(e:a_ H H')(h:fT K H a xs):fT K H' a xs:=by
 rcases h with(h|⟨o,h⟩)|h
 .exact .inl (.inl (e _ _ h))
 .exact .inl (.inr ⟨o,e _ _ h⟩)
 .exact .inr h
section
variable[DecidableEq κ]
def Ue{dh:List (κ×V)}{k:κ}{v:V}(h:jl dh k=some v):k∈dh.map (·.1):=by
 have q:(dh.any λkv=>decide (kv.1=k))=true:=by rw[BQ,h];all_goals rfl
 obtain⟨p,hp,e⟩:=Wl.mp q;exact cG.mpr ⟨p,hp,of_decide_eq_true e⟩
theorem Gd:∀{l:List κ}{k:κ},l.Nodup->¬k∈l->(l++[k]).Nodup
 | [],k,_,_=>by simp
 |a::r,k,h,hk=>by
  obtain⟨h1,h2⟩:=cU.mp h;show(a::(r++[k])).Nodup;refine cU.mpr ⟨λm=>?_,Gd h2 λm=>hk (ak.mpr (Or.inr m))⟩;rcases du.mp m with q|q
  .exact h1 q
  .exact hk (ak.mpr (Wk (aO.mp q).symm))
end
def aan{α:Type}{l:List α}(hN:l.Nodup){i j:Nat}{x:α}(a:l[i]? =some x)(b:l[j]? =some x):i=j:=by obtain⟨h1,e1⟩:=aE.mp a;obtain⟨h2,e2⟩:=aE.mp b;exact(Wj hN).mp (e1.trans e2.symm)
def a_.made(nx:H x=DK)(nd:H dx=DK)(k:∀b o,(upd (upd H dx (.own x)) x (.ins C dx [])) b=some o->b≠x->H1 b=some o):a_ H H1:=λb o e=>k b o (by rw[aG (ai e nx),aG (ai e nd)];exact e) (ai e nx)
open PySem.W (WData Codec OpenSpec Well WellAll ReadsW ReadsAllW)
mutual
inductive Dw(K:aq)(H:Hp):V->WData->Prop
 |eY:Dw K H .eY .none
 |bl(b:Bool):Dw K H (.bl b) (.bool b)
 |int(i:Int):Dw K H (.int i) (.int i)
 |str(x:bL):Dw K H (.str x) (.str x)
 |DS(b:Array UInt8):Dw K H (.DS b) (.bytes b.toList)
 |lst{a:aB}{xs:List V}{ds:List WData}:fT K H a xs->sr K H xs ds->Dw K H (.ref a) (.list ds)
 |tup{a:aB}{xs:List V}{ds:List WData}:l_ K H a xs->sr K H xs ds->Dw K H (.ref a) (.tuple ds)
inductive sr(K:aq)(H:Hp):List V->List WData->Prop
 |nil:sr K H [] []
 |cons{v:V}{vs:List V}{d:WData}{ds:List WData}:Dw K H v d->sr K H vs ds->sr K H (v::vs) (d::ds)
end
theorem Mv{K:aq}{H:Hp}:∀ns:List Int,sr K H (ns.map V.int) (ns.map WData.int)
 | []=>.nil
 |n::r=>.cons (.int n) (Mv r)
theorem Mw{K:aq}{H:Hp}:∀(ns:List Int)(xs:List V),sr K H xs (ns.map WData.int)->xs=ns.map V.int
 | [],xs,h=>by cases h;rfl
 |n::r,xs,h=>by
  cases h with
  |cons h1 h2=>cases h1;rw[Mw r _ h2]<;>rfl
section
variable{P:cq}{w:dH}{K:aq}{H:Hp}{h:gD}{R:SN}{cl:bL->Option aB}
def Xj(gI:u7 P w H h)(KX:K.In h)(q:fT K H a xs):∃(dj:List aM)(o:mU)(n:Nat),Vals xs dj/\h.get? a=some o/\o.cls= .type "list"/\o.data= .seq dj.toArray n:=by
 rcases q with q|⟨o,dj,n,e,hc,_,hd,_,hv⟩
 .obtain⟨_,dj,n,hv,e⟩:=(show jG P w H h a (.lst xs)from q.ok gI);nomatch dj,_,n,hv,e,rfl,rfl
 .nomatch dj.toList,o,n,hv,KX _ _ e,hc,by simp[hd]
def Xk(gI:u7 P w H h)(KX:K.In h)(q:l_ K H a xs):∃(dj:List aM)(o:mU)(n:Nat),Vals xs dj/\h.get? a=some o/\o.cls= .type "tuple"/\o.data= .seq dj.toArray n:=by
 rcases q with q|⟨o,dj,n,e,hc,hd,_,hv⟩
 .obtain⟨_,dj,hv,o,e,hc,n,hd⟩:=(show jG P w H h a (.tup xs)from q.ok gI);nomatch dj,o,n,hv,e,hc,hd
 .nomatch dj.toList,o,n,hv,KX _ _ e,hc,by simp[hd]
mutual
theorem Dw.reads(gI:u7 P w H h)(KX:K.In h):∀(d:WData)(v:V)(u:aM),Dw K H v d->RelV v u->∃as,ReadsW R cl h u d as
 | .none,_,_,x,r=>by cases x;cases r;nomatch _,ReadsW.none
 | .bool b,_,_,x,r=>by cases x;cases r;nomatch _,ReadsW.bool b
 | .int i,_,_,x,r=>by cases x;obtain⟨t,rfl⟩:=r;nomatch _,ReadsW.int i t
 | .str s,_,_,x,r=>by cases x;obtain⟨t,rfl⟩:=r;nomatch _,ReadsW.str s t
 | .bytes b,_,_,x,r=>by cases x;obtain⟨t,rfl⟩:=r;nomatch _,ReadsW.bytes _ t
 | .list ds,_,_,x,r=>by
  cases x with
  |lst hs ha=>cases r;obtain⟨dj,o,n,rv,ho,hc,hd⟩:=Xj gI KX hs;obtain⟨as,hr⟩:=Dw.readsAll gI KX ds _ dj ha rv;nomatch _,ReadsW.list ho hc hd hr
 | .tuple ds,_,_,x,r=>by
  cases x with
  |tup hs ha=>cases r;obtain⟨dj,o,n,rv,ho,hc,hd⟩:=Xk gI KX hs;obtain⟨as,hr⟩:=Dw.readsAll gI KX ds _ dj ha rv;nomatch _,ReadsW.tuple ho hc hd hr
 | .float _,_,_,x,_=>by cases x
 | .dict _,_,_,x,_=>by cases x
 | .bytearray _,_,_,x,_=>by cases x
 | .set _,_,_,x,_=>by cases x
 | .frozenset _,_,_,x,_=>by cases x
 | .obj _ _,_,_,x,_=>by cases x
theorem Dw.readsAll(gI:u7 P w H h)(KX:K.In h):∀(ds:List WData)(vs:List V)(us:List aM),sr K H vs ds->Vals vs us->∃as,ReadsAllW R cl h us ds as
 | [],_,_,x,r=>by cases x;cases r;nomatch _,ReadsAllW.nil
 |d::ds,_,_,x,r=>by
  cases x with
  |cons h1 h2=>
   cases r with
   |cons r1 r2=>obtain⟨as,q1⟩:=Dw.reads gI KX d _ _ h1 r1;obtain⟨bs,q2⟩:=Dw.readsAll gI KX ds _ _ h2 r2;nomatch _,ReadsAllW.cons q1 q2
end
end
mutual
def Mx:WData->Bool
 | .none=>true
 | .bool _=>true
 | .int _=>true
 | .str _=>true
 | .bytes _=>true
 | .list xs=>Aw xs
 | .tuple xs=>Aw xs
 |_=>false
def Aw:List WData->Bool
 | []=>true
 |x::r=>Mx x&&Aw r
end
theorem Ik{α:Type}{f:α->WData}(h:∀a,Mx (f a)=true):∀l:List α,Aw (l.map f)=true
 | []=>rfl
 |x::r=>by show(Mx (f x)&&Aw (r.map f))=true;rw[h x,Ik h r]<;>rfl
theorem tR:∀(c:Codec)(a:c.denote),Mx (c.enc a)=true
 | .unit,_=>rfl
 | .bool,_=>rfl
 | .int _ _,_=>rfl
 | .nat _ _,_=>rfl
 | .u8,_=>rfl
 | .bytes _ _,_=>rfl
 | .text _ _ _ _,_=>rfl
 | .list _ _ c,a=>Ik (λx=>tR c x) a
 | .pair c d,a=>by show(Mx (c.enc a.1)&&(Mx (d.enc a.2)&&true))=true;rw[tR c a.1,tR d a.2]<;>rfl
 | .triple c d e,a=>by show(Mx (c.enc a.1)&&(Mx (d.enc a.2.1)&&(Mx (e.enc a.2.2)&&true)))=true;rw[tR c a.1,tR d a.2.1,tR e a.2.2]<;>rfl
 | .option c,none=>rfl
 | .option c,some x=>tR c x
theorem E8:∀(cs:List Codec)(a:Codec.denoteAll cs),Aw (Codec.encAll cs a)=true
 | [],_=>rfl
 |c::cs,a=>by show(Mx (c.enc a.1)&&Aw (Codec.encAll cs a.2))=true;rw[tR c a.1,E8 cs a.2]<;>rfl
theorem wt:∀{xs:List WData}{d:WData},d∈xs->d.weight<=WData.weightAll xs
 | [],d,h=>absurd h (by simp)
 |x::r,d,h=>by
  show d.weight<=x.weight+1+WData.weightAll r;rcases ak.mp h with e|m
  .rw[e];lia
  .have z:=wt m;lia
def toV:aM->V
 | .none=>.eY
 | .bool b=>.bl b
 | .int i _=>.int i
 | .str x _=>.str x
 | .bytes b _=>.DS b
 | .ref a=>.ref a
 |_=>.eY
def NG(A:List aB):aM->Prop
 | .none=>True
 | .bool _=>True
 | .int _ _=>True
 | .str _ _=>True
 | .bytes _ _=>True
 | .ref a=>a∈A
 |_=>False
def NG.mono(h:∀a∈A,a∈B):∀{u:aM},NG A u->NG B u:=fun{u} x=>by
 cases u with
 |ref a=>exact h a x
 |none=>trivial
 |bool b=>trivial
 |int i t=>trivial
 |str s t=>trivial
 |bytes b t=>trivial
 |_=>exact False.elim x
def QB(x:NG A u):RelV (toV u) u:=by
 cases u with
 |ref a=>rfl
 |none=>rfl
 |bool b=>rfl
 |int i t=>nomatch t,rfl
 |str s t=>nomatch t,rfl
 |bytes b t=>nomatch t,rfl
 |_=>exact False.elim x
theorem qR:∀{vs:List aM},(∀u∈vs,NG A u)->Vals (vs.map toV) vs
 | [],_=>.nil
 |u::r,h=>.cons (QB (h u (bI ..))) (qR λx hx=>h x (bo _ hx))
def su(h:gD)(A:List aB)(a:aB):Prop:=∃vs:List aM,vs.length<=aH/\(∀u∈vs,NG A u)/\ (h.get? a=some {cls:=.type "list",data:=.seq vs.toArray}\/h.get? a=some {cls:=.type "tuple",data:=.seq vs.toArray})
theorem su.mono(k:∀a∈A,a∈B)(x:su h A a):su h B a:=by obtain⟨vs,h1,h2,h3⟩:=x;nomatch vs,h1,λu hu=>(h2 u hu).mono k,h3
theorem pX:∀{vs:List aM}{ds:List WData},WellAll P h vs ds->vs.length=ds.length
 |_,_,.nil=>rfl
 |_,_,.cons _ b=>by show _+1=_+1;rw[pX b]
def E9(x:Well P h v (.list ds)):∃(a:aB)(vs:List aM),v= .ref a/\h.get? a=some {cls:=.type "list",data:=.seq vs.toArray}/\WellAll P h vs ds:=by
 cases x with
 |list ho zb=>nomatch _,_,rfl,ho,zb
def BW(x:Well P h v (.tuple ds)):∃(a:aB)(vs:List aM),v= .ref a/\h.get? a=some {cls:=.type "tuple",data:=.seq vs.toArray}/\WellAll P h vs ds:=by
 cases x with
 |tuple ho zb=>nomatch _,_,rfl,ho,zb
def E_(x:WellAll P h us (d::ds)):∃(v:aM)(vs:List aM),us=v::vs/\Well P h v d/\WellAll P h vs ds:=by
 cases x with
 |cons a b=>nomatch _,_,rfl,a,b
def Mz(h:n<=1048576):n<=aH:=cZ h (by decide)
section
variable{P:Params}{h:gD}
mutual
theorem QC:∀(d:WData)(v:aM),Well P h v d->Mx d=true->d.weight<=1048576->∃A:List aB,NG A v/\∀a∈A,su h A a
 | .none,_,x,_,_=>by cases x;nomatch[],trivial,λa m=>absurd m (by simp)
 | .bool b,_,x,_,_=>by cases x;nomatch[],trivial,λa m=>absurd m (by simp)
 | .int i,_,x,_,_=>by cases x;nomatch[],trivial,λa m=>absurd m (by simp)
 | .str s,_,x,_,_=>by cases x;nomatch[],trivial,λa m=>absurd m (by simp)
 | .bytes b,_,x,_,_=>by cases x;nomatch[],trivial,λa m=>absurd m (by simp)
 | .list ds,_,x,p,z=>by
  obtain⟨a,vs,rfl,ho,zb⟩:=E9 x;have z2:WData.weightAll ds<=1048576:=z;obtain⟨A,h1,h2⟩:=xw ds _ zb p λd hd=>cZ (wt hd) z2;have k:∀b∈A,b∈a::A:=λb hb=>bo _ hb;nomatch a::A,bI ..,λb hb=>?_
  rcases ak.mp hb with e|m
  .rw[e];nomatch vs,Mz (by rw[pX zb];exact cZ (DL ds) z2),λu hu=>(h1 u hu).mono k,.inl ho
  .exact(h2 b m).mono k
 | .tuple ds,_,x,p,z=>by
  obtain⟨a,vs,rfl,ho,zb⟩:=BW x;have z2:WData.weightAll ds<=1048576:=z;obtain⟨A,h1,h2⟩:=xw ds _ zb p λd hd=>cZ (wt hd) z2;have k:∀b∈A,b∈a::A:=λb hb=>bo _ hb;nomatch a::A,bI ..,λb hb=>?_
  rcases ak.mp hb with e|m
  .rw[e];nomatch vs,Mz (by rw[pX zb];exact cZ (DL ds) z2),λu hu=>(h1 u hu).mono k,.inr ho
  .exact(h2 b m).mono k
 | .float _,_,_,p,_=>eU (show false=true from p)
 | .dict _,_,_,p,_=>eU (show false=true from p)
 | .bytearray _,_,_,p,_=>eU (show false=true from p)
 | .set _,_,_,p,_=>eU (show false=true from p)
 | .frozenset _,_,_,p,_=>eU (show false=true from p)
 | .obj _ _,_,_,p,_=>eU (show false=true from p)
theorem xw:∀(ds:List WData)(vs:List aM),WellAll P h vs ds->Aw ds=true->(∀d∈ds,d.weight<=1048576)->∃A:List aB,(∀u∈vs,NG A u)/\∀a∈A,su h A a
 | [],_,x,_,_=>by cases x;nomatch[],λu m=>absurd m (by simp),λa m=>absurd m (by simp)
 |d::ds,_,x,p,z=>by
  obtain⟨v,vs,rfl,x1,x2⟩:=E_ x;have q:Mx d=true/\Aw ds=true:=Pq.mp p;obtain⟨A,a1,a2⟩:=QC d v x1 q.1 (z d (bI ..));obtain⟨B,b1,b2⟩:=xw ds vs x2 q.2 λe he=>z e (bo _ he);have kA:∀b∈A,b∈A++B:=λb hb=>du.mpr (.inl hb);have kB:∀b∈B,b∈A++B:=λb hb=>du.mpr (.inr hb);nomatch A++B,λu hu=>?_,λb hb=>?_
  .rcases ak.mp hu with e|m
   .rw[e];exact a1.mono kA
   .exact(b1 u m).mono kB
  .rcases du.mp hb with m|m
   .exact(a2 b m).mono kA
   .exact(b2 b m).mono kB
end
end
def Ug(o:mU):Option HO:=match o.data with
 | .seq vs _=>if(o.cls==qC "list")=true then some (.gm o (.lst (vs.toList.map toV)))else some (.gm o (.tup (vs.toList.map toV)))
 |_=>none
def rN(K:aq)(h:gD)(A:List aB):Hp:=λb=>if b∈A then(if(K.lookup b).isNone=true then(h.get? b).bind Ug else none)else none
def Fb(H:Hp):Prop:=∀b,H b=none\/∃o u,H b=some (.gm o u)
def Il(vs:List aM):Ug {cls:=.type "list",data:=.seq vs.toArray}=some (.gm {cls:=.type "list",data:=.seq vs.toArray} (.lst (vs.map toV))):=by show(if(qC "list"==qC "list")=true then some (HO.gm {cls:=.type "list",data:=.seq vs.toArray} (.lst (vs.toArray.toList.map toV)))else some (HO.gm {cls:=.type "list",data:=.seq vs.toArray} (.tup (vs.toArray.toList.map toV))))=_;rw[if_pos (beq_self_eq_true _)]
def Im(vs:List aM):Ug {cls:=.type "tuple",data:=.seq vs.toArray}=some (.gm {cls:=.type "tuple",data:=.seq vs.toArray} (.tup (vs.map toV))):=by show(if(qC "tuple"==qC "list")=true then some (HO.gm {cls:=.type "tuple",data:=.seq vs.toArray} (.lst (vs.toArray.toList.map toV)))else some (HO.gm {cls:=.type "tuple",data:=.seq vs.toArray} (.tup (vs.toArray.toList.map toV))))=_;rw[if_neg (by decide)]
section
variable{P:cq}{w:dH}{K:aq}{h:gD}{A:List aB}
def Bb(hb:b∈A)(hk:K.lookup b=none)(e:h.get? b=some o):rN K h A b=Ug o:=by unfold rN;rw[if_pos hb,hk,if_pos (show(none:Option mU).isNone=true from rfl),e]<;>rfl
def Uh(q:rN K h A b=some u):b∈A/\K.lookup b=none:=by
 unfold rN at q;by_cases hb:b∈A
 .rw[if_pos hb]at q;cases hk:K.lookup b with
  |none=>nomatch hb,rfl
  |some o=>rw[hk,if_neg (by simp)]at q;cases q
 .rw[if_neg hb]at q;cases q
def Bc(ar:∀a∈A,su h A a)(q:rN K h A b=some u):K.lookup b=none/\∃vs:List aM,vs.length<=aH/\(∀u∈vs,NG A u)/\ ((h.get? b=some {cls:=.type "list",data:=.seq vs.toArray}/\u= .gm {cls:=.type "list",data:=.seq vs.toArray} (.lst (vs.map toV)))\/ (h.get? b=some {cls:=.type "tuple",data:=.seq vs.toArray}/\u= .gm {cls:=.type "tuple",data:=.seq vs.toArray} (.tup (vs.map toV)))):=by
 obtain⟨hb,hk⟩:=Uh q;obtain⟨vs,h1,h2,h3⟩:=ar b hb;exists hk,vs,h1,h2;rcases h3 with e|e
 .rw[Bb hb hk e,Il]at q;exact .inl ⟨e,(af q).symm⟩
 .rw[Bb hb hk e,Im]at q;exact .inr ⟨e,(af q).symm⟩
def NH(ar:∀a∈A,su h A a):Fb (rN K h A):=λb=>by
 cases q:rN K h A b with
 |none=>exact .inl rfl
 |some u=>
  obtain⟨_,vs,_,_,⟨_,e⟩|⟨_,e⟩⟩:=Bc ar q
  .exact .inr ⟨_,_,by rw[e]⟩
  .exact .inr ⟨_,_,by rw[e]⟩
def Ui(ar:∀a∈A,su h A a):u7 P w (rN K h A) h:=λb u q=>by
 obtain⟨_,vs,h1,h2,⟨e,rfl⟩|⟨e,rfl⟩⟩:=Bc ar q
 .nomatch e,by rw[aK];exact h1,vs,_,qR h2,e
 .nomatch e,by rw[aK];exact h1,vs,qR h2,_,e,rfl,_,rfl
def Bd{c c':aM}{vs us:List aM}(e:(some {cls:=c,data:=.seq vs.toArray}:Option mU)=some {cls:=c',data:=.seq us.toArray}):c=c'/\vs=us:=by have e1:=af e;have e2:c=c':=congrArg Obj.cls e1;have e3:Data.seq vs.toArray=Data.seq us.toArray:=congrArg Obj.data e1;injection e3 with e4;exists e2;have e5:=congrArg Array.toList e4;simpa using e5
def adD(KX:K.In h)(ar:∀a∈A,su h A a){a:aB}{vs:List aM}(ha:a∈A)(e:h.get? a=some {cls:=.type "list",data:=.seq vs.toArray}):(∀u∈vs,NG A u)/\fT K (rN K h A) a (vs.map toV):=by
 obtain⟨us,h1,h2,h3⟩:=ar a ha;have hu:us=vs:=by
  rcases h3 with q|q
  .rw[e]at q;exact(Bd q).2.symm
  .rw[e]at q;exact absurd (Pt (Bd q).1) (by decide)
 subst hu;exists h2;cases hk:K.lookup a with
 |none=>exact .inl (.inr ⟨_,by rw[Bb ha hk e,Il]⟩)
 |some o=>have e2:=KX a o hk;rw[e]at e2;obtain rfl:=af e2;exact .inr ⟨_,us.toArray,_,hk,rfl,rfl,rfl,by rw[bG];exact h1,by simpa using qR h2⟩
def adE(KX:K.In h)(ar:∀a∈A,su h A a){a:aB}{vs:List aM}(ha:a∈A)(e:h.get? a=some {cls:=.type "tuple",data:=.seq vs.toArray}):(∀u∈vs,NG A u)/\l_ K (rN K h A) a (vs.map toV):=by
 obtain⟨us,h1,h2,h3⟩:=ar a ha;have hu:us=vs:=by
  rcases h3 with q|q
  .rw[e]at q;exact absurd (Pt (Bd q).1) (by decide)
  .rw[e]at q;exact(Bd q).2.symm
 subst hu;exists h2;cases hk:K.lookup a with
 |none=>exact .inl (.inr ⟨_,by rw[Bb ha hk e,Im]⟩)
 |some o=>have e2:=KX a o hk;rw[e]at e2;obtain rfl:=af e2;exact .inr ⟨_,us.toArray,_,hk,rfl,rfl,by rw[bG];exact h1,by simpa using qR h2⟩
mutual
theorem Xl(KX:K.In h)(ar:∀a∈A,su h A a):∀(d:WData)(v:aM),Well Pm h v d->Mx d=true->NG A v->Dw K (rN K h A) (toV v) d
 | .none,_,x,_,_=>by cases x;exact .eY
 | .bool b,_,x,_,_=>by cases x;exact .bl b
 | .int i,_,x,_,_=>by cases x;exact .int i
 | .str s,_,x,_,_=>by cases x;exact .str s
 | .bytes b,_,x,_,_=>by cases x;have z:=Dw.DS (K:=K) (H:=rN K h A) b.toArray;exact z
 | .list ds,_,x,p,hu=>by obtain⟨a,vs,rfl,ho,zb⟩:=E9 x;obtain⟨h2,hs⟩:=adD KX ar hu ho;exact .lst hs (Ge KX ar ds _ zb p h2)
 | .tuple ds,_,x,p,hu=>by obtain⟨a,vs,rfl,ho,zb⟩:=BW x;obtain⟨h2,hs⟩:=adE KX ar hu ho;exact .tup hs (Ge KX ar ds _ zb p h2)
 | .float _,_,_,p,_=>eU (show false=true from p)
 | .dict _,_,_,p,_=>eU (show false=true from p)
 | .bytearray _,_,_,p,_=>eU (show false=true from p)
 | .set _,_,_,p,_=>eU (show false=true from p)
 | .frozenset _,_,_,p,_=>eU (show false=true from p)
 | .obj _ _,_,_,p,_=>eU (show false=true from p)
theorem Ge(KX:K.In h)(ar:∀a∈A,su h A a):∀(ds:List WData)(vs:List aM),WellAll Pm h vs ds->Aw ds=true->(∀u∈vs,NG A u)->sr K (rN K h A) (vs.map toV) ds
 | [],_,x,_,_=>by cases x;exact .nil
 |d::ds,_,x,p,hu=>by obtain⟨v,vs,rfl,x1,x2⟩:=E_ x;have q:Mx d=true/\Aw ds=true:=Pq.mp p;exact .cons (Xl KX ar d v x1 q.1 (hu _ (bI ..))) (Ge KX ar ds vs x2 q.2 λu m=>hu u (bo _ m))
end
end
def NI{P:cq}{w:dH}{K:aq}{mg mb:bL->Option aM}{CX:HL}{k:Nat}{fa:aB}{fd:mz}{ps:List bL}{sp:Sp}{s₁:bq}{vals:List aM}{ds:List WData}{R:SN}{cl:bL->Option aB}{d0:WData} (KX:K.In s₁.heap) (QD:s₁.heap.Ns dX mg) (hb:s₁.heap.Ns builtinsNs mb) (hbb:∀x:bL,x≠"__name__"->mb x=bootBuiltins x) (Xm:s₁.heap.NoLimit) (hg:s₁.gens=#[]) (YW:WellAll w.params s₁.heap vals ds) (A9:Aw ds=true) (hwt:∀d∈ds,d.weight<=1048576) (hr:jV k callerA) (F:∀aR:gD,K.In aR->aR.Ns dX mg->qo P w K mg aR CX k fa fd ps sp) (aao:∀(s:bq)(us:List aM),us.length=ps.length->BindsTo s fd ⟨us,[]⟩ (ps.zip us)) (hlen:ds.length=ps.length) (Mh:∀(H:Hp)(xs:List V),Fb H->sr K H xs ds->sp xs H (λv H'=>Dw K H' v d0) λ_ _ _=>False) (hCX:∀H e s',CX [] H s₁ (λ_ _ _=>False) e s'->False): codeAny (cg P w) callerA (.call (.ref fa) ⟨vals,[]⟩) (λr s'=>∃u as,r= .ok (.ret u)/\ReadsW R cl s'.heap u d0 as/\OldK s₁.heap s'.heap/\s'.os=s₁.os/\AllBare s'.gens) s₁:=by
 obtain⟨A,ho,ar⟩:=xw ds vals YW A9 hwt;have hO:Fb (rN K s₁.heap A):=NH ar;have gI:u7 P w (rN K s₁.heap A) s₁.heap:=Ui ar;have hS:=Ge KX ar ds vals YW A9 ho;have hV:=qR ho;have hK:∀b u,rN K s₁.heap A b=some u->K.lookup b=none:=λb u q=>(Bc ar q).1;have YS:∀{b:aB}{o:mU}{es:Array yR}{ep:Nat},s₁.heap.get? b=some o->o.data= .dict es ep->rN K s₁.heap A b=none:=fun{b o es ep} e d=>by
  cases q:rN K s₁.heap A b with
  |none=>rfl
  |some u=>
   obtain⟨_,vs,_,_,⟨e2,_⟩|⟨e2,_⟩⟩:=Bc ar q
   .rw[e2]at e;cases e;have d':Data.seq vs.toArray _=Data.dict es ep:=d;cases d'
   .rw[e2]at e;cases e;have d':Data.seq vs.toArray _=Data.dict es ep:=d;cases d'
 generalize rN K s₁.heap A=H at hO gI hS hK YS;have MA:∀{b:aB}{o:mU},s₁.heap.get? b=some o->H b=none->(FU s₁.heap H).get? b=some o:=λe n=>Pz e n;have nsK:∀{b:aB}{m:bL->Option aM},s₁.heap.Ns b m->(FU s₁.heap H).Ns b m:=fun{b m}⟨o,es,ep,e,d,r⟩=>⟨o,es,ep,MA e (YS e d),d,r⟩;have nK:∀b o,K.lookup b=some o->H b=none:=λb o e=>by
  cases q:H b with
  |none=>rfl
  |some u=>rw[hK b u q]at e;cases e
 have hKb:K.In (FU s₁.heap H):=λb o e=>MA (KX b o e) (nK b o e);have hM:Mod K mg (FU s₁.heap H):=⟨hKb,nsK QD,⟨mb,nsK hb,hbb⟩,let⟨mc,h1,h2⟩:=Xm;⟨mc,nsK h1,h2⟩⟩;have e0:Kt P w K mg (FU s₁.heap H) callerA [] s₁ H:=⟨rfl,hM,λb o e=>Tp e,vo (Ng _ _),trivial,λb hb=>absurd (show b∈([]:List aB)from hb) (by simp),gI,.of_eq hg⟩;have hl:vals.length=ps.length:=by rw[pX YW];exact hlen
 refine codeAny_mono ((F _ hKb (nsK QD)).run callerA [] s₁ H ⟨vals,[]⟩ vals (vals.map toV) _ _ hr e0 (aao s₁ vals hl) hV (Mh H _ hO hS)) λr s' x=>?_;cases r with
 |error e=>exact(hCX H e s' x).elim
 |ok fl=>
  cases fl with
  |next=>exact False.elim x
  |brk=>exact False.elim x
  |cont=>exact False.elim x
  |ret u=>
   obtain⟨v,H',os,bare,un,aaq,r',q⟩:=x;have kept:∀b o,s₁.heap.get? b=some o->s'.heap.get? b=some o:=λb o e=>by
    cases q2:H b with
    |none=>exact un.keep b o e q2 (by intro z;exact absurd (show b∈([]:List aB)from z) (by simp)) (by simp)
    |some u2=>
     rcases hO b with z|⟨ob,u3,z⟩
     .rw[q2]at z;cases z
     .have z2:=un.tD b ob _ z;obtain⟨e1,_⟩:=gI b _ z;obtain⟨e2,_⟩:=aaq b _ z2;rw[e]at e1;cases e1;exact e2
   have KX':K.In s'.heap:=λb o e=>kept b o (KX b o e);obtain⟨as,hrd⟩:=Dw.reads (R:=R) (cl:=cl) aaq KX' d0 v u q r';nomatch u,as,rfl,hrd,OldK.of_keep kept,os,bare
def BX(h:WData.layableAll ds=true):∀d∈ds,d.weight<=1048576:=λd hd=>(PySem.W.layableW_iff.mp (dI.mp h d hd)).2.2
theorem BY:∀(cs:List Codec)(a:Codec.denoteAll cs),(Codec.encAll cs a).length=cs.length
 | [],_=>rfl
 |c::cs,a=>by show(Codec.encAll cs a.2).length+1=cs.length+1;rw[BY cs a.2]
def NJ{r:OpenSpec}{k:Nat}{q:cq}{loose:List bL}{XP:(bL->Option aM)->gD->Prop}{YP:dH->gD->Prop}{d:DefRec}{K:Params->aq}{CX:dH->HL}{ps:List bL}{sp:dH->Sp} (QE:r.wellSaid=true) (hdf:d.params.defaults=[]) (hlen:r.args.length=ps.length) (hr:jV k callerA) (hY:∀(w:dH)(h:gD),YP w h->(K w.params).In h) (F:∀(w:dH)(mg:bL->Option aM)(fa:aB)(h:gD),YP w h->(K w.params).In h->h.Ns dX mg->mg d.name=some (.ref fa)-> ∃fd:mz,(∀(s:bq)(us:List aM),us.length=ps.length->BindsTo s fd ⟨us,[]⟩ (ps.zip us))/\ ∀aR:gD,(K w.params).In aR->aR.Ns dX mg->qo r.prog w (K w.params) mg aR (CX w) k fa fd ps (sp w)) (Mh:∀(w:dH)(H:Hp)(xs:List V)(a:Codec.denoteAll r.args),Fb H->Codec.withinAll r.args a=true->Codec.app r.args r.asked a=true->sr (K w.params) H xs (Codec.encAll r.args a)-> sp w xs H (λv H'=>Dw (K w.params) H' v (r.ret.enc (Codec.app r.args r.f a))) λ_ _ _=>False) (hCX:∀(w:dH)(H:Hp)(s:bq)(e:aM)(s':bq),CX w [] H s (λ_ _ _=>False) e s'->False): Vt q loose XP YP r d [] (λf vs=>PySem.call f vs):=by intro w EN s₁ mg mb G Y fa o pm cd doc dV kV ho hd Pc hD hmg hg args vals as adG adH hrd YW hlo;obtain⟨a,e1,e2⟩:=PySem.W.os_pre_some adG;obtain⟨e3,hwi⟩:=Codec.encAll_of_decAll r.args args a e1;subst e3;have KX:=hY w _ Y;obtain⟨fd,hb,hF⟩:=F w mg fa _ Y KX G.T.g hmg;refine PySem.W.enter_call (codeAny_mono (NI (R:=[]) (cl:=classAt EN.heap) (d0:=r.ret.enc (Codec.app r.args r.f a)) KX G.T.g G.T.b G.T.builtins G.T.nolimit hg YW (E8 _ _) (BX adH) hr hF hb (by rw[BY];exact hlen) (λH xs hO hS=>Mh w H xs a hO hwi e2 hS) λH e s'=>hCX w H s₁ e s') λr' s' hq=>?_);obtain⟨u,as',rfl,h1,h2,h3,h4⟩:=hq;nomatch .inl ⟨u,_,as',rfl,λ_=>rfl,h1,(OpenSpec.post_iff QE hwi _ _).mpr rfl,λz=>eU (show false=true from z)⟩,h2,h3,h4
def KD{r:OpenSpec}{k:Nat}{q:cq}{loose:List bL}{XP:(bL->Option aM)->gD->Prop}{YP:dH->gD->Prop}{d:DefRec}{K:Params->aq}{CX:HL}{ps:List bL}{sp:aq->Sp} (QE:r.wellSaid=true) (hdf:d.params.defaults=[]) (hlen:r.args.length=ps.length) (hr:jV k callerA) (hY:∀(w:dH)(h:gD),YP w h->(K w.params).In h) (F:∀(w:dH)(mg:bL->Option aM)(fa:aB)(h:gD),YP w h->(K w.params).In h->h.Ns dX mg->mg d.name=some (.ref fa)-> ∃fd:mz,(∀(s:bq)(us:List aM),us.length=ps.length->BindsTo s fd ⟨us,[]⟩ (ps.zip us))/\ ∀aR:gD,(K w.params).In aR->aR.Ns dX mg->qo r.prog w (K w.params) mg aR CX k fa fd ps (sp (K w.params))) (Mh:∀(K:aq)(H:Hp)(xs:List V)(a:Codec.denoteAll r.args),Fb H->Codec.withinAll r.args a=true->Codec.app r.args r.asked a=true->sr K H xs (Codec.encAll r.args a)-> sp K xs H (λv H'=>Dw K H' v (r.ret.enc (Codec.app r.args r.f a))) λ_ _ _=>False) (hCX:∀(H:Hp)(s:bq)(e:aM)(s':bq),CX [] H s (λ_ _ _=>False) e s'->False): Vt q loose XP YP r d [] (λf vs=>PySem.call f vs):=NJ (K:=K) (CX:=λ_=>CX) (sp:=λw=>sp (K w.params)) QE hdf hlen hr hY F (λw H xs a h1 h2 h3 h4=>Mh (K w.params) H xs a h1 h2 h3 h4) λ_ H s e s'=>hCX H s e s'
def S9(P:cq)(w:dH)(C:aB):HL:=λouter H s E e s'=>∃(ea:aB)(a0:aM)(B:gD)(H':Hp),e= .ref ea/\s'.os=s.os/\AllBare s'.gens/\Bx B outer ea (.ref C) a0 s'.heap/\ (∀b o,s.heap.get? b=some o->H b=none->b∉rF outer->B.get? b=some o)/\ (∀b o,s.heap.get? b=some o->b∉rF outer->∃o',B.get? b=some o')/\ Un (rF outer) [] H H' s.heap s'.heap/\u7 P w H' B/\E (.ref C) none H'
section
variable{P:cq}{w:dH}{K:aq}{mg:bL->Option aM}{aR:gD}{N:List bL}{dB:bL}{bb:ql}{f:aB}{cd:aM}{A:lE}{outer:List J3}{s₀:bq}{H₀:Hp}{E:XK}{C:aB}
def qT:Passes (S9 P w C) (DV (S9 P w C) P w K mg aR N dB bb f cd A outer s₀ H₀ E) E:=by
 intro aA σ H s e s' I hx;obtain⟨ea,a0,B,H',rfl,hos,hg,NK,VT,VU,un,gI,hE⟩:=hx;show b8 (cg P w) (A.deeper (i6 dB bb s₀.heap.objs.size f cd)) (leaving (i6 dB bb s₀.heap.objs.size f cd) (.ref ea)) _ _ s';refine wpAny_leaves_onW (env:=i6 dB bb s₀.heap.objs.size f cd) (outer:=outer) (L:=s₀.heap.objs.size) I.ok.frames rfl NK λh' Gf up=>?_;have Io:∀b:aB,b<s₀.heap.objs.size->b∉rF outer->b∉rF (i6 dB bb s₀.heap.objs.size f cd::outer):=λb hb hn hm=>by
  have:b=s₀.heap.objs.size\/b∈rF outer:=by have:=I.BE b hm;exact ak.mp this
  rcases this with z|z
  .rw[z]at hb;exact gW _ hb
  .exact hn z
 have adJ:∀b:aB,b∈rF outer->b∈rF (i6 dB bb s₀.heap.objs.size f cd::outer):=λb hb=>by unfold rF at hb ⊢;rw[iY];exact bo _ hb
 have nof:∀b∈rF outer,∀o,s'.heap.get? b=some o->∀vs,o.data≠ .fields vs:=λb hb o ho=>by obtain⟨_,⟨_,_,hr⟩⟩:True/\s'.heap.FunFrames B (i6 dB bb s₀.heap.objs.size f cd::outer):=⟨trivial,NK.2.2.1⟩;obtain⟨_,o',u9,hd⟩:=hr.mem hb;rw[ho]at u9;cases u9;exact hd
 have free:∀b o,s₀.heap.get? b=some o->H₀ b=none->H' b=none:=λb o q n=>by obtain⟨o1,q1⟩:=I.base.there b o q (by exact ao);exact un.free b o1 q1 (I.base.free b o q n (by exact ao)) (by simp)
 nomatch ea,a0,B,H',rfl,hos.trans I.os,hg,Gf,λb o q n hb=>?_,λb o q hb=>?_,⟨λb o q n hb _=>?_,λb o q n hb _=>?_,λb o q n _=>free b o q n,λb o q _=>?_,λb xs q=>un.xg b xs (I.base.xg b xs q),λb o u q=>un.tD b o u (I.base.tD b o u q),λb ps q=>?_⟩,gI,hE
 .exact VT b o (I.base.keep b o q n hb (by exact ao)) (I.base.free b o q n (by exact ao)) (Io b (bF q) hb)
 .obtain⟨o1,q1⟩:=I.base.there b o q (by exact ao);exact VU b o1 q1 (Io b (bF q) hb)
 .exact Gf.1 b o (VT b o (I.base.keep b o q n hb (by exact ao)) (I.base.free b o q n (by exact ao)) (Io b (bF q) hb))
 .obtain⟨sl,q1⟩:=I.base.slot b o q n hb (by exact ao);obtain⟨sl2,q2⟩:=un.slot b _ q1 (I.base.free b o q n (by exact ao)) (adJ b hb) (by simp);obtain⟨sl3,q3⟩:=up b _ q2 (nof b hb _ q2);nomatch sl3,q3
 .by_cases hb:b∈rF outer
  .obtain⟨_,o',u9,_⟩:=Gf.2.2.1.mem hb;nomatch o',u9
  .obtain⟨o1,q1⟩:=I.base.there b o q (by exact ao);obtain⟨o2,q2⟩:=VU b o1 q1 (Io b (bF q) hb);nomatch o2,Gf.1 b o2 q2
 .obtain⟨m1,e1⟩:=I.base.xh b ps q;obtain⟨m2,e2⟩:=un.xh b _ e1;nomatch m1++m2,by rw[e2,SI]
def Throws(X:Cx)(C:aB)(E:XK):Prop:=∀(aA:List (aB×mU))(σ:St)(H:Hp)(s:bq)(h':gD)(e:aB),Inv X aA σ H s->Heap.MadeExcOf s.heap h' e (.ref C) []->E (.ref C) none H->X.xe (.ref e) {s with heap:=h'}
def KG:Throws (DV (S9 P w C) P w K mg aR N dB bb f cd A outer s₀ H₀ E) C E:=by
 intro aA σ H s h' e I hx hE;show b8 (cg P w) (A.deeper (i6 dB bb s₀.heap.objs.size f cd)) (leaving (i6 dB bb s₀.heap.objs.size f cd) (.ref e)) _ _ {s with heap:=h'};have YX:∀env∈(i6 dB bb s₀.heap.objs.size f cd::outer),∀b,env.frame=some b->b∈rF (i6 dB bb s₀.heap.objs.size f cd::outer):=λenv he b hb=>An.mpr ⟨env,he,hb⟩;have SW:s.heap.FunFrames aR (i6 dB bb s₀.heap.objs.size f cd::outer):=I.stack;refine wpAny_leaves_madeW (env:=i6 dB bb s₀.heap.objs.size f cd) (outer:=outer) (L:=s₀.heap.objs.size) (base:=DC s.heap (rF (i6 dB bb s₀.heap.objs.size f cd::outer))) I.ok.frames rfl (λb o q=>O3 _ q) (PySem.W.funFrames_hide SW YX) hx λT1 t Gf _ _ up=>?_;have Io:∀b:aB,b<s₀.heap.objs.size->b∉rF outer->b∉rF (i6 dB bb s₀.heap.objs.size f cd::outer):=λb hb hn hm=>by
  have:b=s₀.heap.objs.size\/b∈rF outer:=ak.mp (I.BE b hm);rcases this with z|z
  .rw[z]at hb;exact gW _ hb
  .exact hn z
 have nof:∀b∈rF outer,∀o,s.heap.get? b=some o->∀vs,o.data≠ .fields vs:=λb hb o ho=>by obtain⟨_,o',u9,hd⟩:=I.tE.mem hb;rw[ho]at u9;cases u9;exact hd
 have VV:∀b o,s₀.heap.get? b=some o->H₀ b=none->b∉rF outer->(DC s.heap (rF (i6 dB bb s₀.heap.objs.size f cd::outer))).get? b=some o:=λb o q n hb=>lB _ (I.base.keep b o q n hb (by exact ao)) (Io b (bF q) hb);nomatch e,_,_,H,rfl,I.os,I.bare,Gf,VV,λb o q hb=>?_,⟨λb o q n hb _=>?_,λb o q n hb _=>?_,λb o q n _=>I.base.free b o q n (by exact ao),λb o q _=>?_,I.base.xg,I.base.tD,I.base.xh⟩,λa o q=>?_,hE
 .obtain⟨o1,q1⟩:=I.base.there b o q (by exact ao);nomatch o1,lB _ q1 (Io b (bF q) hb)
 .exact Gf.1 b o (VV b o q n hb)
 .obtain⟨sl,q1⟩:=I.base.slot b o q n hb (by exact ao);obtain⟨sl3,q3⟩:=up b _ (hx.keeps b _ q1) (nof b hb _ q1);nomatch sl3,q3
 .by_cases hb:b∈rF outer
  .obtain⟨_,o',u9,_⟩:=Gf.2.2.1.mem hb;nomatch o',u9
  .obtain⟨o1,q1⟩:=I.base.there b o q (by exact ao);nomatch o1,Gf.1 b o1 (lB _ q1 (Io b (bF q) hb))
 .refine(I.gI a o q).yT (λb u hb r=>lB _ r λhm=>?_) (λ_ z=>z) λ_ _ z=>z;have fr:=I.FX b hm;rcases hb with z|z
  .rw[z,q]at fr;cases fr
  .rw[z]at fr;cases fr
end
structure Exn(K:aq)(mg:bL->Option aM)(x:bL)(C:aB)(bm:List aM)(newId:String):Prop where
 nm:pG K dX x=some (some (.ref C))
 ex:Wm K C bm newId=true
 mg_:mg x=some (.ref C)
def Exn.own{K:aq}{mg:bL->Option aM}{x:bL}{C:aB}{bm:List aM}{newId:String}{h:gD}(X:Exn K mg x C bm newId)(KX:K.In h):OwnCls x C bm newId mg h:=by
 exists X.mg_;have q:=X.ex;unfold Wm at q;split at q
 .rename_i dd cd sl ho;split at q
  .rename_i C' bm' k0 k1 k2 k3 n k5 hm hs;simp only[cz,beq_iff_eq,Vu]at q;obtain⟨⟨⟨⟨⟨rfl,rfl⟩,aau⟩,ht⟩,gI⟩,hni⟩:=q;obtain⟨nm,bs,mro,ns,qn,hd,sn,sub,ab,col,del⟩:=cd;dsimp only at hm aau gI hni;subst hm aau;have hsl:sl=#[k0,k1,k2,k3,some (.builtin n),k5]:=by obtain⟨l⟩:=sl;simp only at hs;rw[hs]
   subst hsl;nomatch bm',ns,nm,qn,bs,hd,sn,sub,ab,col,dd,k0,k1,k2,k3,k5,_,KX _ _ ho,.of_isNs (PySem.W.isNs_of_in KX gI),PySem.W.nsMap_none_of_in KX gI hni,PySem.W.tail_of_in KX ht
  .cases q
 .cases q
section
variable{X:Cx}{x:bL}{C:aB}{bm:List aM}{Bn newId KH:String}{E:XK}{np mf d_:Nd}
def QF(C:aB)(E:XK):TS:=λ_ _ H=>E (.ref C) none H
def NL(XE:Exn X.K X.mg x C bm newId)(FB:ExcBaseFacts Bn newId KH bm)(ht:Throws X C E)(hc:X.calm=true)(hg:Gl X x)(BO:(x==("__debug__":bL))=false:=by decide): PS X (.Raise (some (.Call (.Name x np) [] [] mf)) none d_) (QF C E):=by intro aA s σ H D I h;have O:=XE.own I.DT;obtain⟨tl,Nn,nm,q,bs,hdct,sn,sub,ab,col,dd,k0,k1,k2,k3,k5,mN,hC,hN,hni,T⟩:=O.obj;refine wpAny_Raise_call_subT (C:=C) (nm:=nm) (q:=q) (N:=Nn) (bs:=bs) (bm:=tl) (hdct:=hdct) (sn:=sn) (sub:=sub) (ab:=ab) (col:=col) (dd:=dd) (k0:=k0) (k1:=k1) (k2:=k2) (k3:=k3) (k5:=k5) FB (mN:=mN) (T.hasType FB.hasBase) (I.ok.hd hc) rfl hni (rG I hg XE.mg_ ⟨rfl,?_⟩ BO);exact evalArgs_empty ⟨rfl,bQ _,hC,hN,T,λh' e hm=>ht aA σ H s h' e I hm h⟩
end
def Xn(f':h'.FunFrames B l)(NK:Bx B l ea cls a0 h5)(up:h'.UpToSlots h5)(un:Un (rF l) [] H H' h h') (VT:∀b o,h.get? b=some o->H b=none->b∉rF l->B.get? b=some o) (VU:∀b o,h.get? b=some o->b∉rF l->∃o',B.get? b=some o'):Un (rF l) [] H H' h h5 where
 keep:=λb o q n hb _=>NK.1 b o (VT b o q n hb)
 slot:=λb o q n hb hx=>by obtain⟨sl,e1⟩:=un.slot b o q n hb hx;obtain⟨_,o',u9,hd⟩:=f'.mem hb;rw[e1]at u9;cases u9;obtain⟨sl2,e2⟩:=up b _ e1 hd;nomatch sl2,e2
 free:=un.free
 there:=λb o q hx=>by
  by_cases hb:b∈rF l
  .obtain⟨_,o',u9,_⟩:=NK.2.2.1.mem hb;nomatch o',u9
  .obtain⟨o2,q2⟩:=VU b o q hb;nomatch o2,NK.1 b o2 q2
 xg:=un.xg
 tD:=un.tD
 xh:=un.xh
abbrev Cx.BZ(X:Cx)(pn:List (aB×mU))(E:aM->bq->Prop):Cx:={X with xe:=E,pn:=pn}
abbrev Cx.oE(X:Cx)(e:aB):Cx:={X with A:=X.A.mark (some (.ref e)),calm:=false,xe:=λ_ _=>False}
section
variable{X:Cx}{aA L9 pn:List (aB×mU)}{σ:St}{H:Hp}{s:bq}{E:aM->bq->Prop}
theorem Cx.Ok.BZ(ok:X.Ok):(X.BZ pn E).Ok:=⟨ok.mod,ok.kind,ok.glob,ok.blt,ok.above,ok.inj,ok.has,ok.Tq,ok.hd,ok.frames,ok.SW,ok.Vy,ok.bs,ok.Nh,ok.FV,ok.FW,ok.tE,ok.PB⟩
def Cx.Ok.sx(ok:(X.BZ pn E).Ok):X.Ok:=⟨ok.mod,ok.kind,ok.glob,ok.blt,ok.above,ok.inj,ok.has,ok.Tq,ok.hd,ok.frames,ok.SW,ok.Vy,ok.bs,ok.Nh,ok.FV,ok.FW,ok.tE,ok.PB⟩
theorem Cx.Ok.oE(ok:X.Ok)(e:aB):(X.oE e).Ok:=⟨ok.mod,ok.kind,ok.glob,ok.blt,ok.above,ok.inj,ok.has,ok.Tq,(λz=>nomatch z),ok.frames,ok.SW,ok.Vy,ok.bs,ok.Nh,ok.FV,ok.FW,ok.tE,ok.PB⟩
def Cx.Ok.pY(hc:X.calm=true->X.A.handled=none)(ok:(X.oE e).Ok):X.Ok:=⟨ok.mod,ok.kind,ok.glob,ok.blt,ok.above,ok.inj,ok.has,ok.Tq,hc,ok.frames,ok.SW,ok.Vy,ok.bs,ok.Nh,ok.FV,ok.FW,ok.tE,ok.PB⟩
theorem Inv.BZ(I:Inv X aA σ H s)(E:aM->bq->Prop):Inv (X.BZ (X.pn++aA) E) [] σ H s:=⟨I.ok.BZ,I.os,I.bare,I.base,I.loc,I.cell,I.free,I.nI,λp hp=>I.pin p (by rw[eT]at hp;exact hp),I.gI,I.len⟩
theorem Inv.sx(I:Inv (X.BZ (X.pn++aA) E) L9 σ H s):Inv X aA σ H s:=⟨I.ok.sx,I.os,I.bare,I.base,I.loc,I.cell,I.free,I.nI,λp hp=>I.pin p (wZ _ hp),I.gI,I.len⟩
theorem Inv.oE(I:Inv X aA σ H s)(e:aB):Inv (X.oE e) aA σ H s:=⟨I.ok.oE e,I.os,I.bare,I.base,I.loc,I.cell,I.free,I.nI,I.pin,I.gI,I.len⟩
theorem Inv.pY(hc:X.calm=true->X.A.handled=none)(I:Inv (X.oE e) aA σ H s):Inv X aA σ H s:=⟨I.ok.pY hc,I.os,I.bare,I.base,I.loc,I.cell,I.free,I.nI,I.pin,I.gI,I.len⟩
theorem SP.sx(h:SP (X.BZ (X.pn++aA) E) [] D f s'):SP X aA D f s':=by
 cases f with
 |next=>obtain⟨a,b,c,d⟩:=h;nomatch a,b,c.sx,d
 |brk=>obtain⟨a,b,c,d⟩:=h;nomatch a,b,c.sx,d
 |cont=>obtain⟨a,b,c,d⟩:=h;nomatch a,b,c.sx,d
 |ret u=>obtain⟨v,a,b,c,d⟩:=h;nomatch v,a,b,c.sx,d
theorem SP.pY(hc:X.calm=true->X.A.handled=none)(h:SP (X.oE e) aA D f s'):SP X aA D f s':=by
 cases f with
 |next=>obtain⟨a,b,c,d⟩:=h;nomatch a,b,c.pY hc,d
 |brk=>obtain⟨a,b,c,d⟩:=h;nomatch a,b,c.pY hc,d
 |cont=>obtain⟨a,b,c,d⟩:=h;nomatch a,b,c.pY hc,d
 |ret u=>obtain⟨v,a,b,c,d⟩:=h;nomatch v,a,b,c.pY hc,d
end
section
variable{X:Cx}{x:bL}{C:aB}{bm:List aM}{Bn newId KH:String}{np QG d_:Nd}{body oE:List lR}{b₀:lR}{tb:Ends->TS}{ts:TS}
def Gg(X:Cx):St:=aQ X.N.length none
def Uj(XE:Exn X.K X.mg x C bm newId)(FB:ExcBaseFacts Bn newId KH bm)(kx:X.stack=X.env::X.outer)(y6:X.env.frame=some X.env.locals)(hg:Gl X x) (hb:∀(D:Ends)(pn:List (aB×mU))(Ex:aM->bq->Prop),Passes (S9 X.prog X.w C) (X.BZ pn Ex) (λ_ _ H'=>ts D (Gg X) H')->HE (X.BZ pn Ex) body (tb D)) (hs:∀e,HE (X.oE e) (b₀::oE) ts) (BO:(x==("__debug__":bL))=false:=by decide): PS X (.Try body [.ExceptHandler (some (.Name x np)) none (b₀::oE) QG] [] [] d_) (λD σ H=>tb D D σ H):=by
 intro aA s σ H D I h;refine wpAny_Try_except ?_;have key:=hb D (X.pn++aA) (λe s₁=>b8 (cg X.prog X.w) X.A (noteFrame e X.env) (λ_ s₂=>b8 (cg X.prog X.w) X.A (setFlight e none) (λ_ s₃=>b8 (cg X.prog X.w) X.A (handleBy e X.env [.ExceptHandler (some (.Name x np)) none (b₀::oE) QG]) (SP X aA D) X.xe s₃) X.xe s₂) X.xe s₁) ?_
 .refine ip (key [] s σ H D (I.BZ _) h) (λfl s1 q=>?_) λ_ _ z=>z;cases fl with
  |next=>obtain⟨σ1,H1,I1,q1⟩:=q;exact wpAny_execs_nil ⟨σ1,H1,I1.sx,q1⟩
  |brk=>exact SP.sx q
  |cont=>exact SP.sx q
  |ret u=>exact SP.sx q
 .intro L9 σ1 H1 s1 e s' I1 hx;have I1:=I1.sx;obtain⟨ea,a0,B,H',rfl,hos,hgn,NK,VT,VU,un,gI,hE⟩:=hx;change Bx B X.stack ea (.ref C) a0 s'.heap at NK;change ∀b o,s1.heap.get? b=some o->H1 b=none->b∉rF X.stack->B.get? b=some o at VT;change ∀b o,s1.heap.get? b=some o->b∉rF X.stack->∃o',B.get? b=some o' at VU;change Un (rF X.stack) [] H1 H' s1.heap s'.heap at un;rw[kx]at NK VT VU un;obtain⟨h',gn,dr,tk,os⟩:=s';obtain rfl:os=s1.os:=hos;have inv:∀h5,Bx B (X.env::X.outer) ea (.ref C) a0 h5->h'.UpToSlots h5->Inv X aA (Gg X) H' ⟨h5,gn,dr,tk,s1.os⟩:=λh5 f5 up=>by have u5:=Xn NK.2.2.1 f5 up un VT VU;have J:=I1.call (h':=h5) (g':=gn) (d':=dr) (t':=tk) (ch:=[]) (by rw[kx];exact u5) (gI.kept λb u q=>f5.1 b u q) hgn (λb z=>absurd z (by simp));exact J.weak (by unfold Gg;rw[dQ,I1.len]) λi v q=>by unfold Gg at q;rw[mH]at q;split at q<;>cases q
  have Uk:X.A.frames=some (X.env::X.outer):=by rw[<-kx];exact I1.ok.frames
  refine wpAny_looks_onW Uk y6 NK λh₄ hheld₄ up₄=>?_;refine wpAny_landsW hheld₄ λh₅ hfl₅ up₅=>?_;have I5:=inv h₅ hfl₅ (up₄.trans up₅);refine wpAny_handleBy_cons (codeAny_handlers_test ?_) (by intro q;cases q);refine rG (X:=X.oE ea) (I5.oE ea) hg XE.mg_ ?_ BO;obtain⟨tl,Nn,nm,q,bs,hdct,sn,sub,ab,col,dd,k0,k1,k2,k3,k5,mN,hC,hN,hni,T⟩:=(XE.own I5.DT).obj;obtain⟨oe,he,Ww⟩:=hfl₅.there;refine wpAny_excMatches_sub_self hC he Ww (T.hasType FB.hasBase) (codeAny_handlers_suite ?_);refine lands_againW hfl₅ λh₆ hfl₆ up₆=>?_;have I6:=inv h₆ hfl₆ ((up₄.trans up₅).trans up₆);refine ip (hs ea aA _ _ H' D (I6.oE ea) hE) (λf s2 q2=>?_) λ_ _ z=>z.elim;exact SP.pY I.ok.hd q2
end
section
variable{X:Cx}
def vals3(r:Vals [x,y,z] us):∃u v w',us=[u,v,w']/\RelV x u/\RelV y v/\RelV z w':=by
 cases r with
 |cons r1 r=>obtain⟨v,w',rfl,r2,r3⟩:=vals2 r;nomatch _,v,w',rfl,r1,r2,r3
def NM(hc:X.calm=true):oC X (.builtin "min") (λxs H Q=>∃i j k:Int,xs=[.int i,.int j,.int k]/\Q (.int (min (min i j) k)) H):=by
 intro aA s σ H xs us Q I r h;obtain⟨i,j,k,rfl,q⟩:=h;obtain⟨u,v,w',rfl,⟨t,rfl⟩,⟨t',rfl⟩,⟨t'',rfl⟩⟩:=vals3 r;refine min_three_ints (I.ok.hd hc) λh' tk kp=>⟨_,H,I.kept kp,?_,q⟩;show ∃t,_=qk _ t;by_cases h1:j<i
 .rw[if_pos h1];by_cases h2:k<j
  .rw[if_pos h2];nomatch t'',by rw[show min (min i j) k=k by lia]
  .rw[if_neg h2];nomatch t',by rw[show min (min i j) k=j by lia]
 .rw[if_neg h1];by_cases h2:k<i
  .rw[if_pos h2];nomatch t'',by rw[show min (min i j) k=k by lia]
  .rw[if_neg h2];nomatch t,by rw[show min (min i j) k=i by lia]
inductive aaw(K:aq)(vs:(List V))(H:Hp)(Q:VK):Prop
 |mk(a:aB)(ns:List Int)(mV:vs=[V.ref a])(mW:fT K H a (ns.map V.int))(sS:Q (.bl (ns.any (· !=0))) H)
def KI(e:IntsAre dj ns): TruthOf prog w A (λi v=>dj.toArray[i]? =some v) (λi=>(ns.map (· !=0)).getD i false):=λi v s Q E hv hq=>by
 have hv':dj[i]? =some v:=by simpa using hv
 have rv:=xn e;obtain⟨z,hz,t,rfl⟩:∃z,ns[i]? =some z/\∃t,v=qk z t:=by
  cases q:ns[i]? with
  |none=>have:=rv.length;have h2:ns.length<=i:=List.getElem?_eq_none_iff.mp q;have h3:i<dj.length:=(aE.mp hv').1;rw[aK]at this;lia
  |some z=>obtain⟨u,hu,t,rfl⟩:=rv.get (i:=i) (x:=V.int z) (by rw[bz,q];rfl);rw[hv']at hu;cases hu;nomatch z,rfl,t,rfl
 have hg:(ns.map (· !=0)).getD i false=(z !=0):=by rw[bK,bz,hz];rfl
 have VI:Q ((ns.map (· !=0)).getD i false) s:=hq;rw[hg]at VI;exact O5 VI
def Ul(hc:X.calm=true):oC X (.builtin "any") (aaw X.K):=by
 intro aA s σ H vs us Q I r h;obtain⟨a,ns,rfl,hs,q⟩:=h;obtain⟨dj,rv,hl,_⟩:=I.list hs;rw[Vals.TX r];have hb:=rv.ints;refine call_any_walk (Qe hl.isList λs₂ e2 st sU=>?_);subst e2;nomatch _,_,_,_,_,_,_,rfl,Walks.list (A:=X.A.in1) (I.ok.hd hc) _ a sU dj.toArray,st,KI hb,λh' tk hk=>?_
 nomatch .bl _,H,I.kept λb o eo=>hk b o (λXo=>?_) (bx _ eo),?_,q
 .rcases ak.mp Xo with e1|Xo
  .exact absurd (e1▸bF eo) (gW _)
  .cases Xo
 .show Hq _=Hq _;have:=rv.length;rw[aK]at this;have e:dj.toArray.size=(ns.map (· !=0)).length:=by rw[bG,aK];exact this.symm
  rw[e,any_range,nB];rfl
def Ip:VM X "str.isalnum" (λx xs H Q=>∃a,x= .str a/\xs=[]/\Q (.bl (Txt.isalnum a)) H):=by intro aA s σ H x xs v us Q I rx rs h;obtain⟨a,rfl,rfl,q⟩:=h;obtain⟨t,rfl⟩:=rx;cases rs;exact PySem.SC.isalnum ⟨.bl _,H,I,rfl,q⟩
def Iq:VM X "str.isdigit" (λx xs H Q=>∃a,x= .str a/\xs=[]/\Q (.bl (Txt.isdigit a)) H):=by intro aA s σ H x xs v us Q I rx rs h;obtain⟨a,rfl,rfl,q⟩:=h;obtain⟨t,rfl⟩:=rx;cases rs;exact PySem.SC.isdigit ⟨.bl _,H,I,rfl,q⟩
variable{o e e2:jx}{to te te2:TE}
def KJ(ho:PE X o to)(o8:attributeBase o "isalnum" X.env (eval o X.env)=eval o X.env:=by rfl)(o9:(apos.endLine==d_.line)=true:=by rfl): PE X (.Call (.Attribute o "isalnum" apos) [] [] d_) (tM0 (λx xs H Q=>∃a,x= .str a/\xs=[]/\Q (.bl (Txt.isalnum a)) H) to):=VR F.slot_str_isalnum F.type_str_isalnum Ip ho o8 o9
def KL(ho:PE X o to)(o8:attributeBase o "isdigit" X.env (eval o X.env)=eval o X.env:=by rfl)(o9:(apos.endLine==d_.line)=true:=by rfl): PE X (.Call (.Attribute o "isdigit" apos) [] [] d_) (tM0 (λx xs H Q=>∃a,x= .str a/\xs=[]/\Q (.bl (Txt.isdigit a)) H) to):=VR F.slot_str_isdigit F.type_str_isdigit Iq ho o8 o9
inductive aax(c:bL)(tb:TE)(σ:St)(Q:VK)(x:V)(H1:Hp):Prop
 |mk(a:_)(mV:x= .str a)(mW:a.length+c.length<=aH)(sS:tb σ H1 λy H2=>∃b,y= .str b/\(a++c++b).length<=aH/\Q (.str (a++c++b)) H2)
def tF3(c:bL)(ta tb:TE):TE:=fun σ H Q=>ta σ H λx H1=>aax c tb σ Q x H1
def QH(ha:PE X e te)(hb:PE X e2 te2):PE X (.JoinedStr [.FormattedValue e (-1) none p1,.Constant (.str c) k p2,.FormattedValue e2 (-1) none p3] d_) (tF3 c te te2):=by
 intro aA s σ H Q I h;refine JoinedStr_many (joinParts_cons (FormattedValue_plain (ic (ha aA s σ H _ I h) λv s1⟨x,H1,I1,r1,a,ea,hl,q1⟩=>?_)));subst ea;obtain⟨t,rfl⟩:=r1;refine formatField_str (λt' tk=>⟨?_,?_⟩) (by lia)
 .rw[strLen_append];show 0+a.length<=aH;lia
 refine joinParts_cons (Calls.Constant_str ⟨?_,?_⟩)
 .rw[strLen_append,strLen_append];show 0+a.length+c.length<=aH;lia
 refine joinParts_cons (FormattedValue_plain (ic (hb aA _ σ H1 _ ((I1.tok _).tok _) q1) λv s2⟨y,H2,I2,r2,b,eb,tS,q2⟩=>?_));subst eb;obtain⟨t2,rfl⟩:=r2;have ee:Str.empty++a++c++b=a++c++b:=by apply TL.rL;rw[TL.jA,TL.jA,TL.jA,TL.jA,TL.jA];rfl
 have hb2:b.length<=aH:=by rw[strLen_append]at tS;lia
 refine formatField_str (λt' tk=>⟨by rw[ee];exact tS,?_⟩) hb2;refine joinParts_nil ?_ (by rw[ee];exact tS);nomatch .str _,H2,(I2.tok _).tok _,⟨_,by rw[ee]⟩,q2
end
section
variable{X:Cx}
inductive adO(K:aq)(neg:Bool)(x:V)(y:V)(H:Hp)(Q:VK):Prop
 |mk(p:_)(xs:_)(d:_)(ds:_)(mV:y= .ref p)(mW:(fT K H p xs\/l_ K H p xs))(sS:vq K H xs ds)(FZ:Dp K H x d)(Mf:PyData.canLayAll0 ds=true)(YQ:pP d=true)(h6_:Q (.bl (if neg then !(ds.any λe=>PyData.eqv e d)else ds.any λe=>PyData.eqv e d)) H)
def room_in{A:lE}{d:PyData}{n:Nat}(hu:A.units+128<cLine)(h:pP d=true):A.units+1+min n d.depth<cLine:=by have h1:=SeqAt.depth_of_shaped h;have h2:min n d.depth<=d.depth:=Nat.min_le_right _ _;lia
def B_(hu:X.A.units+128<cLine):wm X (gN .In) (adO X.K false):=by
 intro aA s σ H x y v u Q I rx ry h;obtain⟨p,xs,d,ds,rfl,hq,ha,hd,hc,sd,q⟩:=h;obtain⟨as,r1⟩:=Dp.reads I d x v hd rx;rcases hq with hq|hq
 .obtain⟨bs,r2⟩:=Dp.reads I (.list ds) (.ref p) u (.lst hq ha) ry;exact SeqAt.in_list_reads r2 r1 hc (L3 sd) (room_in hu sd) ⟨.bl _,H,I,rfl,q⟩
 .obtain⟨bs,r2⟩:=Dp.reads I (.tuple ds) (.ref p) u (.tup hq ha) ry;exact SeqAt.in_tuple_reads r2 r1 hc (L3 sd) (room_in hu sd) ⟨.bl _,H,I,rfl,q⟩
def jV.Ir(r:jV k A):A.units+128<cLine:=by have:=r.un;lia
end
section
variable{X:Cx}
inductive QI(Q:VK)(v:V)(H1:Hp):Prop
 |mk(d:_)(xs:_)(mV:v= .ref d)(mW:H1 d=some (.lst xs))(sS:∀od,Q v (upd H1 d (.gm od (.lst xs))))
def adP(t:TE):TE:=fun σ H Q=>t σ H λv H1=>QI Q v H1
def jm(h:PE X e t):PE X e (adP t):=by intro aA s σ H Q I hq;refine ic (h aA s σ H _ I hq) λu s1⟨v,H1,I1,r,d,xs,ev,hd,q⟩=>?_;obtain⟨od,I2⟩:=I1.lock hd trivial;nomatch v,_,I2,r,q od
def fK(H:Hp)(b:aB)(xs:List V):Prop:=∃o,H b=some (.gm o (.lst xs))
def fK.sq{K:aq}{H:Hp}{b:aB}{xs:List V}(h:fK H b xs):fT K H b xs:=by obtain⟨o,h⟩:=h;exact .inl (.inr ⟨o,h⟩)
def js(H H':Hp):Prop:=∀b o u,H b=some (.gm o u)->H' b=some (.gm o u)
def js.gm(k:js H H')(h:fK H b xs):fK H' b xs:=let⟨o,e⟩:=h;⟨o,k _ _ _ e⟩
def qo.iZ{P:cq}{w:dH}{K:aq}{mg:bL->Option aM}{aR:gD}{CX:HL}{k:Nat}{f:aB}{fd:mz}{ps:List bL}{sp:Sp}(F:qo P w K mg aR CX k f fd ps sp): qo P w K mg aR CX k f fd ps (λvs H Q E=>sp vs H (λv H'=>js H H'->Q v H') E):=by
 nomatch λvs H Q E h=>F.len vs H _ E h,λA outer s H args us vs Q E hr he hb hv hs=>codeAny_mono (F.run A outer s H args us vs _ E hr he hb hv hs) λr s' q=>?_
 cases r with
 |error e=>exact q
 |ok fl=>
  cases fl with
  |ret u=>obtain⟨v,H',h1,h2,un,gI,rv,q⟩:=q;nomatch v,H',h1,h2,un,gI,rv,q un.tD
  |next=>exact q
  |brk=>exact q
  |cont=>exact q
end
structure Ca(P:cq)(w:dH)(K:aq)(a:aB)(dh:List (Key×V)):Prop where
 sz:dh.length<=aH
 ns:(a==iX)=false
 at_:∃vs,KV dh vs/\∀h:gD,K.In h->h.DictOf (hW P w) a vs
def Iu{P:cq}{w:dH}{K:aq}{a:aB}{n:Nat}(xs:List (bL×SV×aM))(dh:List (Key×V))(lk:K.lookup a=some {cls:=.type "dict",data:=.dict (xs.map λx=>(⟨PyData.keyHash w.params x.1,.str x.1 x.2.1,x.2.2⟩:yR)).toArray n}) (nd:(xs.map (·.1)).Nodup) (hr:KV dh (xs.map λx=>((bY x.1:Key),x.2.2))) (sz:dh.length<=aH) (ns:(a==iX)=false):Ca P w K a dh:=by
 nomatch sz,ns,_,hr,λh KX=>⟨_,_,n,KX _ _ lk,⟨rfl,rfl,rfl⟩,rfl,λe he=>?_,?_,?_⟩
 .have he':e∈xs.map λx=>(⟨PyData.keyHash w.params x.1,.str x.1 x.2.1,x.2.2⟩:yR):=by simpa using he
  obtain⟨x,_,rfl⟩:=cG.mp he';nomatch bY x.1,yS x.1 x.2.1,rfl
 .show Pairs _ (xs.map _) _;clear lk nd hr;induction xs with
  |nil=>exact .nil
  |cons x r ih=>exact .cons (yS x.1 x.2.1) rfl ih
 .rw[cY];have e:(xs.map ((λ(q:Key×aM)=>q.1)∘ λx=>((bY x.1:Key),x.2.2)))=(xs.map (·.1)).map (bY:bL->Key):=by rw[cY];rfl
  have e2:((λx:Key×aM=>x.1)∘ λ(x:bL×SV×aM)=>((bY x.1:Key),x.2.2))=((λ(q:Key×aM)=>q.1)∘ λx=>((bY x.1:Key),x.2.2)):=rfl;rw[e];exact Kh.map _ (λa b h q=>h (qL q)) nd
section
variable{X:Cx}{aA:List (aB×mU)}{σ:St}{H:Hp}{s:bq}{a:aB}{dh:List (Key×V)}
variable{o i:jx}{d_:Nd}{td ty:TE}
inductive Um(P:cq)(w:dH)(K:aq)(Q:VK)(x:V)(y:V)(H2:Hp):Prop
 |mk(a:_)(dh:_)(k:_)(v:_)(mV:x= .ref a)(mW:Ca P w K a dh)(sS:y=kV k)(FZ:jl dh k=some v)(Mf:Q v H2)
def aay(P:cq)(w:dH)(K:aq)(td ty:TE):TE:=fun σ H Q=>td σ H λx H1=>ty σ H1 λy H2=>Um P w K Q x y H2
inductive Xp(P:cq)(w:dH)(K:aq)(Q:VK)(y:V)(x:V)(H2:Hp):Prop
 |mk(a:_)(dh:_)(k:_)(mV:x= .ref a)(mW:Ca P w K a dh)(sS:y=kV k)(FZ:Q (.bl (jl dh k).isSome) H2)
def adQ(P:cq)(w:dH)(K:aq)(ty td:TE):TE:=fun σ H Q=>ty σ H λy H1=>td σ H1 λx H2=>Xp P w K Q y x H2
def Uo(ho:PE X o td)(hi:PE X i ty)(hs:W0 i):PE X (.Subscript o i d_) (aay X.prog X.w X.K td ty):=by intro aA s σ H Q I h;refine Mp PySem.F.slot_dict_getitem.lookup hs (ic (ho aA s σ H _ I h) λu s1⟨x,H1,I1,rx,q1⟩=>ic (hi aA s1 σ H1 _ I1 q1) λiv s2⟨y,H2,I2,ry,a,dh,k,v,ex,kd,ey,l,q2⟩=>?_);subst ex ey;obtain rfl:u=dZ a:=rx;obtain⟨vs,rel,dd⟩:=kd.at_;have dd:=dd _ I2.DT;obtain⟨w',hw,HR⟩:=tq.some_of (v:=v) (o:=valueAt vs k) (by rw[<-l];exact rel.val k);nomatch dd.typeIs,wpAny_getItem_of (vw ry) dd.mapOf hw ⟨v,H2,I2.tok _,HR,q2⟩
def Xq(hi:PE X i ty)(ho:PE X o td):PC X .In i o (adQ X.prog X.w X.K ty td):=by intro aA s σ H Q I h;refine ic (hi aA s σ H _ I h) λiv s1⟨y,H1,I1,ry,q1⟩=>ic (ho aA s1 σ H1 _ I1 q1) λu s2⟨x,H2,I2,rx,a,dh,k,ex,kd,ey,q2⟩=>?_;subst ex ey;obtain rfl:u=dZ a:=rx;obtain⟨vs,rel,dd⟩:=kd.at_;have dd:=dd _ I2.DT;refine wpAny_in_of (vw ry) kd.ns dd.mapOf ?_;rw[<-(rel.val k).y8];nomatch .bl _,H2,I2.tok _,rfl,q2
def KN:oC X (.type "dict") (λxs H Q=>∃a dh,xs=[.ref a]/\Ca X.prog X.w X.K a dh/\∀p,H p=none->Q (.ref p) (upd H p (.dK dh))):=by
 intro aA s σ H xs us Q I r h;obtain⟨a,dh,rfl,kd,q⟩:=h;obtain rfl:=Vals.TX r;obtain⟨vs,rel,dd⟩:=kd.at_;have dd:=dd _ I.DT;refine kt_call_dict kd.ns dd (by rw[<-rel.length];exact kd.sz) λh' T3 hs=>?_;nomatch .ref s.heap.objs.size,_,I.laid (a:=s.heap.objs.size) (o:=.dK dh) (t':=s.toks) (λb o hq=>?_) (bw _) (F_ kd.sz (beq_eq_false_iff_ne.mpr (aL (cE I.big))) rel T3),rfl,q _ (I.gI.fresh (bw _))
 exact(hs.2 b (cE (bF hq))).trans (bx _ hq)
def rO:oC X (.type "dict") (λxs H Q=>∃a dh,xs=[.ref a]/\Rd H a (.dK dh)/\∀p,H p=none->Q (.ref p) (upd H p (.dK dh))):=by intro aA s σ H xs us Q I r h;obtain⟨a,dh,rfl,kd,q⟩:=h;obtain rfl:=Vals.TX r;exact Qq I kd λp s' hp I'=>⟨.ref p,_,I',rfl,q p hp⟩
end
section
variable{X:Cx}
def Inv.Xr(I:Inv X aA σ H s)(hH:Rd H l (.lst xs)):xs.length<=aH/\∃(dj:List aM)(n:Nat),Vals xs dj/\xs.length=dj.length/\s.heap.get? l=some {cls:=.type "list",data:=.seq dj.toArray n}:=by obtain⟨z,dj,n,r,e⟩:=hH.ok I.gI;nomatch z,dj,n,r,r.length,e
def Rd.sq{K:aq}{H:Hp}{l:aB}{xs:List V}(h:Rd H l (.lst xs)):fT K H l xs:=by
 rcases h with h|⟨o,h⟩
 .exact .inl (.inl h)
 .exact .inl (.inr ⟨o,h⟩)
def fK.rd(h:fK H b xs):Rd H b (.lst xs):=let⟨o,e⟩:=h; .inr ⟨o,e⟩
inductive VW(x:V)(y:V)(H:Hp)(Q:VK):Prop
 |mk(l:_)(b:_)(xs:_)(zs:_)(mV:x= .ref l)(mW:y= .ref b)(sS:Rd H l (.lst xs))(FZ:Rd H b (.lst zs))(Mf:xs.length+zs.length<=aH)(YQ:∀p,H p=none->Q (.ref p) (upd H p (.lst (xs++zs))))
def oS:wm X (binaryOp .Add) VW:=by
 intro aA s σ H x y v u Q I rx ry h;obtain⟨l,b,xs,zs,rfl,rfl,hH,hB,hz,q⟩:=h;cases rx;cases ry;obtain⟨z,dj,n,r,hl,e⟩:=I.Xr hH;obtain⟨z2,KP,n2,r2,tS,e2⟩:=I.Xr hB;refine PySem.P.add_list e e2 ?_ (by rw[bG,bG];lia);have ea:dj.toArray++KP.toArray=(dj++KP).toArray:=by simp
 rw[ea];nomatch .ref _,_,I.Z0 (t':=s.toks) (r.append r2) (by rw[az];lia),rfl,q _ I.fresh
inductive xx(x:V)(vs:(List V))(H:Hp)(Q:VK):Prop
 |mk(l:_)(b:_)(xs:_)(zs:_)(mV:x= .ref l)(mW:vs=[.ref b])(sS:H l=some (.lst xs))(FZ:Rd H b (.lst zs))(Mf:xs.length+zs.length<=aH)(YQ:Q .eY (upd H l (.lst (xs++zs))))
def lN:MtM X "list.extend" xx:=by
 intro aA s σ H x vs v us Q I rx rv h;obtain⟨l,b,xs,zs,rfl,rfl,hH,hB,hz,q⟩:=h;cases rx;obtain⟨u,rfl,ru⟩:=rv.one;cases ru;obtain⟨z,dj,n,r,hl,e⟩:=I.WU hH;obtain⟨z2,KP,n2,r2,tS,e2⟩:=I.Xr hB;have hsz:dj.toArray.size+KP.toArray.size<=aH:=by rw[bG,bG];lia
 have Qb:¬(!dj.toArray.isEmpty&&kW (dj.toArray.size+KP.toArray.size))=true:=by rw[HS hsz,Bool.and_false];exact bJ
 refine call_meets F.slot_list_extend ⟨_,e,rfl⟩ F.entry_list_extend (F.args_list_extend_2 _ _) (AutoSeq1.list_extend_list_list_0 l dj.toArray n b KP.toArray n2 Qb (by rw[bG];lia) (by lia)) ⟨e,e2,?_⟩;nomatch .eY,_,I.oQ (its':=dj++KP) hH e (by simp) (r.append r2) ?_,rfl,q
 rw[az];lia
end
def cu(K:aq)(mg:bL->Option aM)(x:bL)(st:lR)(N:List bL)(n:Nat):Prop:=pT N (N.take n) (cW st)/\∃f fd,S8 K x x st f fd/\mg x=some (.ref f)/\Binds K fd (N.take n) []
def gj(K:aq)(C:aB)(m dB:bL)(st:lR)(N:List bL)(n:Nat):Prop:=pT N (N.take n) (cW st)/\∃f fd,S8 K m dB st f fd/\Meth K C m f/\Binds K fd (N.take n) []
def tT(K:aq)(mg:bL->Option aM)(x:bL)(C:aB)(dB:bL)(st:lR)(N:List bL)(n:Nat):Prop:=pT N (N.take n) (cW st)/\∃f fd,S8 K "__init__" dB st f fd/\Mk K C f/\mg x=some (.ref C)/\Binds K fd (N.take n) []
def Gh(P:cq)(w:dH)(K:aq)(mg:bL->Option aM)(aR:gD)(CX:HL)(k:Nat)(x:bL)(ps:List bL)(sp:Sp):Prop:=∃f fd,qo P w K mg aR CX k f fd ps sp/\mg x=some (.ref f)/\gP K (.ref f)=true/\Binds K fd ps []
def xy(P:cq)(w:dH)(K:aq)(mg:bL->Option aM)(aR:gD)(CX:HL)(k:Nat)(C:aB)(m:bL)(ps:List bL)(sp:Sp):Prop:=∃f fd,qo P w K mg aR CX k f fd ps sp/\Meth K C m f/\Binds K fd ps []
def MB(P:cq)(w:dH)(K:aq)(mg:bL->Option aM)(aR:gD)(CX:HL)(k:Nat)(x:bL)(C:aB)(ps:List bL)(sp:Sp):Prop:=∃f fd,qo P w K mg aR CX k f fd ps sp/\Mk K C f/\mg x=some (.ref C)/\Binds K fd ps []
section
variable{P:cq}{w:dH}{K:aq}{mg:bL->Option aM}{aR:gD}{CX:HL}{k:Nat}{x dB m:bL}{st:lR}{ps N:List bL}{sp:Sp}{C:aB}
def MC(P:cq)(w:dH)(K:aq)(mg:bL->Option aM)(aR:gD)(k:Nat)(N:List bL)(dB:bL)(st:lR)(sp:Sp):Prop:=∀(f:aB)(cdv:aM)(A:lE)(outer:List J3)(s:bq)(H:Hp)(vs:List V)(Q:VK)(E:XK),N.Nodup->jV k (A.deeper (i6 dB (cW st) s.heap.objs.size f cdv))->sp vs H Q E-> ∃t,HE (DV Pe P w K mg aR N dB (cW st) f cdv A outer s H E).ZH (i4 st) t/\t {nx:=λ_ H'=>Q .eY H',rt:=Q} (start N vs) H
def QJ(P:cq)(w:dH)(K:aq)(mg:bL->Option aM)(aR:gD)(C:aB)(k:Nat)(N:List bL)(dB:bL)(st:lR)(sp:Sp):Prop:=∀(f:aB)(cdv:aM)(A:lE)(outer:List J3)(s:bq)(H:Hp)(vs:List V)(Q:VK)(E:XK),N.Nodup->jV k (A.deeper (i6 dB (cW st) s.heap.objs.size f cdv))->sp vs H Q E-> ∃t,HE (DV (S9 P w C) P w K mg aR N dB (cW st) f cdv A outer s H E) (i4 st) t/\t {nx:=λ_ H'=>Q .eY H',rt:=Q} (start N vs) H
def S8.wY{f:aB}{fd:mz}(F:S8 K x dB st f fd)(S:pT N ps (cW st))(len:∀vs H Q E,sp vs H Q E->vs.length=ps.length)(hb:QJ P w K mg aR C k N dB st sp):qo P w K mg aR (S9 P w C) (k+1) f fd ps sp:=by obtain⟨oc,od,kV,doc,pm,an,cdv,ct,HP,rfl,lk,Pc⟩:=F.ex;exact VJ lk Pc S len λA outer s H vs Q E hr Mh=>hb f cdv A outer s H vs Q E S.nd hr Mh
variable{n:Nat}
abbrev cu.D(_:cu K mg x st N n)(P:cq)(w:dH)(aR:gD)(k:Nat)(sp:Sp):Prop:=Gh P w K mg aR Pe k x (N.take n) sp
theorem cu.ok(F:cu K mg x st N n)(hb:MC P w K mg aR k N x st sp)(len:∀vs H Q E,sp vs H Q E->vs.length=(N.take n).length:=by intro _ _ _ _ h;cases h;subst_vars;rfl):Gh P w K mg aR Pe (k+1) x (N.take n) sp:=by obtain⟨S,f,fd,F,h1,h2⟩:=F;nomatch f,fd,F.ok S len λcdv A outer s H vs Q E hr h=>hb f cdv A outer s H vs Q E S.nd hr h,h1,F.kp,h2
abbrev cu.E(_:cu K mg x st N n)(P:cq)(w:dH)(aR:gD)(c:aB)(k:Nat)(sp:Sp):Prop:=Gh P w K mg aR (S9 P w c) k x (N.take n) sp
theorem cu.wY{c:aB}(F:cu K mg x st N n)(hb:QJ P w K mg aR c k N x st sp)(len:∀vs H Q E,sp vs H Q E->vs.length=(N.take n).length:=by intro _ _ _ _ h;cases h;subst_vars;rfl):Gh P w K mg aR (S9 P w c) (k+1) x (N.take n) sp:=by obtain⟨S,f,fd,F,h1,h2⟩:=F;nomatch f,fd,F.wY S len hb,h1,F.kp,h2
abbrev gj.D(_:gj K C m dB st N n)(P:cq)(w:dH)(mg:bL->Option aM)(aR:gD)(k:Nat)(sp:Sp):Prop:=xy P w K mg aR Pe k C m (N.take n) sp
theorem gj.ok(F:gj K C m dB st N n)(hb:MC P w K mg aR k N dB st sp)(len:∀vs H Q E,sp vs H Q E->vs.length=(N.take n).length:=by intro _ _ _ _ h;cases h;subst_vars;rfl):xy P w K mg aR Pe (k+1) C m (N.take n) sp:=by obtain⟨S,f,fd,F,h1,h2⟩:=F;nomatch f,fd,F.ok S len λcdv A outer s H vs Q E hr h=>hb f cdv A outer s H vs Q E S.nd hr h,h1,h2
abbrev gj.E(_:gj K C m dB st N n)(P:cq)(w:dH)(mg:bL->Option aM)(aR:gD)(c:aB)(k:Nat)(sp:Sp):Prop:=xy P w K mg aR (S9 P w c) k C m (N.take n) sp
theorem gj.wY{c:aB}(F:gj K C m dB st N n)(hb:QJ P w K mg aR c k N dB st sp)(len:∀vs H Q E,sp vs H Q E->vs.length=(N.take n).length:=by intro _ _ _ _ h;cases h;subst_vars;rfl):xy P w K mg aR (S9 P w c) (k+1) C m (N.take n) sp:=by obtain⟨S,f,fd,F,h1,h2⟩:=F;nomatch f,fd,F.wY S len hb,h1,h2
abbrev tT.D(_:tT K mg x C dB st N n)(P:cq)(w:dH)(aR:gD)(k:Nat)(sp:Sp):Prop:=MB P w K mg aR Pe k x C (N.take n) sp
theorem tT.ok(F:tT K mg x C dB st N n)(hb:MC P w K mg aR k N dB st sp)(len:∀vs H Q E,sp vs H Q E->vs.length=(N.take n).length:=by intro _ _ _ _ h;cases h;subst_vars;rfl):MB P w K mg aR Pe (k+1) x C (N.take n) sp:=by obtain⟨S,f,fd,F,h1,h2,h3⟩:=F;nomatch f,fd,F.ok S len λcdv A outer s H vs Q E hr h=>hb f cdv A outer s H vs Q E S.nd hr h,h1,h2,h3
theorem Gh.iZ(F:Gh P w K mg aR CX k x ps sp):Gh P w K mg aR CX k x ps (λvs H Q E=>sp vs H (λv H'=>js H H'->Q v H') E):=let⟨f,fd,F,r⟩:=F;⟨f,fd,F.iZ,r⟩
theorem xy.iZ(F:xy P w K mg aR CX k C m ps sp):xy P w K mg aR CX k C m ps (λvs H Q E=>sp vs H (λv H'=>js H H'->Q v H') E):=let⟨f,fd,F,r⟩:=F;⟨f,fd,F.iZ,r⟩
end
section
variable{X:Cx}{CX:HL}{k j:Nat}{C:aB}{ps:List bL}{sp:Sp}{E:XK}{x m:bL}{p d_ apos:Nd}{e o:jx}{es:List jx}{ta:TE}{t:TA}
def aI(F:Gh X.prog X.w X.K X.mg X.base CX k x ps sp)(ha:PA X (e::es) t)(hr:jV j X.A:=by assumption)(hx:Passes CX X E:=by first|exact E7|exact qT)(hg:Gl X x:=by rfl)(hk:k<=j:=by decide)(BO:(x==("__debug__":bL))=false:=by decide) (he:bE (e::es) X.env=(false,eval e X.env)::bE es X.env:=by rfl) (A9:(ku d_ (bE es X.env)).any (·.1)=false:=by rfl):PE X (.Call (.Name x p) (e::es) [] d_) (sk sp [] E t):=by obtain⟨f,fd,F,h1,h2,h3⟩:=F;exact TM F (hr.mono hk) hg h1 h2 h3 .nil hx ha BO he A9
def Cb(F:Gh X.prog X.w X.K X.mg X.base CX k x ps sp)(hr:jV j X.A:=by assumption)(hx:Passes CX X E:=by first|exact E7|exact qT)(hg:Gl X x:=by rfl)(hk:k<=j:=by decide)(BO:(x==("__debug__":bL))=false:=by decide):PE X (.Call (.Name x p) [] [] d_) (sk sp [] E kK):=by obtain⟨f,fd,F,h1,h2,h3⟩:=F;exact P5 F (hr.mono hk) hg h1 h2 h3 .nil hx BO
def fG{pl:acL Bool}(F:xy X.prog X.w X.K X.mg X.base CX k C m ps sp)(c:Hs X.K C)(he:PE X o ta)(ha:PA X (e::es) t)(hr:jV j X.A:=by assumption)(hx:Passes CX X E:=by first|exact E7|exact qT)(hk:k<=j:=by decide) (kx:bE (e::es) X.env=(false,eval e X.env)::bE es X.env:=by rfl) (A9:(ku d_ (bE es X.env)).any (·.1)=false:=by rfl) (ht:eval (.Call (.Attribute o m apos) (e::es) [] d_) X.env=(do
   let ov <-eval o X.env;standAt apos.atName
   let(f,first)<-holding [ov] (getMethod ov m pl);J4 d_ f first (ku d_ (bE (e::es) X.env)) (yJ d_ (pH [] X.env))):=by rfl):
  PE X (.Call (.Attribute o m apos) (e::es) [] d_) (EU C m sp [] E ta t):=by
 obtain⟨f,fd,F,h1,h2⟩:=F;exact TN he c h1 F (hr.mono hk) h2 .nil hx ha kx A9 ht
def b_{pl:acL Bool}(F:xy X.prog X.w X.K X.mg X.base CX k C m ps sp)(c:Hs X.K C)(he:PE X o ta)(hr:jV j X.A:=by assumption)(hx:Passes CX X E:=by first|exact E7|exact qT)(hk:k<=j:=by decide) (ht:eval (.Call (.Attribute o m apos) [] [] d_) X.env=(do
   let ov <-eval o X.env;standAt apos.atName
   let(f,first)<-holding [ov] (getMethod ov m pl);J4 d_ f first (ku d_ (bE [] X.env)) (yJ d_ (pH [] X.env))):=by rfl):
  PE X (.Call (.Attribute o m apos) [] [] d_) (EU C m sp [] E ta kK):=by
 obtain⟨f,fd,F,h1,h2⟩:=F;exact P6 he c h1 F (hr.mono hk) h2 .nil hx ht
def nj(F:MB X.prog X.w X.K X.mg X.base CX k x C ps sp)(ha:PA X (e::es) t)(hr:jV j X.A:=by assumption)(hx:Passes CX X E:=by first|exact E7|exact qT)(hg:Gl X x:=by rfl)(hk:k+1<=j:=by decide)(BO:(x==("__debug__":bL))=false:=by decide) (he:bE (e::es) X.env=(false,eval e X.env)::bE es X.env:=by rfl) (A9:(ku d_ (bE es X.env)).any (·.1)=false:=by rfl):PE X (.Call (.Name x p) (e::es) [] d_) (Mg C sp [] E t):=by obtain⟨f,fd,F,h1,h2,h3⟩:=F;exact TQ h1 F (hr.mono hk) hg h2 h3 .nil hx ha BO he A9
def xA(F:MB X.prog X.w X.K X.mg X.base CX k x C ps sp)(hr:jV j X.A:=by assumption)(hx:Passes CX X E:=by first|exact E7|exact qT)(hg:Gl X x:=by rfl)(hk:k+1<=j:=by decide)(BO:(x==("__debug__":bL))=false:=by decide):PE X (.Call (.Name x p) [] [] d_) (Mg C sp [] E kK):=by obtain⟨f,fd,F,h1,h2,h3⟩:=F;exact P7 h1 F (hr.mono hk) hg h2 h3 .nil hx BO
def dU(mg:bL->Option aM)(x:bL)(i:Int):Prop:=∃t,mg x=some (.int i t)
def QK(mg:bL->Option aM)(x y:bL):Prop:=∃t,mg x=some (.str y t)
def Gi(K:aq)(mg:bL->Option aM)(x:bL)(xs:List V):Prop:=∃a,mg x=some (.ref a)/\∀H,l_ K H a xs
def aU{i:Int}(h:dU X.mg x i)(hg:Gl X x:=by rfl)(hd:(x==("__debug__":bL))=false:=by decide):PE X (.Name x d_) (tC (.int i)):=by obtain⟨t,h⟩:=h;exact rH hg h ⟨t,rfl⟩ hd
def zc{y:bL}(h:QK X.mg x y)(hg:Gl X x:=by rfl)(hd:(x==("__debug__":bL))=false:=by decide):PE X (.Name x d_) (tC (.str y)):=by obtain⟨t,h⟩:=h;exact rH hg h ⟨t,rfl⟩ hd
def aaz(K:aq)(xs:List V):TE:=λ_ H Q=>∀a,l_ K H a xs->Q (.ref a) H
def qr{xs:List V}(h:Gi X.K X.mg x xs)(hg:Gl X x:=by rfl)(hd:(x==("__debug__":bL))=false:=by decide):PE X (.Name x d_) (aaz X.K xs):=by obtain⟨a,h,hs⟩:=h;intro aA s σ H Q I hq;exact rH (v:=.ref a) hg h rfl hd aA s σ H Q I (hq a (hs H))
end
def QL(N P:List bL)(sc:ql):Bool:=decide (sc.kind= .function)&&(!sc.isCoroutine&&(!sc.isGenerator&&(decide N.Nodup&&(decide (N.take P.length=P)&&(P.all (λx=>decide (sc.names.lookup x=some .local\/sc.names.lookup x=some .cell))&&sc.names.all λy=>decide (y.2≠ .free))))))
def fsc{N P:List bL}{sc:ql}(h:QL N P sc=true):pT N P sc:=by simp only[QL,cz,decide_eq_true_eq,Vu,dI]at h;nomatch h.1,h.2.1,h.2.2.1,h.2.2.2.1,h.2.2.2.2.1,h.2.2.2.2.2.1,h.2.2.2.2.2.2
section
variable{X:Cx}{x:bL}{e a b c d g:jx}{te ta tb tc td tg:TE}{d_ pos':Nd}
def cJ(i:Nat)(hN:X.N.Nodup)(he:PE X e te)(hi:X.N[i]? =some x:=by rfl)(hx:Loc X.env.scope x:=by exact Wk rfl)(hs:swapsWith e (some (.Name x pos')) d_.line X.env=pure false:=by rfl)(hf:X.fn x=true\/X.env.scope.names.lookup x=some .local:=by first|exact .inl rfl|exact .inr rfl|assumption):PS X (.Assign [.Name x pos'] e d_) (PK te (nJ i)):=WB hN hi hx he hs hf
def Cc(i:Nat)(hN:X.N.Nodup)(hi:X.N[i]? =some x:=by rfl)(hx:Loc X.env.scope x:=by exact Wk rfl)(hf:X.fn x=true\/X.env.scope.names.lookup x=some .local:=by first|exact .inl rfl|exact .inr rfl|assumption):PG X (.Name x d_) (nJ i):=Tv hN hi hx hf
def fN(ha:PE X a ta)(sa:bE [a] X.env=(false,eval a X.env)::bE [] X.env:=by rfl):PA X [a] (iR ta kK):=kh ha jk sa
def i5(ha:PE X a ta)(hb:PE X b tb)(sa:bE [a,b] X.env=(false,eval a X.env)::bE [b] X.env:=by rfl)(sb:bE [b] X.env=(false,eval b X.env)::bE [] X.env:=by rfl):PA X [a,b] (iR ta (iR tb kK)):=kh ha (kh hb jk sb) sa
def mh(ha:PE X a ta)(hb:PE X b tb)(hc:PE X c tc)(sa:bE [a,b,c] X.env=(false,eval a X.env)::bE [b,c] X.env:=by rfl)(sb:bE [b,c] X.env=(false,eval b X.env)::bE [c] X.env:=by rfl)(sc:bE [c] X.env=(false,eval c X.env)::bE [] X.env:=by rfl):PA X [a,b,c] (iR ta (iR tb (iR tc kK))):=kh ha (kh hb (kh hc jk sc) sb) sa
def va(ha:PE X a ta)(hb:PE X b tb)(hc:PE X c tc)(hd:PE X d td)(sa:bE [a,b,c,d] X.env=(false,eval a X.env)::bE [b,c,d] X.env:=by rfl)(sb:bE [b,c,d] X.env=(false,eval b X.env)::bE [c,d] X.env:=by rfl)(sc:bE [c,d] X.env=(false,eval c X.env)::bE [d] X.env:=by rfl)(sd:bE [d] X.env=(false,eval d X.env)::bE [] X.env:=by rfl):PA X [a,b,c,d] (iR ta (iR tb (iR tc (iR td kK)))):=kh ha (kh hb (kh hc (kh hd jk sd) sc) sb) sa
end
def b4{X x p}:= @pv X 0 x p
def cC{X x p}:= @pv X 1 x p
def fF{X x p}:= @pv X 2 x p
def gQ{X x p}:= @pv X 3 x p
def kS{X x p}:= @pv X 4 x p
def zV{X x p}:= @pv X 5 x p
def VX{X x p}:= @pv X 6 x p
def pv7{X x p}:= @pv X 7 x p
def pv8{X x p}:= @pv X 8 x p
def pv9{X x p}:= @pv X 9 x p
def adS{X x p}:= @pv X 10 x p
def iN{c:Prop}{h:Decidable c}(k:¬c){α:Sort u}{t e:α}:ite c t e=e:=if_neg k
def iP{c:Prop}{h:Decidable c}(k:c){α:Sort u}{t e:α}:ite c t e=t:=if_pos k
def xp(a:Array (Lean.TSyntax `term)):Lean.MacroM (Array (Lean.TSyntax `term)):=do
 let h <-`(_);let r <-`(rfl);return a.flatMap λt=>if t.raw.isOfKind `ident&&t.raw.getId== `I then#[h,r]else if t.raw.isOfKind `ident&&t.raw.getId== `J then#[h,h,r,r]else#[t]
end L2
local macro_rules | `(tactic| kd_p) => do
  let l := [`f0, `cdv, `A0, `outer, `s0, `H, `vs, `Q, `E, `nd, `hr, `h].map Lean.mkIdent |>.toArray
  `(tactic| intro $l*)
local macro_rules | `(tactic| exists $a,*) => do let l <- L2.xp a.getElems; `(tactic| refine ⟨$l,*, ?_⟩)
local macro_rules | `(tactic| nomatch $a,*) => do let l <- L2.xp a.getElems; `(tactic| refine ⟨$l,*⟩)
local macro_rules | `(nofun) => `(by intro z; cases z)
local macro_rules | `(()) => `(by lia)
local macro_rules | `(#[]) => `(by decide)
namespace My
open PySem PySem.Spec PyProof.Rows L2
def top(i:Nat):lR:=PySem.Challenge.pw_fardisk_s01_answers.main.body.getD i (.Pass ⟨0,0,0,0⟩)
abbrev wu:lR:=inClass (top 3) 2
abbrev Iv:lR:=top 12
abbrev NN:lR:=top 14
abbrev KQ:lR:=top 31
abbrev zd:lR:=inClass (top 105) 1
abbrev xB:lR:=inClass (top 202) 6
abbrev qU:lR:=top 204
structure Cl where
 Disk:aB
 Task:aB
 Session:aB
 Turn:aB
 Outcome:aB
 Target:aB
 dF:aB
def aaB(P:cq)(w:dH)(K:aq)(mg:bL->Option aM):Prop:=∃a,∃f:bL->aB,mg "NUMBER_KEYS"=some (.ref a)/\Ca P w K a [(bY "MaxRecvDataSegmentLength",V.ref (f "MaxRecvDataSegmentLength")),(bY "MaxBurstLength",V.ref (f "MaxBurstLength")),(bY "FirstBurstLength",V.ref (f "FirstBurstLength")),(bY "MaxOutstandingR2T",V.ref (f "MaxOutstandingR2T")),(bY "MaxConnections",V.ref (f "MaxConnections")),(bY "ErrorRecoveryLevel",V.ref (f "ErrorRecoveryLevel")),(bY "DefaultTime2Wait",V.ref (f "DefaultTime2Wait")),(bY "DefaultTime2Retain",V.ref (f "DefaultTime2Retain"))]/\(∀H,l_ K H (f "MaxRecvDataSegmentLength") [V.int 512,V.int 16777215])/\(∀H,l_ K H (f "MaxBurstLength") [V.int 512,V.int 16777215])/\(∀H,l_ K H (f "FirstBurstLength") [V.int 512,V.int 16777215])/\(∀H,l_ K H (f "MaxOutstandingR2T") [V.int 1,V.int 65535])/\(∀H,l_ K H (f "MaxConnections") [V.int 1,V.int 65535])/\(∀H,l_ K H (f "ErrorRecoveryLevel") [V.int 0,V.int 2])/\(∀H,l_ K H (f "DefaultTime2Wait") [V.int 0,V.int 3600])/\(∀H,l_ K H (f "DefaultTime2Retain") [V.int 0,V.int 3600])
def aaC(P:cq)(w:dH)(K:aq)(mg:bL->Option aM):Prop:=∃a,mg "AT_FIRST"=some (.ref a)/\Ca P w K a [(bY "HeaderDigest",V.str "None"),(bY "DataDigest",V.str "None"),(bY "InitialR2T",V.str "Yes"),(bY "ImmediateData",V.str "Yes"),(bY "MaxRecvDataSegmentLength",V.int 8192),(bY "MaxBurstLength",V.int 262144),(bY "FirstBurstLength",V.int 65536)]
structure Txt(P:cq)(w:dH)(K:aq)(mg:bL->Option aM)(C:Cl):Prop where
 zW:tT K mg "Disk" C.Disk "Disk.__init__" (inClass (top 3) 0) ["self"] 1
 zX:gj K C.Disk "twin" "Disk.twin" (inClass (top 3) 1) ["self","other"] 1
 o_:gj K C.Disk "blocks_from" "Disk.blocks_from" (inClass (top 3) 2) ["self","first","many","block"] 3
 pZ:gj K C.Disk "write_from" "Disk.write_from" (inClass (top 3) 3) ["self","first","octets","step","at"] 3
 zY:cu K mg "number_at" (top 7) ["octets","at","size","value","octet"] 3
 xC:cu K mg "put_number" (top 8) ["octets","at","size","value","left","step"] 4
 xD:cu K mg "put_octets" (top 9) ["octets","at","row","step","octet"] 3
 vA:cu K mg "filled_size" (top 10) ["size"] 1
 Iw:cu K mg "filled" (top 11) ["octets"] 1
 zZ:cu K mg "octets_of" (top 12) ["text","sign"] 1
 Fc:cu K mg "sign_of" (top 13) ["octet","place"] 1
 Fd:cu K mg "text_of" (top 14) ["octets","octet"] 1
 Fe:cu K mg "rows_of" (top 29) ["data","rows","row","octet"] 1
 Ff:cu K mg "pair_of" (top 30) ["row","at","key","value"] 1
 Ce:cu K mg "pairs_of" (top 31) ["data","rows","pairs","row"] 1
 vB:cu K mg "number_said" (top 32) ["value"] 1
 sy:cu K mg "answer_number" (top 33) ["key","value","settings","bounds","said"] 3
 vC:cu K mg "answer_sums" (top 34) ["key","value","settings","name"] 3
 sA:cu K mg "answer_choice" (top 35) ["key","value","settings"] 3
 xE:cu K mg "answer_key" (top 36) ["key","value","settings"] 3
 z5:tT K mg "Task" C.Task "Task.__init__" (inClass (top 39) 0) ["self","header","data"] 3
 xF:gj K C.Task "reads" "Task.reads" (inClass (top 39) 1) ["self"] 1
 vD:gj K C.Task "writes" "Task.writes" (inClass (top 39) 2) ["self"] 1
 tU:gj K C.Task "on_disk" "Task.on_disk" (inClass (top 39) 3) ["self"] 1
 z6:gj K C.Task "twin" "Task.twin" (inClass (top 39) 4) ["self","other"] 1
 p0:gj K C.Task "await_data" "Task.await_data" (inClass (top 39) 5) ["self","number","limit"] 3
 tV:tT K mg "Session" C.Session "Session.__init__" (inClass (top 43) 0) ["self","line"] 2
 tW:gj K C.Session "twin" "Session.twin" (inClass (top 43) 1) ["self","other"] 1
 nN:gj K C.Session "twin_tasks" "Session.twin_tasks" (inClass (top 43) 2) ["self","twins","tag","task"] 1
 sC:gj K C.Session "close" "Session.close" (inClass (top 43) 3) ["self"] 1
 p4:gj K C.Session "at_work" "Session.at_work" (inClass (top 43) 4) ["self"] 1
 mM:gj K C.Session "header_sums" "Session.header_sums" (inClass (top 43) 5) ["self"] 1
 oF:gj K C.Session "data_sums" "Session.data_sums" (inClass (top 43) 6) ["self"] 1
 oG:gj K C.Session "all_asked" "Session.all_asked" (inClass (top 43) 7) ["self"] 1
 jX:gj K C.Session "data_with_commands" "Session.data_with_commands" (inClass (top 43) 8) ["self"] 1
 mO:gj K C.Session "their_limit" "Session.their_limit" (inClass (top 43) 9) ["self"] 1
 sD:gj K C.Session "burst" "Session.burst" (inClass (top 43) 10) ["self"] 1
 mP:gj K C.Session "first_burst" "Session.first_burst" (inClass (top 43) 11) ["self"] 1
 nO:gj K C.Session "new_number" "Session.new_number" (inClass (top 43) 12) ["self"] 1
 mQ:gj K C.Session "give_up_all" "Session.give_up_all" (inClass (top 43) 13) ["self"] 1
 Iy:cu K mg "crc32c" (top 47) ["octets","rest","octet"] 1
 Iz:cu K mg "sum_of" (top 48) ["octets","value"] 1
 xG:cu K mg "new_header" (top 55) ["kind","marks","header"] 2
 z7:tT K mg "Turn" C.Turn "Turn.__init__" (inClass (top 56) 0) ["self","disk","sessions","line","most"] 5
 z8:gj K C.Turn "send" "Turn.send" (inClass (top 56) 1) ["self","header","data","session"] 3
 tX:gj K C.Turn "put_out" "Turn.put_out" (inClass (top 56) 2) ["self","octets","summed","size"] 3
 mR:gj K C.Turn "send_uncounted" "Turn.send_uncounted" (inClass (top 56) 3) ["self","header"] 2
 oH:gj K C.Turn "send_counted" "Turn.send_counted" (inClass (top 56) 4) ["self","header","data","session"] 3
 vE:cu K mg "where_it_is" (top 73) ["header"] 1
 Cf:cu K mg "where_to" (top 74) ["header"] 1
 tY:cu K mg "stands_right" (top 75) ["session","header"] 2
 vF:cu K mg "leads_right" (top 76) ["header"] 1
 tZ:cu K mg "keys_are_new" (top 77) ["session","pairs","seen","pair"] 2
 p6:cu K mg "refusal_of_form" (top 78) ["session","header","pairs"] 3
 pb:cu K mg "refusal_of_first" (top 79) ["pairs","said"] 1
 p7:cu K mg "refusal_of_keys" (top 80) ["first","pairs","key","value"] 2
 xH:cu K mg "refusal_of" (top 81) ["session","header","pairs","detail","first"] 3
 vG:cu K mg "answer_keys" (top 82) ["session","pairs","data","key","value","answer"] 2
 xI:cu K mg "new_answer" (top 83) ["header","marks","answer"] 2
 IA:cu K mg "refuse" (top 84) ["turn","header","detail","answer"] 3
 IB:cu K mg "accept" (top 85) ["turn","header","pairs","session","goes_on","stage","answer","data"] 3
 xJ:cu K mg "take_login" (top 86) ["turn","header","data","session","pairs","detail"] 3
 t8:tT K mg "Outcome" C.Outcome "Outcome.__init__" (inClass (top 105) 0) ["self","sense","rows","written"] 4
 qV:gj K C.Outcome "length" "Outcome.length" (inClass (top 105) 1) ["self","row"] 1
 t9:gj K C.Outcome "part" "Outcome.part" (inClass (top 105) 2) ["self","begin","end","first","octets","row"] 3
 Cg:cu K mg "sense_of" (top 106) ["kind","about","sense"] 2
 IC:cu K mg "failed" (top 107) ["kind","about"] 2
 MD:cu K mg "found" (top 108) ["octets"] 1
 Fg:cu K mg "nothing" (top 109) [] 0
 Fh:cu K mg "inquire" (top 110) ["task","what","place","octets"] 1
 vH:cu K mg "list_places" (top 111) ["task"] 1
 xK:cu K mg "give_sense" (top 112) ["task","session","sense"] 2
 sE:cu K mg "tell_capacity" (top 113) ["octets"] 0
 xM:cu K mg "use_blocks" (top 114) ["task","disk","what","first","many"] 2
 xN:cu K mg "do_command" (top 115) ["task","session","disk","code"] 3
 Ci:cu K mg "put_rest" (top 125) ["header","there","wanted"] 3
 sF:cu K mg "status_header" (top 126) ["task","status","there","wanted","header"] 4
 vI:cu K mg "wanted_size" (top 127) ["task"] 1
 t_:cu K mg "tell_no_room" (top 128) ["turn","task"] 2
 xO:cu K mg "tell_wrong" (top 129) ["turn","task","sense","header"] 3
 Cj:cu K mg "tell_end" (top 130) ["turn","task","outcome","there"] 3
 z9:cu K mg "piece_end" (top 131) ["session","begin","size","burst_end"] 3
 vJ:cu K mg "data_header" (top 132) ["task","pieces","begin","marks","header"] 4
 z_:cu K mg "tell_read" (top 133) ["turn","task","outcome","session","size","begin","pieces","end","octets","header","marks"] 3
 QM:cu K mg "tell" (top 134) ["turn","task","outcome"] 3
 vK:cu K mg "more_follow" (top 142) ["task"] 1
 qW:cu K mg "own_data_wrong" (top 143) ["session","task","size"] 2
 p8:cu K mg "following_wrong" (top 144) ["session","task"] 2
 ua:cu K mg "rejection_of" (top 145) ["session","task"] 2
 ID:cu K mg "finish" (top 146) ["turn","task"] 2
 VY:cu K mg "ask" (top 147) ["turn","task","session","begin","size","header"] 2
 ME:cu K mg "go_on" (top 148) ["turn","task"] 2
 pf:cu K mg "start_collecting" (top 149) ["turn","task","session"] 2
 xP:cu K mg "start_task" (top 150) ["turn","task"] 2
 xQ:cu K mg "data_wrong" (top 151) ["task","header","data","last","left"] 3
 Aa:cu K mg "take_data" (top 152) ["turn","header","data","session","task"] 3
 IE:cu K mg "reject" (top 168) ["turn","header","why","answer"] 3
 Fi:cu K mg "is_next" (top 169) ["session","header"] 2
 Ab:cu K mg "take_ping" (top 170) ["turn","header","data","answer"] 3
 ub:cu K mg "take_command" (top 171) ["turn","header","data","task","why"] 3
 vL:cu K mg "give_up_one" (top 172) ["session","tag"] 2
 xR:cu K mg "begin_anew" (top 173) ["sessions","session"] 1
 IF:cu K mg "manage" (top 174) ["turn","header","function"] 2
 vM:cu K mg "take_manage" (top 175) ["turn","header","answer"] 2
 vN:cu K mg "take_logout" (top 176) ["turn","header","leaves","answer"] 2
 Ac:cu K mg "take_work" (top 177) ["turn","header","data","kind"] 3
 uc:cu K mg "header_wrong" (top 182) ["session","header"] 2
 xS:cu K mg "data_begin" (top 183) ["session"] 1
 vO:cu K mg "packet_size" (top 184) ["session","header","size","behind"] 2
 ph:cu K mg "header_sum_wrong" (top 185) ["session","packet","end"] 2
 qX:cu K mg "data_sum_wrong" (top 186) ["session","packet","size","begin","end"] 3
 ud:cu K mg "packet_wrong" (top 187) ["session","packet","size"] 3
 vP:cu K mg "take_packet" (top 188) ["turn","packet","header","begin","data"] 2
 vQ:cu K mg "take_octets" (top 189) ["turn","octets","session","held","at","size","packet"] 2
 Fj:cu K mg "is_line" (top 201) ["line"] 1
 vR:tT K mg "Target" C.Target "Target.__init__" (inClass (top 202) 0) ["self"] 1
 qY:gj K C.Target "it_open" "Target.it_open" (inClass (top 202) 1) ["self","line"] 2
 qZ:gj K C.Target "it_recv" "Target.it_recv" (inClass (top 202) 2) ["self","line","most","octets","turn"] 4
 pj:gj K C.Target "it_closed" "Target.it_closed" (inClass (top 202) 3) ["self","line"] 2
 p9:gj K C.Target "it_tasks" "Target.it_tasks" (inClass (top 202) 4) ["self","line"] 2
 p_:gj K C.Target "it_block" "Target.it_block" (inClass (top 202) 5) ["self","block","rows"] 2
 qb:gj K C.Target "new_turn" "Target.new_turn" (inClass (top 202) 6) ["self","line","most","sessions","session"] 3
 vS:gj K C.Target "keep" "Target.keep" (inClass (top 202) 7) ["self","turn","line"] 3
 Ad:cu K mg "answer_to" (top 203) ["target","call","number"] 3
 NP:cu K mg "answers" (top 204) ["calls","target","told","at","answer","end"] 1
 mi:Hs K C.Disk
 jY:e_ K C.Disk "written"
 vT:e_ K C.Disk "blank"
 bh:Hs K C.Task
 j4:e_ K C.Task "marks"
 lg:e_ K C.Task "where"
 jc:e_ K C.Task "tag"
 fe:e_ K C.Task "size"
 jd:e_ K C.Task "what"
 gu:e_ K C.Task "data"
 jn:e_ K C.Task "asked"
 i0:e_ K C.Task "number"
 lh:e_ K C.Task "limit"
 i3:e_ K C.Task "pieces"
 aF:Hs K C.Session
 n_:e_ K C.Session "line"
 iu:e_ K C.Session "closed"
 jZ:e_ K C.Session "held"
 fB:e_ K C.Session "stage"
 g8:e_ K C.Session "count"
 cT:e_ K C.Session "command_number"
 dJ:e_ K C.Session "last_asked"
 gR:e_ K C.Session "anew"
 dn:e_ K C.Session "settings"
 ig:e_ K C.Session "seen_keys"
 dR:e_ K C.Session "tasks"
 cy:Hs K C.Turn
 rP:e_ K C.Turn "disk"
 mZ:e_ K C.Turn "sessions"
 bX:e_ K C.Turn "session"
 xT:e_ K C.Turn "most"
 kL:e_ K C.Turn "sent"
 g9:Hs K C.Outcome
 m3:e_ K C.Outcome "sense"
 oj:e_ K C.Outcome "rows"
 pq:e_ K C.Outcome "written"
 fL:Hs K C.Target
 mj:e_ K C.Target "disk"
 ff:e_ K C.Target "sessions"
 VZ:[C.Disk,C.Task,C.Session,C.Turn,C.Outcome,C.Target].Nodup
 Fl:∃bm nid,Exn K mg "TooMuch" C.dF bm nid/\∃Bn iid,ExcBaseFacts Bn nid iid bm
 Ck:dU mg "BLOCKS" 2048
 hZ:dU mg "BLOCK_SIZE" 512
 MF:QK mg "SIGNS" ",-./0123456789:;<=>?@ABCDEFGHIJKLMNOPQRSTUVWXYZ[\\]^_`abcdefghijklmnopqrstuvwxyz"
 Gj:dU mg "FIRST_SIGN" 44
 DZ:dU mg "LONGEST_KEY" 63
 Ax:dU mg "LONGEST_VALUE" 255
 IG:dU mg "EQUALS" 61
 q_:Gi K mg "NAMES_OF_FIRST" [V.str "InitiatorName",V.str "SessionType",V.str "TargetName"]
 Xs:Gi K mg "SUMS" [V.str "HeaderDigest",V.str "DataDigest"]
 NQ:Gi K mg "CHOICES" [V.str "InitialR2T",V.str "ImmediateData"]
 xU:Gi K mg "ALWAYS_YES" [V.str "DataPDUInOrder",V.str "DataSequenceInOrder"]
 IH:dU mg "OWN_LIMIT" 8192
 Ay:dU mg "LONGEST_BURST" 262144
 sV:dU mg "LONGEST_FIRST_BURST" 65536
 Az:dU mg "SHORTEST_WAIT" 2
 Cm:QK mg "REJECT" "Reject"
 nP:dU mg "NOBODY" 4294967295
 QN:dU mg "WORK" 3
 Cn:dU mg "ALL_ONES" 4294967295
 II:Gi K mg "HALVES" [V.int 0,V.int 274646895,V.int 549293790,V.int 820201905,V.int 1098587580,V.int 1361435347,V.int 1640403810,V.int 1905808397,V.int 2197175160,V.int 2460548119,V.int 2722870694,V.int 2987750089,V.int 3280807620,V.int 3553878443,V.int 3811616794,V.int 4084100981]
 h_:dU mg "HEADER_SIZE" 48
 rQ:dU mg "SUM_SIZE" 4
 ze:dU mg "NUMBERS" 4294967296
 QO:dU mg "WINDOW" 7
 Co:dU mg "LOGIN_ANSWER" 35
 MG:dU mg "GO_ON" 128
 Cp:dU mg "MUST_BE_ZERO" 112
 IJ:dU mg "MOST_KEYS" 64
 Cq:dU mg "LONGEST_NAME" 223
 IK:QK mg "DISK_NAME" "iqn.2026-11.example:disk"
 NR:dU mg "REFUSED" 2
 nk:dU mg "NOT_AS_TOLD" 0
 IL:dU mg "NO_WAY_IN" 1
 IM:dU mg "NOT_FOUND" 3
 AA:dU mg "WRONG_VERSION" 5
 ue:dU mg "NAME_MISSING" 7
 AB:dU mg "WRONG_SESSION" 9
 xV:dU mg "NO_SUCH_SESSION" 10
 Gk:dU mg "SENSE_SIZE" 18
 Gm:dU mg "TEST_READY" 0
 Gn:dU mg "GIVE_SENSE" 3
 NS:dU mg "INQUIRY" 18
 KR:dU mg "CAPACITY" 37
 QP:dU mg "READ" 40
 Gp:dU mg "WRITE" 42
 MH:dU mg "FLUSH" 53
 D0:dU mg "LIST_PLACES" 160
 KS:dU mg "NO_SENSE" 0
 gS:dU mg "WRONG_REQUEST" 5
 Ae:dU mg "ATTENTION" 6
 xW:dU mg "UNKNOWN_COMMAND" 32
 D4:dU mg "BEYOND_DISK" 33
 nv:dU mg "WRONG_FIELD" 36
 uf:dU mg "NOT_THE_DISK" 37
 vU:dU mg "BEGINS_ANEW" 41
 QQ:dU mg "STATUS" 33
 NT:dU mg "DATA_IN" 37
 pw:dU mg "LAST_telling" 128
 D5:dU mg "WITH_STATUS" 1
 Up:dU mg "FEWER" 2
 Xt:dU mg "MORE" 4
 xX:dU mg "SOMETHING_WRONG" 2
 NU:dU mg "NO_ROOM" 40
 Uq:dU mg "ASKED" 49
 ml:dU mg "LAST_writing" 128
 Cr:dU mg "MOST_WAITING" 8
 Cs:dU mg "MOST_WRITTEN" 65536
 Gq:dU mg "TAG_IN_USE" 4
 qu:dU mg "NOT_ALLOWED" 9
 NV:dU mg "AT_ONCE" 64
 Xu:dU mg "PING" 0
 NW:dU mg "COMMAND" 1
 QR:dU mg "MANAGE" 2
 KU:dU mg "DATA_OUT" 5
 QS:dU mg "LOGOUT" 6
 KW:Gi K mg "NUMBERED" [V.int 0,V.int 1,V.int 2,V.int 6]
 D6:dU mg "PING_ANSWER" 32
 AD:dU mg "MANAGE_ANSWER" 34
 AE:dU mg "LOGOUT_ANSWER" 38
 KY:dU mg "REJECTED" 63
 Be:dU mg "ALONE" 128
 zf:dU mg "UNKNOWN_PACKET" 5
 Ct:dU mg "WAIT_SECONDS" 2
 Ur:dU mg "LOGIN" 67
 D7:Gi K mg "LATE_LOGINS" [V.int 67,V.int 3]
 IP:dU mg "MOST_DATA" 8192
 MI:dU mg "LINES" 4
 Gr:dU mg "MOST_TAKEN" 65536
 Gs:dU mg "MOST_GIVEN" 4194304
 KZ:dU mg "IT_BEGIN" 0
 NX:dU mg "IT_OPEN" 1
 NY:dU mg "IT_RECV" 2
 IQ:dU mg "IT_CLOSED" 3
 K0:dU mg "IT_BLOCK" 4
 K1:dU mg "IT_TASKS" 5
 Us:∃a,mg "STEPS"=some (.ref a)/\∀H,∃xs,l_ K H a xs/\vq K H xs [.tuple [.int 0,.int 1],.tuple [.int 0,.int 3],.tuple [.int 1,.int 3]]
 D8:aaB P w K mg
 K2:aaC P w K mg
 gT:mg "len"=none
 Gu:mg "range"=none
 IS:mg "enumerate"=none
 vV:mg "min"=none
 aaD:mg "max"=none
 aaE:mg "sum"=none
 aaF:mg "any"=none
 aaG:mg "ord"=none
 QT:mg "list"=none
 zg:mg "dict"=none
 MJ:mg "str"=none
 aaH:mg "int"=none
end My
namespace My
open Ql73
def put(b:List Nat)(p:Nat)(r:List Nat):List Nat:=b.take p++(r++b.drop (p+r.length))
def je(n x:Nat):(bytes n x).length=n:=by unfold bytes;rw[aK,iK]
def iA(h:p+r.length<=b.length):(put b p r).length=b.length:=by unfold put;rw[az,az,bf,cO];lia
def mq(h:p+r.length<=b.length)(k:Nat):(put b p r)[k]? =if p<=k/\k<p+r.length then r[k-p]? else b[k]? :=by
 unfold put;rw[Pu];have hl:(b.take p).length=p:=by rw[bf];lia
 rw[hl];by_cases h1:k<p
 .rw[if_pos h1,if_neg (),d7 h1]
 .rw[if_neg h1,Pu];by_cases h2:k<p+r.length
  .rw[if_pos (),if_pos ()]
  .rw[if_neg (),if_neg (),qM];congr 1;lia
def NZ(n x k:Nat):(bytes n x)[k]? =if k<n then some (x/256^(n-1-k)%256)else none:=by
 unfold bytes;rw[bz];by_cases h:k<n
 .rw[if_pos h,pQ h];rfl
 .rw[if_neg h,gz (by rw[iK];lia)];rfl
def D9(b:List Nat)(q v:Nat):Nat->List Nat
 |0=>b
 |i+1=>(D9 b q v i).set (q-1-i) (v/256^i%256)
theorem ug(b:List Nat)(q v:Nat):∀i,(D9 b q v i).length=b.length
 |0=>rfl
 |i+1=>by rw[D9,br,ug b q v i]
theorem IT(hq:q<=b.length):∀(i:Nat),i<=q->∀k,(D9 b q v i)[k]? =if q-i<=k/\k<q then some (v/256^(q-1-k)%256)else b[k]?
 |0,_,k=>by rw[D9,if_neg ()]
 |i+1,hi,k=>by
  rw[D9,bC];by_cases h:q-1-i=k
  .rw[if_pos h,if_pos (by rw[ug];lia),if_pos (),show q-1-k=i by lia]
  .rw[if_neg h,IT hq i () k];by_cases h2:q-i<=k/\k<q
   .rw[if_pos h2,if_pos ()]
   .rw[if_neg h2,if_neg ()]
def QU(h:p+n<=b.length):D9 b (p+n) v n=put b p (bytes n v):=by
 apply fO;intro k;rw[IT h n (),mq (by rw[je];exact h),je];by_cases h2:p<=k/\k<p+n
 .rw[if_pos (),if_pos h2,NZ,if_pos (),show n-1-(k-p)=p+n-1-k by lia]
 .rw[if_neg (),if_neg h2]
def bU(l:List (Nat×Bytes)):(header l).length=48:=by unfold header;rw[aK,iK]
def wx(l:List (Nat×Bytes))(k:Nat):(header l)[k]? =if k<48 then some ((l.findSome? λ(x:Nat×Bytes)=>if x.1<=k/\k<x.1+x.2.length then x.2[k-x.1]? else none).getD 0)else none:=by
 unfold header;rw[bz];by_cases h:k<48
 .rw[if_pos h,pQ h];rfl
 .rw[if_neg h,gz (by rw[iK];lia)];rfl
def IU(h:p+r.length<=48):header ((p,r)::l)=put (header l) p r:=by
 apply fO;intro k;rw[wx,mq (by rw[bU];exact h),wx];by_cases hk:k<48
 .rw[if_pos hk,if_pos hk,yO];by_cases h2:p<=k/\k<p+r.length
  .rw[if_pos h2,if_pos h2];obtain⟨z,hz⟩:∃z,r[k-p]? =some z:=⟨_,aX (show k-p<r.length by lia)⟩;rw[hz];rfl
  .rw[if_neg h2,if_neg h2]
 .rw[if_neg hk,if_neg hk,if_neg ()]
def zh:List Nat:=[0x00000000,0x105EC76F,0x20BD8EDE,0x30E349B1,0x417B1DBC,0x5125DAD3,0x61C69362,0x7198540D,0x82F63B78,0x92A8FC17,0xA24BB5A6,0xB21572C9,0xC38D26C4,0xD3D3E1AB,0xE330A81A,0xF36E6F75]
def half(x:Nat):Nat:=(x/16)^^^zh.getD (x%16) 0
def qc(y:Nat):shifted (2*y)=y:=by unfold shifted;rw[if_neg ()];lia
def om(x i:Nat):(shifted x).testBit i=(x.testBit (i+1)^^(x.testBit 0&&(0x82F63B78:Nat).testBit i)):=by
 unfold shifted;have h0:x.testBit 0=decide (x%2=1):=by rw[Nat.testBit_zero]
 rw[h0];by_cases h:x%2=1
 .rw[if_pos h,pR,Ti];simp[h]
 .rw[if_neg h,Ti];simp[h]
def qe(a b:Nat):shifted (a^^^b)=shifted a^^^shifted b:=by apply yG;intro i;rw[pR,om,om,om,pR,pR];cases a.testBit (i+1)<;>cases b.testBit (i+1)<;>cases a.testBit 0<;>cases b.testBit 0<;>cases(0x82F63B78:Nat).testBit i<;>rfl
def D_(x:Nat):x=(16*(x/16))^^^(x%16):=by
 apply yG;intro i;rw[pR,show 16*(x/16)=2^4*(x/2^4)from rfl,show x%16=x%2^4 from rfl,Nat.testBit_two_pow_mul,Nat.testBit_mod_two_pow,Nat.testBit_div_two_pow];by_cases h:4<=i
 .have e:i-4+4=i:=();simp[h,e,Nat.not_lt.mpr h]
 .simp[h,Nat.lt_of_not_le h]
def xY(x:Nat):shifted (shifted (shifted (shifted x)))=half x:=by
 have e:shifted (shifted (shifted (shifted x)))=shifted (shifted (shifted (shifted (16*(x/16)))))^^^shifted (shifted (shifted (shifted (x%16)))):=by rw[<-qe,<-qe,<-qe,<-qe,<-D_]
 rw[e];have e1:shifted (shifted (shifted (shifted (16*(x/16)))))=x/16:=by rw[show 16*(x/16)=2*(2*(2*(2*(x/16)))) by lia,qc,qc,qc,qc]
 have e2:∀r,r<16->shifted (shifted (shifted (shifted r)))=zh.getD r 0:=#[];rw[e1,e2 _ (lC _ #[])];rfl
def IV(b:Bytes):crc b=(b.foldl (λ(s c:Nat)=>half (half (s^^^c))) NONE)^^^NONE:=by unfold crc;congr 2;funext s c;rw[<-xY,<-xY];rfl
end My
namespace My
open Ql73
def half_lt(h:x<2^32):half x<2^32:=by
 unfold half;apply A6
 .lia
 .have e:∀r,r<16->zh.getD r 0<2^32:=#[];exact e _ (lC _ #[])
def Xv(h:∀x∈b,x<256):crc b<2^32:=by
 rw[IV];have key:∀(l:Bytes)(s:Nat),(∀x∈l,x<256)->s<2^32->l.foldl (λ(s c:Nat)=>half (half (s^^^c))) s<2^32:=by
  intro l;induction l with
  |nil=>intro s _ hs;exact hs
  |cons c l ih=>intro s hc hs;rw[iU];refine ih _ (λx hx=>hc x (bo _ hx)) (half_lt (half_lt (A6 hs ?_)));have:=hc c bI;lia
 exact A6 (key b NONE h #[]) #[]
def N0(h:∀x∈b,x<256):digest b=[crc b%256,crc b/256%256,crc b/65536%256,crc b/16777216]:=by
 have hl:=Xv h;unfold digest;generalize crc b=c at hl;have e:bytes 4 c=[c/256^3%256,c/256^2%256,c/256^1%256,c/256^0%256]:=rfl;rw[e];have e1:c/256^3%256=c/16777216:=by show c/16777216%256=c/16777216;lia
 have e2:c/256^0%256=c%256:=by rw[Nat.pow_zero,Nat.div_one]
 rw[e1,e2];rfl
end My
namespace My
open PySem PySem.Spec PyProof.Rows L2
def nV(b:List Nat):List V:=b.map λ(x:Nat)=>V.int (x:Int)
def bA(b:List Nat):(nV b).length=b.length:=by unfold nV;rw[aK]
def jB(a b:List Nat):nV (a++b)=nV a++nV b:=by unfold nV;rw[bW]
def zi{b:List Nat}{i:Nat}{y:V}(h:(nV b)[i]? =some y):∃z:Nat,b[i]? =some z/\y=V.int z:=by
 unfold nV at h;rw[bz]at h;cases e:b[i]? with
 |none=>rw[e]at h;cases h
 |some z=>rw[e]at h;nomatch z,rfl,(af h).symm
def QV{b:List Nat}{i z:Nat}(h:b[i]? =some z):(nV b)[i]? =some (V.int z):=by unfold nV;rw[bz,h];rfl
def qv(b:List Nat)(i z:Nat):(nV b).set i (V.int z)=nV (b.set i z):=by unfold nV;rw[M_]
def zj(b:List Nat)(p n:Nat):jv (nV b) (some (p:Int)) (some ((p:Int)+(n:Int)))=nV (aD b p n):=by
 unfold jv aD nV;have e:((p:Int)+(n:Int))=((p+n:Nat):Int):=rfl;rw[e,HT.pU,HT.pU,aK,sQ,sR];by_cases h:p<=b.length
 .rw[dM h];by_cases h2:p+n<=b.length
  .rw[dM h2,Na]
  .rw[jb ()];rw[cA (by simp),cA (by simp;lia)]
 .rw[jb ()];rw[gg (by simp;lia),gg (by simp;lia)];simp
def gU(a:aB)(H H':Hp):Prop:=∀b o,H b=some o->b≠a->H' b=some o
def gU.refl(a:aB)(H:Hp):gU a H H:=λ_ _ h _=>h
theorem gU.upd(x:gU a H H1)(o:HO):gU a H (upd H1 a o):=λb u h n=>by rw[aG n];exact x b u h n
def gU.new(x:gU a H H1)(hp:H1 p=none)(o:HO):gU a H (L2.upd H1 p o):=λb u h n=>by have e:=x b u h n;rw[aG (ai e hp)];exact e
def aS(x:a_ H H1)(hp:H1 p=none)(o:HO):a_ H (L2.upd H1 p o):=λb u h=>by have e:=x b u h;rw[aG (ai e hp)];exact e
variable{P:cq}{w:dH}{K:aq}{mg:bL->Option aM}{aR:gD}{C:Cl}
variable(T:Txt P w K mg C)
inductive Gv(K:aq)(vs:List V)(H:Hp)(Q:VK)(kn:XK):Prop
 |mk(a:aB)(b:List Nat)(p n:Nat)(_:vs=[.ref a,.int p,.int n])(_:fT K H a (nV b))(_:∀H',a_ H H'->Q (.int (ax b p n:Nat)) H')
def dY:T.zY.D P w aR 1 (Gv K):=by
 refine T.zY.ok ?_;kd_p
 .obtain⟨a,b,p,n,rfl,hb,k⟩:=h;exists _,aa (cJ 3 nd au) (aa (mY d9 rfl (kI (ej fV b4 (cS cC) (cS (bO eJ cC fF)))) (Cc 4 nd) (aj (cJ 3 nd (bO eJ (bO wo gQ au) kS)))) (aj (aP gQ)));nomatch I,I,I,I,I,J,I,a,nV b,rfl,hb,λl hl=>?_
  rw[zj];nomatch l,rfl,⟨_,fT.of ae⟩,ma (K:=K) (a:=l) (xs:=nV (aD b p n)) (λi σ H'=>∃v4:Option V,σ=[some (.ref a),some (.int p),some (.int n),some (.int (((aD b p n).take i).foldl (λv c=>256*v+c) 0:Nat)),v4]/\H'=upd H l (.lst (nV (aD b p n)))) ⟨none,rfl,rfl⟩ (λi σ H' _⟨_,_,e⟩=>by rw[e];exact fT.of ae) ?_ ?_
  .rintro i y σ H' hi ⟨v4,rfl,rfl⟩;obtain⟨z,hz,rfl⟩:=zi hi;exists I,J,.inr ⟨#[],#[]⟩,I,J;nomatch some (.int z),?_,rfl
   rw[fP,hz,si];simp only[Pw,iU,List.foldl_nil,Option.toList_some];have e2:(((Ao (λv c=>256*v+c) 0 (List.take i (aD b p n)):Nat):Int)*256+(z:Int))=((256*Ao (λv c=>256*v+c) 0 (List.take i (aD b p n))+z:Nat):Int):=();rw[e2]
  .rintro σ H' ⟨v4,rfl,rfl⟩;exists I;have e:((aD b p n).take (nV (aD b p n)).length)=aD b p n:=by rw[bA,gJ]
   rw[e];exact k _ (aS (a_.refl H) hl _)
inductive Ea(vs:List V)(H:Hp)(Q:VK)(kn:XK):Prop
 |mk(a:aB)(b:List Nat)(p n v:Nat)(_:vs=[.ref a,.int p,.int n,.int v])(_:H a=some (.lst (nV b)))(_:p+n<=b.length)(_:n<=48)(_:Q .eY (upd H a (.lst (nV (put b p (aY n v))))))
def cH:T.xC.D P w aR 1 Ea:=by
 refine T.xC.ok ?_;kd_p
 .obtain⟨a,b,p,n,v,rfl,ha,hp,hn,k⟩:=h;exists _,(aa (cJ 4 nd gQ) (aj (mY d9 rfl (ES rfl T.Gu (fN fF)) (Cc 5 nd) (aa (j8 (bO yU kS au) (j7 b4 (bO md (bO md (bO eJ cC fF) au) zV) set_list)) (aj (cJ 4 nd (bO uI kS au)))))));nomatch I,I,n,rfl,(),(),ET (n:=n) (λi σ H'=>∃v5:Option V,σ=[some (.ref a),some (.int p),some (.int n),some (.int v),some (.int (v/256^i:Nat)),v5]/\H'=upd H a (.lst (nV (D9 b (p+n) v i)))) ⟨none,?_,?_⟩ ?_ ?_
  .simp only [L2.start,Pw,Nat.pow_zero,Nat.div_one];rfl
  .funext c;unfold upd D9;split
   .rename_i e;rw[e,ha]
   .rfl
  .rintro i σ H' hi ⟨v5,rfl,rfl⟩;have hi:i<n:=by simpa using hi
   exists I,J,(by show(0:Int)<256;decide);exists I,I,I,J,J,I,J,a,_,_,p+n-1-i,rfl,rfl,ae,?_
   .unfold F5;rw[bA,ug,iP (),iP ()];congr 1;lia
   exists I,J,⟨#[],#[]⟩;exists some (.int (0+(i:Int))),?_
   .simp only [Pw];congr 7;rw[Nat.pow_succ,<-Nat.div_div_eq_div_mul];rfl
   .rw[bS];congr 2;rw[D9];have e:((v/256^i:Nat):Int)%256=((v/256^i%256:Nat):Int):=rfl;show Pw _ _ (V.int (((v/256^i:Nat):Int)%256))=_;rw[e,qv]
  .rintro σ H' ⟨v5,rfl,rfl⟩;have e:((n:Int)).toNat=n:=rfl;rw[QU hp];exact k
inductive Eb(K:aq)(vs:List V)(H:Hp)(Q:VK)(kn:XK):Prop
 |mk(a c:aB)(b r:List Nat)(p:Nat)(_:vs=[.ref a,.int p,.ref c])(_:H a=some (.lst (nV b)))(_:fT K H c (nV r))(_:c≠a)(_:p+r.length<=b.length)(_:∀H',H' a=some (.lst (nV (put b p r)))->gU a H H'->Q .eY H')
inductive Cu(vs:List V)(H:Hp)(Q:VK)(kn:XK):Prop
 |mk(n:Nat)(_:vs=[.int n])(_:Q (.int ((n+3)/4*4:Nat)) H)
def vW:T.vA.D P w aR 1 Cu:=by
 refine T.vA.ok ?_;kd_p
 .obtain⟨n,rfl,k⟩:=h;exists _,(aj (aP (bO wo (bO uI (bO eJ b4 au) au) au)));exists I,J,J,⟨#[],#[]⟩,J,.inr ⟨#[],#[]⟩;exact k
def QW{K:aq}{a:aB}{xs:List V}{g:TG}{tb:TS}{D:Ends}{σ:L2.St}{H:Hp}(Pv:Nat->L2.St->Hp->Prop)(h0:Pv 0 σ H)(hl:∀i σ H,i<=xs.length->Pv i σ H->fT K H a xs) (hs:∀i x σ H T,xs[i]? =some x->H T=none->Pv i σ H->g (.ref T) σ (upd H T (.tup [.int (i:Nat),x])) fun σ2 H2=>tb {D with nx:=Pv (i+1),ct:=Pv (i+1),bk:=D.nx} σ2 H2) (hd:∀σ H,Pv xs.length σ H->D.nx σ H): ∃W:Nat->Nat->L2.St->Hp->Prop,(∃m,W 0 m σ H)/\∀i m σ H,W i m σ H-> ((Ite K a).stop i H/\D.nx σ H)\/((Ite K a).go i H/\∃N:L2.St->Hp->Prop,(∀σ' H',N σ' H'->∃m',m'<m/\W (i+1) m' σ' H')/\∀x H',(Ite K a).Tw i H x H'->g x σ H' fun σ2 H2=>tb {D with nx:=N,ct:=N,bk:=D.nx} σ2 H2):=by
 exists λi m σ H=>m=xs.length-i/\i<=xs.length/\Pv i σ H,⟨xs.length,by simp,bQ _,h0⟩;rintro i m σ H ⟨rfl,hi,p⟩;have q:=hl i σ H hi p;by_cases oB:i<xs.length
 .refine .inr ⟨⟨xs,xs[i],q,by simp[oB]⟩,Pv (i+1),fun σ' H' p'=>⟨xs.length-(i+1),(),rfl,oB,p'⟩,λx H' y=>?_⟩;obtain⟨T,x',rfl,hT,rfl,y⟩:=y;exact hs i x' σ H T (y xs q) hT p
 .have e:i=xs.length:=();subst e;exact .inl ⟨⟨xs,q,bw _⟩,hd σ H p⟩
def Xw{x:bL}{g:TG}{tt:TT}{te:TE}{vs:List Nat}{σ:L2.St}{H1:Hp}{D:aB}{Qd:Hp->Prop}(Pv:Nat->Hp->Prop)(h0:Pv 0 (upd H1 D (.lst []))) (hs:∀i c H,x.cps[i]? =some c->Pv i H->g (.str ⟨#[c]⟩) (wipe σ vs) H fun σ2 H2=>wipe σ2 vs=wipe σ vs/\tt σ2 H2 λb H3=>if b=true then te σ2 H3 λy H4=>∃acc,H4 D=some (.lst acc)/\acc.length<aH/\Pv (i+1) (upd H4 D (.lst (acc++[y])))else Pv (i+1) H3) (hd:∀H,Pv x.cps.size H->Qd H): ∃W:Nat->Nat->Hp->Prop,(∃m,W 0 m (upd H1 D (.lst [])))/\∀i m H,W i m H-> ((Its x).stop i H/\Qd H)\/((Its x).go i H/\∃Nx:Hp->Prop,(∀H',Nx H'->∃m',m'<m/\W (i+1) m' H')/\∀y H',(Its x).Tw i H y H'->g y (wipe σ vs) H' fun σ2 H2=>wipe σ2 vs=wipe σ vs/\tt σ2 H2 λb H3=>if b=true then te σ2 H3 λy H4=>∃acc,H4 D=some (.lst acc)/\acc.length<aH/\Nx (upd H4 D (.lst (acc++[y])))else Nx H3):=by
 exists λi m H=>m=x.cps.size-i/\i<=x.cps.size/\Pv i H,⟨x.cps.size,by simp,bQ _,h0⟩;rintro i m H ⟨rfl,hi,p⟩;by_cases oB:i<x.cps.size
 .refine .inr ⟨oB,Pv (i+1),λH' p'=>⟨x.cps.size-(i+1),(),rfl,oB,p'⟩,λy H' z=>?_⟩;obtain⟨rfl,c,hc,rfl⟩:=z;exact hs i c _ hc p
 .have e:i=x.cps.size:=();subst e;exact .inl ⟨bw _,hd H p⟩
def Gw(H:Hp)(Q:VK)(b:List Nat):Prop:=∀H' p,H p=none->H' p=some (.lst (nV b))->a_ H H'->Q (.ref p) H'
def kM:T.xD.D P w aR 1 (Eb K):=by
 refine T.xD.ok ?_;kd_p
 .obtain⟨a,c,b,r,p,rfl,ha,hc,sU,hp,k⟩:=h;exists _,(aj (mY d9 rfl (T9 rfl T.IS (fN fF)) (F0 rfl (nL (Cc 3 nd) (nL (Cc 4 nd) A8))) (aj (j8 kS (j7 b4 (bO eJ cC gQ) set_list)))));have hcB:∀H',gU a H H'->fT K H' c (nV r):=λH' hB=>by
   rcases hc with(h|⟨o,h⟩)|h
   .exact .inl (.inl (hB _ _ h sU))
   .exact .inl (.inr ⟨o,hB _ _ h sU⟩)
   .exact .inr h
  nomatch I,c,I,hc,QW (K:=K) (a:=c) (xs:=nV r) (λi σ H'=>∃v3 v4:Option V,σ=[some (.ref a),some (.int p),some (.ref c),v3,v4]/\H' a=some (.lst (nV (put b p (r.take i))))/\gU a H H') ⟨none,none,rfl,?_,gU.refl a H⟩ (λi σ H' _⟨_,_,_,_,hB⟩=>hcB H' hB) ?_ ?_
  .rw[ha,List.take_zero];unfold put;simp
  .rintro i y σ H' Tt hi hT ⟨v3,v4,rfl,QX,hB⟩;obtain⟨z,hz,rfl⟩:=zi hi;have hir:i<r.length:=(aE.mp hz).1;have haT:a≠Tt:=ai QX hT;have hlen:(put b p (r.take i)).length=b.length:=iA (by rw[bf];lia);exists Tt,I,l_.of ae,rfl,_,I,J;exists I,I,I,I,J,a,_,_,p+i,rfl,rfl,(by rw[aG haT];exact QX),?_
   .unfold F5;rw[bA,hlen,iP (),iP ()];rfl
   .nomatch _,I,?_,(hB.new hT _).upd _
    rw[ae];show some (HO.lst ((nV (put b p (r.take i))).set (p+i) (V.int z)))=_;rw[qv];congr 3;apply fO;intro j;rw[bC,hlen,mq (by rw[bf];lia),mq (by rw[bf];lia),bf,bf];by_cases hj:p+i=j
    .subst hj;rw[iP rfl,iP (),iP (),d7 (),show p+i-p=i by lia,hz]
    .rw[iN hj];by_cases h2:p<=j/\j<p+min i r.length
     .rw[iP h2,iP (),d7 (),d7 ()]
     .rw[iN h2,iN ()]
  .rintro σ H' ⟨v3,v4,rfl,QX,hB⟩;rw[bA,gJ]at QX;exact k H' QX hB
inductive N1(vs:List V)(H:Hp)(Q:VK)(kn:XK):Prop
 |mk(a:aB)(b:List Nat)(_:vs=[.ref a])(_:Rd H a (.lst (nV b)))(_:b.length+4<=aH)(_:Gw H Q (sj b))
def Rd.same(h:Rd H a u)(s:a_ H H'):Rd H' a u:=by
 rcases h with h|⟨o,h⟩
 .exact .inl (s _ _ h)
 .exact .inr ⟨o,s _ _ h⟩
def Cv(n:Nat):(aQ n [V.int 0]).flatten=nV (aQ n 0):=by
 induction n with
 |zero=>rfl
 |succ n ih=>rw[jN,fi,ih];rfl
def QY:T.Iw.D P w aR 2 N1:=by
 refine T.Iw.ok ?_;kd_p
 .obtain⟨a,b,rfl,ha,hl,k⟩:=h;exists _,(aj (aP (bO oS b4 (bO tK (dN (fN au)) (bO md (aI (vW T) (fN (bZ cV (by rfl) T.gT wX (fN b4)))) (bZ cV (by rfl) T.gT wX (fN b4)))))));nomatch I,(by show 1<=aH;decide),λp1 h1=>?_
  have s1:a_ H (upd H p1 (.lst [V.int 0])):=aS (a_.refl H) h1 _;exists I,_,b.length,rfl,.inl ⟨nV b,(Rd.same ha s1).sq,by rw[bA]⟩,b.length,rfl,I,_,b.length,rfl,.inl ⟨nV b,(Rd.same ha s1).sq,by rw[bA]⟩,J;have ek:(((b.length+3)/4*4:Nat):Int)-(b.length:Int)=(((b.length+3)/4*4-b.length:Nat):Int):=();dsimp only;rw[ek];nomatch p1,J,ae,(),by have:(aH:Nat)=16777216:=sizeLine_eq;lia,by show 1*((b.length+3)/4*4-b.length)<=aH;lia,λp2 h2=>?_
  have s2:=aS s1 h2 (.lst (aQ (((b.length+3)/4*4-b.length:Nat):Int).toNat [V.int 0]).flatten);have e0:(aQ (((b.length+3)/4*4-b.length:Nat):Int).toNat [V.int 0]).flatten=nV (aQ ((b.length+3)/4*4-b.length) 0):=Cv _;nomatch a,p2,nV b,nV (aQ ((b.length+3)/4*4-b.length) 0),rfl,rfl,Rd.same ha s2,.inl (by rw[ae,e0]),by rw[bA,bA,dQ];lia,λp3 h3=>?_
  refine k _ p3 (s2.free h3) ?_ (aS s2 h3 _);rw[ae,<-jB];unfold sj;rw[show(4-b.length%4)%4=(b.length+3)/4*4-b.length by lia]
def Xx:bootBuiltins "ord"=some (.builtin "ord"):=by decide+kernel
inductive xZ(vs:List V)(H:Hp)(Q:VK)(kn:XK):Prop
 |mk(x:bL)(_:vs=[.str x])(_:x.length<aH)(_:Gw H Q (TL.tl x))
def uh:T.zZ.D P w aR 1 xZ:=by
 refine T.zZ.ok ?_;kd_p
 .obtain⟨x,rfl,hl,k⟩:=h;exists _,(aj (aP (Mn (own:=[("sign",1)]) rfl nd (Xd b4) (show vt ["text","sign"] (cW Iv) _ _ from⟨rfl,by decide+kernel,by decide+kernel,by decide+kernel,by decide+kernel⟩) (λs H C cl fp=>Cc 1 nd) (λs H C cl fp=>uK) (λs H C cl fp=>bZ P1 (by rfl) T.aaG Xx (fN cC)))));nomatch I,x,rfl,λD hD=>Xw (λi H'=>H' D=some (.lst (nV ((TL.tl x).take i)))/\a_ H H') ⟨ae,aS (a_.refl H) hD _⟩ ?_ ?_
  .rintro i c H' hc ⟨h1,h2⟩;have HC:(TL.tl x)[i]? =some c:=by show x.cps.toList[i]? =some c;rw[Array.getElem?_toList];exact hc
   have hi:i<(TL.tl x).length:=(aE.mp HC).1;exists rfl;exists I,I,rfl;nomatch _,h1,by rw[bA,bf];rw[TL.n9]at hl;lia,ae.trans ?_,λb o e=>by rw[aG (ai e hD)];exact h2 b o e
   rw[fP,HC,jB];rfl
  .rintro H' ⟨h1,h2⟩;have e:(TL.tl x).take x.cps.size=TL.tl x:=cA (by simp[TL.tl]);rw[e]at h1;exact k H' D hD h1 h2
def gG{c A B:Prop}[Decidable c](h1:c->A)(h2:¬c->B):if decide c=true then A else B:=by
 by_cases h:c
 .rw[iP (decide_eq_true h)];exact h1 h
 .rw[iN (by rw[decide_eq_false h];decide)];exact h2 h
def fq(z:Nat):Nat:=if 44<=z/\z<123 then z else 32
inductive Cw(vs:List V)(H:Hp)(Q:VK)(kn:XK):Prop
 |mk(z:Nat)(_:vs=[.int z])(_:Q (.str ⟨#[fq z]⟩) H)
def signs_at:∀i,i<79->(ay ",-./0123456789:;<=>?@ABCDEFGHIJKLMNOPQRSTUVWXYZ[\\]^_`abcdefghijklmnopqrstuvwxyz").cps.toList[i]? =some (44+i):=by decide+kernel
def zk:(ay ",-./0123456789:;<=>?@ABCDEFGHIJKLMNOPQRSTUVWXYZ[\\]^_`abcdefghijklmnopqrstuvwxyz").length=79:=by decide+kernel
def N2:T.Fc.D P w aR 1 Cw:=by
 refine T.Fc.ok ?_;kd_p
 .obtain⟨z,rfl,k⟩:=h;exists _,(aa (cJ 1 nd (bO md b4 (aU T.Gj))) (aa (bH (xk zO tH au cC (bZ cV (by rfl) T.gT wX (fN (zc T.MF)))) (aj (aP (fE P_ (zc T.MF) cC (λ_ _=>rfl)))) aZ) (aj (aP dS))));exists I,J;exists I,J,I;have e44:((λi j=>V.int (i-j)) (z:Int) 44)=V.int ((z:Int)-44):=rfl;refine gG (λh1=>?_) (λh1=>?_)
  .have h1:(0:Int)<=(z:Int)-44:=h1;exists _,79,rfl,⟨by rw[zk];decide,by rw[zk]⟩,J,I;refine gG (λh2=>?_) (λh2=>?_)
   .have h2:(z:Int)-44<79:=h2;exists I,_,_,44+(z-44),rfl,rfl,by rw[zk];decide,?_
    .rw[show(z:Int)-44=((z-44:Nat):Int) by lia];exact cM (signs_at _ ())
    .have e:fq z=44+(z-44):=by unfold fq;rw[iP ()];lia
     rw[e]at k;exact k
   .have h2:¬(z:Int)-44<79:=h2;have e:fq z=32:=by unfold fq;rw[iN ()]
    rw[e]at k;exact k
  .have h1:¬(0:Int)<=(z:Int)-44:=h1;exists I;have e:fq z=32:=by unfold fq;rw[iN ()]
   rw[e]at k;exact k
inductive K3(K:aq)(vs:List V)(H:Hp)(Q:VK)(kn:XK):Prop
 |mk(a:aB)(b:List Nat)(_:vs=[.ref a])(_:fT K H a (nV b))(_:b.length<16777216)(_:∀H',a_ H H'->Q (.str ⟨(b.map fq).toArray⟩) H')
inductive N3(K:aq)(vs:List V)(H:Hp)(Q:VK)(kn:XK):Prop
 |mk(a:aB)(b:List Nat)(_:vs=[.ref a])(_:fT K H a (nV b))(_:Q (.int (xa b:Nat)) H)
def Gx(x y:Nat):vm (x:Int) (y:Int)=((x^^^y:Nat):Int):=by rw[Ie.NC () ()];rfl
def aaJ(x:Nat):cj (x:Int) 15=((x%16:Nat):Int):=by have h:=Ie.nM (x:=(x:Int)) 4 ();exact h
def K4(x:Nat):cj (x:Int) 255=((x%256:Nat):Int):=by have h:=Ie.nM (x:=(x:Int)) 8 ();exact h
def MK:List V:=[V.int 0,V.int 274646895,V.int 549293790,V.int 820201905,V.int 1098587580,V.int 1361435347,V.int 1640403810,V.int 1905808397,V.int 2197175160,V.int 2460548119,V.int 2722870694,V.int 2987750089,V.int 3280807620,V.int 3553878443,V.int 3811616794,V.int 4084100981]
def N4:∀i,i<16->MK[i]? =some (V.int (zh.getD i 0:Nat)):=#[]
def QZ:T.Iy.D P w aR 1 (N3 K):=by
 refine T.Iy.ok ?_;kd_p
 .obtain⟨a,b,rfl,hb,k⟩:=h;exists _,(aa (cJ 1 nd (aU T.Cn)) (aa (mY d9 rfl (kI b4) (Cc 2 nd) (aa (cJ 1 nd (bO F1 cC fF)) (aa (cJ 1 nd (bO F1 (bO yV cC au) (fE yY (qr T.II) (bO jJ cC au) (λ_ _=>rfl)))) (aj (cJ 1 nd (bO F1 (bO yV cC au) (fE yY (qr T.II) (bO jJ cC au) (λ_ _=>rfl)))))))) (aj (aP (bO F1 cC (aU T.Cn))))));nomatch I,a,rfl,⟨_,hb⟩,ma (K:=K) (a:=a) (xs:=nV b) (λi σ H'=>∃v2:Option V,σ=[some (.ref a),some (.int ((b.take i).foldl (λ(s c:Nat)=>half (half (s^^^c))) mJ:Nat)),v2]/\H'=H) ⟨none,rfl,rfl⟩ (λi σ H' _⟨_,_,e⟩=>by rw[e];exact hb) ?_ ?_
  .rintro i y σ H' hi ⟨v2,rfl,rfl⟩;obtain⟨z,hz,rfl⟩:=zi hi;generalize hr':(b.take i).foldl (λ(s c:Nat)=>half (half (s^^^c))) mJ=r;have step:∀x:Nat,P9 MK (cj (x:Int) 15)=some (V.int (zh.getD (x%16) 0:Nat)):=λx=>by rw[aaJ];exact cM (N4 _ (lC _ #[]))
   have fin:∀x:Nat,vm ((x:Int)/2^(4:Int).toNat) ((zh.getD (x%16) 0:Nat):Int)=((half x:Nat):Int):=λx=>by have e:(x:Int)/2^(4:Int).toNat=((x/16:Nat):Int):=rfl;rw[e,Gx];rfl
   exists I,I,J;dsimp only;rw[Gx];nomatch I,J,(by show(0:Int)<=4;decide),λah Zc=>?_
   exists I,J,ah,_,J,Zc,step _,J;dsimp only;rw[fin];nomatch I,J,(by show(0:Int)<=4;decide),λah2 adU=>?_
   exists I,J,ah2,_,J,adU,step _,J;dsimp only;rw[fin];nomatch some (.int z),?_,rfl
   rw[fP,hz,si,hr'];rfl
  .rintro σ H' ⟨v2,rfl,rfl⟩;rw[bA,gJ];exists I,J;dsimp only;have e:(4294967295:Int)=((mJ:Nat):Int):=rfl;rw[e,Gx,<-IV];exact k
inductive Fm(K:aq)(vs:List V)(H:Hp)(Q:VK)(kn:XK):Prop
 |mk(a:aB)(b:List Nat)(_:vs=[.ref a])(_:fT K H a (nV b))(_:(∀x∈b,x<256))(_:Gw H Q (ke b))
def Cy:T.Iz.D P w aR 2 (Fm K):=by
 refine T.Iz.ok ?_;kd_p
 .obtain⟨a,b,rfl,hb,hx,k⟩:=h;exists _,(aa (cJ 1 nd (aI (QZ T) (fN b4))) (aj (aP (dN (va (bO jJ cC au) (bO jJ (bO yV cC au) au) (bO jJ (bO yV cC au) au) (bO yV cC au))))));exists I,a,b,rfl,hb;nomatch I,J,I,J,(by show(0:Int)<=8;decide),J,I,J,(by show(0:Int)<=16;decide),J,I,J,(by show(0:Int)<=24;decide),(by show 4<=aH;decide),λp hp=>?_
  refine k _ p hp (ae.trans ?_) (aS (a_.refl H) hp _);rw[N0 hx];have e8:((xa b:Nat):Int)/2^(8:Int).toNat=((xa b/256:Nat):Int):=rfl;have e16:((xa b:Nat):Int)/2^(16:Int).toNat=((xa b/65536:Nat):Int):=rfl;have e24:((xa b:Nat):Int)/2^(24:Int).toNat=((xa b/16777216:Nat):Int):=rfl;rw[e8,e16,e24,K4,K4,K4];rfl
inductive Ec(vs:List V)(H:Hp)(Q:VK)(kn:XK):Prop
 |mk(x y:Nat)(_:vs=[.int x,.int y])(_:Gw H Q (cw [(0,[x,y])]))
def jf:T.xG.D P w aR 1 Ec:=by
 refine T.xG.ok ?_;kd_p
 .obtain⟨x,y,rfl,k⟩:=h;exists _,(aa (cJ 2 nd (bO tK (dN (fN au)) (aU T.h_))) (aa (j8 b4 (j7 fF au set_list)) (aa (j8 cC (j7 fF au set_list)) (aj (aP fF)))));nomatch(by show 1<=aH;decide),λp1 h1=>⟨p1,48,_,rfl,rfl,ae,#[],#[],by show 1*48<=aH;decide,λp2 h2=>?_⟩
  have s1:a_ H (upd H p1 (.lst [V.int 0])):=aS (a_.refl H) h1 _;exists I,I,p2,_,_,0,rfl,rfl,ae,rfl;exists I,I,p2,_,_,1,rfl,rfl,ae,rfl;exists I;rw[bS,bS];exact k _ p2 (s1.free h2) (ae.trans rfl) (aS s1 h2 _)
inductive IW(vs:List V)(H:Hp)(Q:VK)(kn:XK):Prop
 |mk(x y:Nat)(_:vs=[.int x,.int y])(_:Gw H Q (dT x y 0))
def rR:T.Cg.D P w aR 1 IW:=by
 refine T.Cg.ok ?_;kd_p
 .obtain⟨x,y,rfl,k⟩:=h;exists _,(aa (cJ 2 nd (bO tK (dN (fN au)) (aU T.Gk))) (aa (j8 au (j7 fF au set_list)) (aa (j8 b4 (j7 fF au set_list)) (aa (j8 au (j7 fF au set_list)) (aa (j8 cC (j7 fF au set_list)) (aj (aP fF)))))));nomatch(by show 1<=aH;decide),λp1 h1=>⟨p1,18,_,rfl,rfl,ae,#[],#[],by show 1*18<=aH;decide,λp2 h2=>?_⟩
  have s1:a_ H (upd H p1 (.lst [V.int 0])):=aS (a_.refl H) h1 _;exists I,p2,_,_,0,rfl,rfl,ae,rfl;exists I,I,p2,_,_,2,rfl,rfl,ae,rfl;exists I,p2,_,_,7,rfl,rfl,ae,rfl;exists I,I,p2,_,_,12,rfl,rfl,ae,rfl;exists I;rw[bS,bS,bS,bS];exact k _ p2 (s1.free h2) (ae.trans rfl) (aS s1 h2 _)
def zl:Option Nat->V
 |none=>.eY
 |some n=>.int n
structure aV where
 line:Nat
 closed:Bool
 held:aB
 stage:Option Nat
 count:Nat
 cmd:Nat
 last:Nat
 anew:Bool
 ja:aB
 gV:aB
 cD:aB
def aV.fs(s:aV):List (bL×V):=[("line",V.int s.line),("closed",V.bl s.closed),("held",V.ref s.held),("stage",zl s.stage),("count",V.int s.count),("command_number",V.int s.cmd),("last_asked",V.int s.last),("anew",V.bl s.anew),("settings",V.ref s.ja),("seen_keys",V.ref s.gV),("tasks",V.ref s.cD)]
def aV.Q0(s:aV):s.fs.lookup ("line":bL)=some (V.int s.line):=rfl
def aV.Cz(s:aV):s.fs.lookup ("closed":bL)=some (V.bl s.closed):=rfl
def aV.Q1(s:aV):s.fs.lookup ("held":bL)=some (V.ref s.held):=rfl
def aV.rS(s:aV):s.fs.lookup ("stage":bL)=some (zl s.stage):=rfl
def aV.Bf(s:aV):s.fs.lookup ("count":bL)=some (V.int s.count):=rfl
def aV.IX(s:aV):s.fs.lookup ("command_number":bL)=some (V.int s.cmd):=rfl
def aV.CA(s:aV):s.fs.lookup ("last_asked":bL)=some (V.int s.last):=rfl
def aV.K5(s:aV):s.fs.lookup ("anew":bL)=some (V.bl s.anew):=rfl
def aV.rT(s:aV):s.fs.lookup ("settings":bL)=some (V.ref s.ja):=rfl
def aV.Gy(s:aV):s.fs.lookup ("seen_keys":bL)=some (V.ref s.gV):=rfl
def aV.mr(s:aV):s.fs.lookup ("tasks":bL)=some (V.ref s.cD):=rfl
def aV.Q2(s:aV)(x:Bool):fm ("closed":bL) (V.bl x) s.fs=aV.fs {s with closed:=x}:=rfl
def aV.Xy(s:aV)(x:aB):fm ("held":bL) (V.ref x) s.fs=aV.fs {s with held:=x}:=rfl
def aV.aaK(s:aV)(x:Nat):fm ("command_number":bL) (V.int x) s.fs=aV.fs {s with cmd:=x}:=rfl
def aV.K6(s:aV)(x:Bool):fm ("anew":bL) (V.bl x) s.fs=aV.fs {s with anew:=x}:=rfl
def aV.Q3(s:aV)(x:aB):fm ("tasks":bL) (V.ref x) s.fs=aV.fs {s with cD:=x}:=rfl
def aV.len(s:aV):s.fs.length<1000:=by show 11<1000;decide
def qw(C:Cl)(H:Hp)(a:aB)(s:aV):Prop:=∃dx,H a=some (.ins C.Session dx s.fs)
structure cf where
 marks:Nat
 aw:aB
 tag:Nat
 size:Nat
 ah:aB
 ad:aB
 asked:Nat
 number:Nat
 limit:Nat
 pieces:Nat
def cf.fs(s:cf):List (bL×V):=[("marks",V.int s.marks),("where",V.ref s.aw),("tag",V.int s.tag),("size",V.int s.size),("what",V.ref s.ah),("data",V.ref s.ad),("asked",V.int s.asked),("number",V.int s.number),("limit",V.int s.limit),("pieces",V.int s.pieces)]
def cf.Bg(s:cf):s.fs.lookup ("marks":bL)=some (V.int s.marks):=rfl
def cf.Xz(s:cf):s.fs.lookup ("where":bL)=some (V.ref s.aw):=rfl
def cf.CB(s:cf):s.fs.lookup ("tag":bL)=some (V.int s.tag):=rfl
def cf.m4(s:cf):s.fs.lookup ("size":bL)=some (V.int s.size):=rfl
def cf.N5(s:cf):s.fs.lookup ("what":bL)=some (V.ref s.ah):=rfl
def cf.CC(s:cf):s.fs.lookup ("data":bL)=some (V.ref s.ad):=rfl
def cf.Bh(s:cf):s.fs.lookup ("asked":bL)=some (V.int s.asked):=rfl
def cf.x3(s:cf):s.fs.lookup ("number":bL)=some (V.int s.number):=rfl
def cf.ML(s:cf):s.fs.lookup ("limit":bL)=some (V.int s.limit):=rfl
def cf.CD(s:cf):s.fs.lookup ("pieces":bL)=some (V.int s.pieces):=rfl
def cf.Q4(s:cf)(x:Nat):fm ("number":bL) (V.int x) s.fs=cf.fs {s with number:=x}:=rfl
def cf.Ut(s:cf)(x:Nat):fm ("limit":bL) (V.int x) s.fs=cf.fs {s with limit:=x}:=rfl
def cf.len(s:cf):s.fs.length<1000:=by show 10<1000;decide
def jo(C:Cl)(H:Hp)(a:aB)(s:cf):Prop:=∃dx,H a=some (.ins C.Task dx s.fs)
structure jg where
 disk:aB
 bT:aB
 aW:aB
 most:Nat
 eZ:aB
def jg.fs(s:jg):List (bL×V):=[("disk",V.ref s.disk),("sessions",V.ref s.bT),("session",V.ref s.aW),("most",V.int s.most),("sent",V.ref s.eZ)]
def jg.CF(s:jg):s.fs.lookup ("disk":bL)=some (V.ref s.disk):=rfl
def jg.jq(s:jg):s.fs.lookup ("sessions":bL)=some (V.ref s.bT):=rfl
def jg.eA(s:jg):s.fs.lookup ("session":bL)=some (V.ref s.aW):=rfl
def jg.XA(s:jg):s.fs.lookup ("most":bL)=some (V.int s.most):=rfl
def jg.CG(s:jg):s.fs.lookup ("sent":bL)=some (V.ref s.eZ):=rfl
def Q5(C:Cl)(H:Hp)(a:aB)(s:jg):Prop:=∃dx,H a=some (.ins C.Turn dx s.fs)
structure jt where
 written:aB
 blank:aB
def jt.fs(s:jt):List (bL×V):=[("written",V.ref s.written),("blank",V.ref s.blank)]
def jt.l_written(s:jt):s.fs.lookup ("written":bL)=some (V.ref s.written):=rfl
def jt.Uu(s:jt):s.fs.lookup ("blank":bL)=some (V.ref s.blank):=rfl
def jt.N6(s:jt)(x:aB):fm ("written":bL) (V.ref x) s.fs=jt.fs {s with written:=x}:=rfl
def jt.len(s:jt):s.fs.length<1000:=by show 2<1000;decide
def XB(C:Cl)(H:Hp)(a:aB)(s:jt):Prop:=∃dx,H a=some (.ins C.Disk dx s.fs)
structure mv where
 sense:V
 rows:aB
 written:Nat
def mv.fs(s:mv):List (bL×V):=[("sense",s.sense),("rows",V.ref s.rows),("written",V.int s.written)]
def mv.MM(s:mv):s.fs.lookup ("sense":bL)=some (s.sense):=rfl
def mv.Q6(s:mv):s.fs.lookup ("rows":bL)=some (V.ref s.rows):=rfl
def mv.l_written(s:mv):s.fs.lookup ("written":bL)=some (V.int s.written):=rfl
def wy(C:Cl)(H:Hp)(a:aB)(s:mv):Prop:=∃dx,H a=some (.ins C.Outcome dx s.fs)
structure iS where
 disk:aB
 bT:aB
def iS.fs(s:iS):List (bL×V):=[("disk",V.ref s.disk),("sessions",V.ref s.bT)]
def iS.CF(s:iS):s.fs.lookup ("disk":bL)=some (V.ref s.disk):=rfl
def iS.jq(s:iS):s.fs.lookup ("sessions":bL)=some (V.ref s.bT):=rfl
def iS.XC(s:iS)(x:aB):fm ("disk":bL) (V.ref x) s.fs=iS.fs {s with disk:=x}:=rfl
def iS.K7(s:iS)(x:aB):fm ("sessions":bL) (V.ref x) s.fs=iS.fs {s with bT:=x}:=rfl
def iS.len(s:iS):s.fs.length<1000:=by show 2<1000;decide
def XD(C:Cl)(H:Hp)(a:aB)(s:iS):Prop:=∃dx,H a=some (.ins C.Target dx s.fs)
def fQ:bootBuiltins "len"=some (.builtin "len"):=wX
def qx:bootBuiltins "min"=some (.builtin "min"):=by decide+kernel
def XF:bootBuiltins "max"=some (.builtin "max"):=by decide+kernel
def XG:bootBuiltins "sum"=some (.builtin "sum"):=by decide+kernel
def XH:bootBuiltins "any"=some (.builtin "any"):=by decide+kernel
def MN:bootBuiltins "list"=some (.type "list"):=by decide+kernel
def uL:bootBuiltins "dict"=some (.type "dict"):=by decide+kernel
def Gz:bootBuiltins "str"=some (.type "str"):=by decide+kernel
def XI:bootBuiltins "int"=some (.type "int"):=by decide+kernel
structure cb where
 heads:Bool
 datas:Bool
 asks:Bool
 with_:Bool
 theirs:Nat
 burst:Nat
 first:Nat
def Ed(b:Bool):V:=.str (if b then "CRC32C" else "None")
def Ee(b:Bool):V:=.str (if b then "Yes" else "No")
def cb.kv(f:cb):List (Key×V):=[(.inr "HeaderDigest",Ed f.heads),(.inr "DataDigest",Ed f.datas),(.inr "InitialR2T",Ee f.asks),(.inr "ImmediateData",Ee f.with_),(.inr "MaxRecvDataSegmentLength",.int f.theirs),(.inr "MaxBurstLength",.int f.burst),(.inr "FirstBurstLength",.int f.first)]
def cb.g1(f:cb):jl f.kv (.inr "HeaderDigest")=some (Ed f.heads):=rfl
def cb.g2(f:cb):jl f.kv (.inr "DataDigest")=some (Ed f.datas):=rfl
def cb.g3(f:cb):jl f.kv (.inr "InitialR2T")=some (Ee f.asks):=rfl
def cb.g4(f:cb):jl f.kv (.inr "ImmediateData")=some (Ee f.with_):=rfl
def cb.g5(f:cb):jl f.kv (.inr "MaxRecvDataSegmentLength")=some (.int f.theirs):=rfl
def cb.g6(f:cb):jl f.kv (.inr "MaxBurstLength")=some (.int f.burst):=rfl
def cb.g7(f:cb):jl f.kv (.inr "FirstBurstLength")=some (.int f.first):=rfl
structure ki(C:Cl)(H:Hp)(a:aB)(s:aV)(f:cb):Prop where
 se:qw C H a s
 st:H s.ja=some (.dK f.kv)
inductive qf(ok:Hp->aB->V->Prop)(vs:List V)(H:Hp)(Q:VK)(kn:XK):Prop
 |mk(a:aB)(v:V)(_:vs=[.ref a])(_:ok H a v)(_:Q v H)
def Q7(o:Option Nat):decide (zl o=V.int 3)=decide (o=some 3):=by
 cases o with
 |none=>rfl
 |some n=>
  by_cases h:n=3
  .subst h;rfl
  .rw[decide_eq_false (by intro e;exact h (nE (V.int.inj e))),decide_eq_false (by intro e;exact h (af e))]
def K8(o:Option Nat)(i:Int):PR (zl o) (V.int i)=true:=by cases o<;>rfl
def de(s:aV):Bool:=decide (s.stage=some 3)
def jh:T.p4.D P w mg aR 1 (qf λH a v=>∃s,qw C H a s/\v= .bl (de s)):=by
 refine T.p4.ok ?_;kd_p
 obtain⟨a,v,rfl,⟨s,⟨dx,h1⟩,rfl⟩,k⟩:=h;exists _,(aj (aP (gL fD (aT b4 rfl) (aU T.QN) (bD _))));exists I,a,C.Session,dx,_,I,h1,T.aF,T.fB,s.rS,K8 _ _;rw[Q7];exact k
def Q8(b:Bool):decide (Ed b=V.str "CRC32C")=b:=by cases b<;>decide+kernel
def Q9(b:Bool):decide (Ee b=V.str "Yes")=b:=by cases b<;>decide+kernel
def IY(b:Bool)(x:bL):PR (Ed b) (V.str x)=true:=rfl
def IZ(b:Bool)(x:bL):PR (Ee b) (V.str x)=true:=rfl
def j9:T.mM.D P w mg aR 2 (qf λH a v=>∃s f,ki C H a s f/\v= .bl (de s&&f.heads)):=by
 refine T.mM.ok ?_;kd_p
 obtain⟨a,v,rfl,⟨s,f,⟨⟨dx,h1⟩,h2⟩,rfl⟩,k⟩:=h;have hu:=lS hr;exists _,(aj (aP (Kk (b_ (jh T) T.aF b4) (FY (gL fD (m_ hu (aT b4 rfl) dS (λ_ _=>rfl)) dS (bD _))))));exists I,a,dx,I,h1,rfl,a,I,⟨s,⟨dx,h1⟩,rfl⟩,I;cases hw:de s with
 |true=>rw[hw]at k;rw[iP rfl];exists I,a,C.Session,dx,_,I,h1,T.aF,T.dn,s.rT,s.ja,I,(by have q:=lM.k (k:=bY "HeaderDigest") h2;rw[f.g1]at q;exact q),IY _ _;rw[Q8];exact k
 |false=>rw[hw]at k;rw[iN #[]];exact k
def kY:T.oF.D P w mg aR 2 (qf λH a v=>∃s f,ki C H a s f/\v= .bl (de s&&f.datas)):=by
 refine T.oF.ok ?_;kd_p
 obtain⟨a,v,rfl,⟨s,f,⟨⟨dx,h1⟩,h2⟩,rfl⟩,k⟩:=h;have hu:=lS hr;exists _,(aj (aP (Kk (b_ (jh T) T.aF b4) (FY (gL fD (m_ hu (aT b4 rfl) dS (λ_ _=>rfl)) dS (bD _))))));exists I,a,dx,I,h1,rfl,a,I,⟨s,⟨dx,h1⟩,rfl⟩,I;cases hw:de s with
 |true=>rw[hw]at k;rw[iP rfl];exists I,a,C.Session,dx,_,I,h1,T.aF,T.dn,s.rT,s.ja,I,(by have q:=lM.k (k:=bY "DataDigest") h2;rw[f.g2]at q;exact q),IY _ _;rw[Q8];exact k
 |false=>rw[hw]at k;rw[iN #[]];exact k
def vb:T.oG.D P w mg aR 1 (qf λH a v=>∃s f,ki C H a s f/\v= .bl f.asks):=by
 refine T.oG.ok ?_;kd_p
 obtain⟨a,v,rfl,⟨s,f,⟨⟨dx,h1⟩,h2⟩,rfl⟩,k⟩:=h;have hu:=lS hr;exists _,(aj (aP (gL fD (m_ hu (aT b4 rfl) dS (λ_ _=>rfl)) dS (bD _))));exists I,a,C.Session,dx,_,I,h1,T.aF,T.dn,s.rT,s.ja,I,(by have q:=lM.k (k:=bY "InitialR2T") h2;rw[f.g3]at q;exact q),IZ _ _;rw[Q9];exact k
def oq:T.jX.D P w mg aR 1 (qf λH a v=>∃s f,ki C H a s f/\v= .bl f.with_):=by
 refine T.jX.ok ?_;kd_p
 obtain⟨a,v,rfl,⟨s,f,⟨⟨dx,h1⟩,h2⟩,rfl⟩,k⟩:=h;have hu:=lS hr;exists _,(aj (aP (gL fD (m_ hu (aT b4 rfl) dS (λ_ _=>rfl)) dS (bD _))));exists I,a,C.Session,dx,_,I,h1,T.aF,T.dn,s.rT,s.ja,I,(by have q:=lM.k (k:=bY "ImmediateData") h2;rw[f.g4]at q;exact q),IZ _ _;rw[Q9];exact k
def mS:T.mO.D P w mg aR 1 (qf λH a v=>∃s f,ki C H a s f/\v= .int f.theirs):=by
 refine T.mO.ok ?_;kd_p
 obtain⟨a,v,rfl,⟨s,f,⟨⟨dx,h1⟩,h2⟩,rfl⟩,k⟩:=h;have hu:=lS hr;exists _,(aj (aP (m_ hu (aT b4 rfl) dS (λ_ _=>rfl))));nomatch I,a,C.Session,dx,_,I,h1,T.aF,T.dn,s.rT,s.ja,I,(by have q:=lM.k (k:=bY "MaxRecvDataSegmentLength") h2;rw[f.g5]at q;exact q),k
def j0:T.sD.D P w mg aR 1 (qf λH a v=>∃s f,ki C H a s f/\v= .int f.burst):=by
 refine T.sD.ok ?_;kd_p
 obtain⟨a,v,rfl,⟨s,f,⟨⟨dx,h1⟩,h2⟩,rfl⟩,k⟩:=h;have hu:=lS hr;exists _,(aj (aP (m_ hu (aT b4 rfl) dS (λ_ _=>rfl))));nomatch I,a,C.Session,dx,_,I,h1,T.aF,T.dn,s.rT,s.ja,I,(by have q:=lM.k (k:=bY "MaxBurstLength") h2;rw[f.g6]at q;exact q),k
def j_:T.mP.D P w mg aR 2 (qf λH a v=>∃s f,ki C H a s f/\v= .int (min f.first f.burst:Nat)):=by
 refine T.mP.ok ?_;kd_p
 obtain⟨a,v,rfl,⟨s,f,⟨⟨dx,h1⟩,h2⟩,rfl⟩,k⟩:=h;have hu:=lS hr;exists _,(aj (aP (bZ (kJ rfl) (by rfl) T.vV qx (i5 (m_ hu (aT b4 rfl) dS (λ_ _=>rfl)) (b_ (j0 T) T.aF b4)))));exists I,a,C.Session,dx,_,I,h1,T.aF,T.dn,s.rT,s.ja,I,(by have q:=lM.k (k:=bY "FirstBurstLength") h2;rw[f.g7]at q;exact q),I,a,dx,I,h1,rfl,a,I,⟨s,f,⟨⟨dx,h1⟩,h2⟩,rfl⟩,_,I;have e:(if(f.burst:Int)<(f.first:Int)then(f.burst:Int)else(f.first:Int))=((min f.first f.burst:Nat):Int):=by
  by_cases h:(f.burst:Int)<(f.first:Int)
  .rw[iP h];lia
  .rw[iN h];lia
 rw[e];exact k
def lG:T.sC.D P w mg aR 1 (λvs H Q _=>∃a s dx,vs=[.ref a]/\H a=some (.ins C.Session dx (aV.fs s))/\Q .eY (upd H a (.ins C.Session dx (aV.fs {s with closed:=true})))):=by
 refine T.sC.ok ?_ (λvs H Q E h=>by obtain⟨a,s,dx,rfl,_⟩:=h;rfl);kd_p
 obtain⟨a,s,dx,rfl,h1,k⟩:=h;exists _,(aj (ck b4 kP rfl));exists I,a,C.Session,dx,I,h1,T.aF,T.iu,s.len;rw[s.Q2];exact k
def mT:T.mQ.D P w mg aR 1 (λvs H Q _=>∃a s dx,vs=[.ref a]/\H a=some (.ins C.Session dx (aV.fs s))/\∀p,H p=none->Q .eY (upd (upd H p (.dK [])) a (.ins C.Session dx (aV.fs {s with cD:=p})))):=by
 refine T.mQ.ok ?_ (λvs H Q E h=>by obtain⟨a,s,dx,rfl,_⟩:=h;rfl);kd_p
 obtain⟨a,s,dx,rfl,h1,k⟩:=h;exists _,(aj (ck b4 tP rfl));intro p hp;exists I,a,C.Session,dx,I,(by rw[aG (ai h1 hp)];exact h1),T.aF,T.dR,s.len;rw[s.Q3];exact k p hp
def iw(last:Nat):Nat:=if last+1=4294967295 then 1 else last+1
def ui:T.nO.D P w mg aR 1 (λvs H Q _=>∃a s dx,vs=[.ref a]/\H a=some (.ins C.Session dx (aV.fs s))/\Q (.int (iw s.last:Nat)) (upd H a (.ins C.Session dx (aV.fs {s with last:=iw s.last})))):=by
 refine T.nO.ok ?_ (λvs H Q E h=>by obtain⟨a,s,dx,rfl,_⟩:=h;rfl);kd_p
 obtain⟨a,s,dx,rfl,h1,k⟩:=h;exists _,(aa (ck b4 (bO eJ (aT b4 rfl) au) rfl) (aa (bH (bg fD (aT b4 rfl) (aU T.nP) (bD _)) (aj (ck b4 au rfl)) aZ) (aj (aP (aT b4 rfl)))));exists I,a,C.Session,dx,_,I,h1,T.aF,T.dJ,s.CA,J,I,a,C.Session,dx,I,h1,T.aF,T.dJ,s.len;have e1:fm ("last_asked":bL) (V.int ((s.last:Int)+1)) s.fs=aV.fs {s with last:=s.last+1}:=rfl;rw[e1];exists I,a,C.Session,dx,_,I,ae,T.aF,T.dJ,aV.CA _,rfl,I;refine gG (λh=>?_) (λh=>?_)
 .have hn:s.last+1=4294967295:=by have q:((s.last+1:Nat):Int)=4294967295:=V.int.inj h;lia
  have en:iw s.last=1:=by unfold iw;rw[iP hn]
  exists I,a,C.Session,dx,I,ae,T.aF,T.dJ,aV.len _;rw[bS];have e2:fm ("last_asked":bL) (V.int 1) (aV.fs {s with last:=s.last+1})=aV.fs {s with last:=1}:=rfl;rw[e2];rw[en]at k;nomatch I,a,C.Session,dx,_,I,ae,T.aF,T.dJ,aV.CA _,k
 .have hn:¬s.last+1=4294967295:=λq=>h (by rw[q];rfl);have en:iw s.last=s.last+1:=by unfold iw;rw[iN hn]
  rw[en]at k;nomatch I,a,C.Session,dx,_,I,ae,T.aF,T.dJ,aV.CA _,k
def MO(x k:Nat):(cj (x:Int) (2^k:Nat)=0)↔x/2^k%2=0:=by
 have h:cj (x:Int) ((2^k:Nat):Int)=((x&&& 2^k:Nat):Int):=rfl;rw[h];have e:(x&&& 2^k)=(x/2^k%2)*2^k:=by
  apply yG;intro i;rw[Nat.testBit_and,zM];have hb:x.testBit k=decide (x/2^k%2=1):=Nat.testBit_eq_decide_div_mod_eq;by_cases hi:k=i
  .subst hi;rw[hb];rcases rn (x/2^k)with h|h
   .rw[h];simp
   .rw[h,FR,zM];simp
  .rcases rn (x/2^k)with h|h
   .rw[h];simp[hi]
   .rw[h,FR,zM];simp[hi]
 rw[e];have hp:0<2^k:=Nat.two_pow_pos k;constructor
 .intro q;have q:x/2^k%2*2^k=0:=by exact_mod_cast q
  rcases Nat.mul_eq_zero.mp q with z|z
  .exact z
  .lia
 .intro q;rw[q,Nat.zero_mul];rfl
def bit(x k:Nat):Bool:=x/2^k%2==1
def wz(x k:Nat):(!decide (V.int (cj (x:Int) ((2^k:Nat):Int))=V.int 0))=bit x k:=by
 unfold bit;rcases rn (x/2^k)with h|h
 .rw[decide_eq_true (congrArg V.int ((MO x k).mpr h)),h];rfl
 .rw[decide_eq_false (λq=>by have:=(MO x k).mp (V.int.inj q);lia),h];rfl
def rV:T.xF.D P w mg aR 1 (qf λH a v=>∃t,jo C H a t/\v= .bl (bit t.marks 6)):=by
 refine T.xF.ok ?_;kd_p
 obtain⟨a,v,rfl,⟨t,⟨dx,h1⟩,rfl⟩,k⟩:=h;exists _,(aj (aP (gL k_ (bO jJ (aT b4 rfl) au) au (bD _))));exists I,a,C.Task,dx,_,I,h1,T.bh,T.j4,t.Bg,J,rfl;have e:=wz t.marks 6;exact e▸k
def jr:T.vD.D P w mg aR 1 (qf λH a v=>∃t,jo C H a t/\v= .bl (bit t.marks 5)):=by
 refine T.vD.ok ?_;kd_p
 obtain⟨a,v,rfl,⟨t,⟨dx,h1⟩,rfl⟩,k⟩:=h;exists _,(aj (aP (gL k_ (bO jJ (aT b4 rfl) au) au (bD _))));exists I,a,C.Task,dx,_,I,h1,T.bh,T.j4,t.Bg,J,rfl;have e:=wz t.marks 5;exact e▸k
def XJ(b:List Nat):nV b=(b.map λ(x:Nat)=>(x:Int)).map V.int:=by unfold nV;rw[cY];rfl
def px:T.tU.D P w mg aR 1 (qf λH a v=>∃t b,jo C H a t/\fT K H t.aw (nV b)/\v= .bl (b.all λx=>x==0)):=by
 refine T.tU.ok ?_;kd_p
 obtain⟨a,v,rfl,⟨t,b,⟨dx,h1⟩,hb,rfl⟩,k⟩:=h;exists _,(aj (aP (PD (bZ (Ul rfl) (by rfl) T.aaF XH (fN (aT b4 rfl))))));exists I,a,C.Task,dx,_,I,h1,T.bh,T.lg,t.Xz,t.aw,I,(by rw[XJ]at hb;exact hb),I;have e:(!(b.map λ(x:Nat)=>(x:Int)).any (· !=0))=b.all λx=>x==0:=by
  clear hb k h1;induction b with
  |nil=>rfl
  |cons x r ih=>rw[bp,fg,zL,Bool.not_or,ih];congr 1;cases x<;>rfl
 rw[e];exact k
def qg:T.p0.D P w mg aR 1 (λvs H Q _=>∃a t dx n l,vs=[.ref a,.int (n:Nat),.int (l:Nat)]/\H a=some (.ins C.Task dx (cf.fs t))/\Q .eY (upd H a (.ins C.Task dx (cf.fs {t with number:=n,limit:=l,pieces:=0})))):=by
 refine T.p0.ok ?_ (λvs H Q E h=>by obtain⟨a,t,dx,n,l,rfl,_⟩:=h;rfl);kd_p
 obtain⟨a,t,dx,n,l,rfl,h1,k⟩:=h;exists _,(aa (ck b4 cC rfl) (aa (ck b4 fF rfl) (aj (ck b4 au rfl))));exists I,I,a,C.Task,dx,I,h1,T.bh,T.i0,t.len;rw[t.Q4];exists I,I,a,C.Task,dx,I,ae,T.bh,T.lh,cf.len _;rw[cf.Ut,bS];exists I,a,C.Task,dx,I,ae,T.bh,T.i3,cf.len _;rw[bS];exact k
def lH(b:List Nat)(p q:Nat)(h:p<=q):jv (nV b) (some (p:Int)) (some (q:Int))=nV (aD b p (q-p)):=by have e:=zj b p (q-p);rw[show(p:Int)+((q-p:Nat):Int)=(q:Int) by lia]at e;exact e
def gU.gm(h:fK H b xs)(n:b≠a)(hB:gU a H H'):fK H' b xs:=let⟨o,e⟩:=h;⟨o,hB _ _ e n⟩
def fT.but(h:fT K H b xs)(n:b≠a)(hB:gU a H H'):fT K H' b xs:=by
 rcases h with(h|⟨o,h⟩)|h
 .exact .inl (.inl (hB _ _ h n))
 .exact .inl (.inr ⟨o,hB _ _ h n⟩)
 .exact .inr h
def GA(hb b:List Nat)(aw ah ad:aB):cf:=⟨hb.getD 1 0,aw,ax hb 16 4,ax hb 20 4,ah,ad,0,4294967295,b.length,0⟩
inductive GB(K:aq)(C:Cl)(vs:List V)(H:Hp)(Q:VK)(kn:XK):Prop
 |mk(t dx ha da:aB)(hb b:List Nat)(_:vs=[.ref t,.ref ha,.ref da])(_:H t=some (.ins C.Task dx []))(_:ha≠t)(_:da≠t)(_:fT K H ha (nV hb))(_:fT K H da (nV b))(_:48<=hb.length)(_:∀H' aw ah ad,H' t=some (.ins C.Task dx (GA hb b aw ah ad).fs)->fK H' aw (nV (aD hb 8 8))->fK H' ah (nV (aD hb 32 16))->H' ad=some (.lst (nV b))->H ad=none->H aw=none->H ah=none->gU t H H'->Q .eY H')
def Q_:T.z5.D P w aR 2 (GB K C):=by
 refine T.z5.ok ?_;kd_p
 obtain⟨t,dx,ha,da,hb,b,rfl,h1,n1,n2,hh,hd,hl,k⟩:=h;exists _,(aa (ck b4 (fE cX cC au (λ_ _=>rfl)) rfl) (aa (ck b4 (jm (ej fV cC (cS au) (cS au))) rfl) (aa (ck b4 (aI (dY T) (mh cC au au)) rfl) (aa (ck b4 (aI (dY T) (mh cC au au)) rfl) (aa (ck b4 (jm (ej fV cC (cS au) (cS au))) rfl) (aa (ck b4 (iW xm (by rfl) T.QT MN (fN fF)) rfl) (aa (ck b4 au rfl) (aa (ck b4 (aU T.nP) rfl) (aa (ck b4 (bZ cV (by rfl) T.gT fQ (fN fF)) rfl) (aj (ck b4 au rfl)))))))))));have g1:hb[1]? =some (hb.getD 1 0):=by rw[bK,aX ()];rfl
 exists I,ha,_,J,hh,cM (QV g1),I,t,C.Task,dx,I,h1,T.bh,T.j4,(by show 0<1000;decide);have B1:gU t H (upd H t (.ins C.Task dx (fm "marks" (V.int (hb.getD 1 0:Nat)) []))):=(gU.refl t H).upd _;nomatch I,I,I,ha,I,fT.but hh n1 B1,λaw haw=>?_
 nomatch aw,I,ae,λow=>?_
 rw[bS];have B2:=B1.new haw (.gm ow (.lst (jv (nV hb) (some 8) (some 16))));have e2:jv (nV hb) (some 8) (some 16)=nV (aD hb 8 8):=lH hb 8 16 #[];rw[e2]at B2 ⊢;have S_:t≠aw:=ai ae haw;exists I,t,C.Task,dx,I,(by rw[aG S_];exact ae),T.bh,T.lg,(by show 1<1000;decide);have hw0:H aw=none:=by
  cases q:H aw with
  |none=>rfl
  |some o=>have:=B1 aw o q (aL S_);rw[haw]at this;cases this
 have B3:=B2.upd (.ins C.Task dx (fm "where" (.ref aw) (fm "marks" (V.int (hb.getD 1 0:Nat)) [])));nomatch I,ha,hb,16,4,rfl,fT.but hh n1 B3,λH4 s4=>?_
 have B4:gU t H H4:=λc o hc nc=>s4 c o (B3 c o hc nc);have w4:fK H4 aw (nV (aD hb 8 8)):=⟨ow,s4 _ _ (by rw[aG (aL S_)];exact ae)⟩;exists I,t,C.Task,dx,I,s4 _ _ ae,T.bh,T.jc,(by show 2<1000;decide);have B5:=B4.upd (.ins C.Task dx (fm "tag" (V.int (ax hb 16 4:Nat)) (fm "where" (.ref aw) (fm "marks" (V.int (hb.getD 1 0:Nat)) []))));nomatch I,ha,hb,20,4,rfl,fT.but hh n1 B5,λH6 s6=>?_
 have B6:gU t H H6:=λc o hc nc=>s6 c o (B5 c o hc nc);have w6:fK H6 aw (nV (aD hb 8 8)):=by obtain⟨o,e⟩:=w4;nomatch o,s6 _ _ (by rw[aG (aL S_)];exact e)
 exists I,t,C.Task,dx,I,s6 _ _ ae,T.bh,T.fe,(by show 3<1000;decide);have B7:=B6.upd (.ins C.Task dx (fm "size" (V.int (ax hb 20 4:Nat)) (fm "tag" (V.int (ax hb 16 4:Nat)) (fm "where" (.ref aw) (fm "marks" (V.int (hb.getD 1 0:Nat)) [])))));nomatch I,I,I,ha,I,fT.but hh n1 B7,λah Zc=>?_
 nomatch ah,I,ae,λoh=>?_
 rw[bS];have B8:=B7.new Zc (.gm oh (.lst (jv (nV hb) (some 32) (some 48))));have e8:jv (nV hb) (some 32) (some 48)=nV (aD hb 32 16):=lH hb 32 48 #[];rw[e8]at B8 ⊢;have nth:t≠ah:=ai ae Zc;have nwh:aw≠ah:=by obtain⟨o,e⟩:=w6;exact ai (by rw[aG (aL S_)];exact e) Zc
 exists I,t,C.Task,dx,I,(by rw[aG nth];exact ae),T.bh,T.jd,(by show 4<1000;decide);have hh0:H ah=none:=by
  cases q:H ah with
  |none=>rfl
  |some o=>have:=B7 ah o q (aL nth);rw[Zc]at this;cases this
 have B9:=B8.upd (.ins C.Task dx (fm "what" (.ref ah) (fm "size" (V.int (ax hb 20 4:Nat)) (fm "tag" (V.int (ax hb 16 4:Nat)) (fm "where" (.ref aw) (fm "marks" (V.int (hb.getD 1 0:Nat)) []))))));nomatch I,da,nV b,rfl,.inl (fT.but hd n2 B9),λad Ra=>?_
 have B10:=B9.new Ra (.lst (nV b));have ntd:t≠ad:=ai ae Ra;have hd0:H ad=none:=by
  cases q:H ad with
  |none=>rfl
  |some o=>have:=B9 ad o q (aL ntd);rw[Ra]at this;cases this
 have nwd:aw≠ad:=by obtain⟨o,e⟩:=w6;exact ai (by rw[aG (aL S_),aG nwh,aG (aL S_)];exact e) Ra
 have nhd:ah≠ad:=ai (by rw[aG (aL nth)];exact ae) Ra;exists I,t,C.Task,dx,I,(by rw[aG ntd];exact ae),T.bh,T.gu,(by show 5<1000;decide);exists I,t,C.Task,dx,I,ae,T.bh,T.jn,(by show 6<1000;decide);exists I,t,C.Task,dx,I,ae,T.bh,T.i0,(by show 7<1000;decide);rw[bS,bS];have hsq:=fT.but hd n2 (B10.upd (.ins C.Task dx (fm "number" (V.int 4294967295) (fm "asked" (V.int 0) (fm "data" (.ref ad) (fm "what" (.ref ah) (fm "size" (V.int (ax hb 20 4:Nat)) (fm "tag" (V.int (ax hb 16 4:Nat)) (fm "where" (.ref aw) (fm "marks" (V.int (hb.getD 1 0:Nat)) []))))))))));exists I,_,b.length,rfl,.inl ⟨nV b,hsq,by rw[bA]⟩,I,t,C.Task,dx,I,ae,T.bh,T.lh,(by show 8<1000;decide);exists I,t,C.Task,dx,I,ae,T.bh,T.i3,(by show 9<1000;decide);rw[bS,bS];refine k _ aw ah ad (ae.trans rfl) ?_ ?_ ?_ hd0 hw0 hh0 (B10.upd _)
 .obtain⟨o,e⟩:=w6;nomatch o,by rw[aG (aL S_),aG nwd,aG (aL S_),aG nwh,aG (aL S_)];exact e
 .nomatch oh,by rw[aG (aL nth),aG nhd,aG (aL nth)];exact ae
 .rw[aG (aL ntd)];exact ae
def rW(b:List Nat)(m6:Bool):List Nat:=b++(if m6=true then ke b else[])
def vX(b:List Nat):(ke b).length=4:=by unfold ke;rw[List.length_reverse,je]
def uj(b:List Nat)(s:Bool):(rW b s).length=b.length+if s=true then 4 else 0:=by
 unfold rW;cases s with
 |true=>rw[iP rfl,iP rfl,az,vX]
 |false=>rw[iN #[],iN #[],eT,qE]
inductive K9(C:Cl)(vs:List V)(H:Hp)(Q:VK)(E:XK):Prop
 |mk(tr dx oa:aB)(f:jg)(b sb:List Nat)(m6:Bool)(_:vs=[.ref tr,.ref oa,.bl m6])(_:H tr=some (.ins C.Turn dx f.fs))(_:Rd H oa (.lst (nV b)))(_:(∀x∈b,x<256))(_:H f.eZ=some (.lst (nV sb)))(_:oa≠f.eZ)(_:f.most<=4194304)(_:(f.most<sb.length+(rW b m6).length->E (.ref C.dF) none H))(_:(sb.length+(rW b m6).length<=f.most->∀H',H' f.eZ=some (.lst (nV (sb++rW b m6)))->gU f.eZ H H'->Q .eY H'))
def Rb:4194304<aH:=by rw[sizeLine_eq];decide
def uk:T.tX.E P w mg aR C.dF 3 (K9 C):=by
 refine T.tX.wY ?_;kd_p
 obtain⟨tr,dx,oa,f,b,sb,m6,rfl,h1,ho,hx,hs,sU,hm,kE,kQ⟩:=h;obtain⟨bm,nid,XE,Bn,iid,FB⟩:=T.Fl;exists _,(aa (cJ 3 nd (kC (dA fF) (bO eJ (bZ cV (by rfl) T.gT fQ (fN cC)) (aU T.rQ)) (bZ cV (by rfl) T.gT fQ (fN cC)))) (aa (bH (bg o7 (bO eJ (bZ cV (by rfl) T.gT fQ (fN (aT b4 rfl))) gQ) (aT b4 rfl) (bD _)) (aj (NL XE FB KG rfl rfl)) aZ) (aa (bj (tJ dg gx gy lN (aT b4 rfl) (fN cC))) (aj (bH (dA fF) (aj (bj (tJ dg gx gy lN (aT b4 rfl) (fN (aI (Cy T) (fN cC)))))) aZ)))));have hz:=Rb;have Rc:tr≠f.eZ:=bV h1 hs nofun;have main:∀n:Nat,n=(rW b m6).length->∀σ,σ=[some (V.ref tr),some (.ref oa),some (.bl m6),some (.int n)]-> PF (Tu (PX (VH (Nl λi j=>.bl (decide (j<i))) (VH (Nl λi j=>.int (i+j)) (tCB (λxs H Q=>∃x n,xs=[x]/\WH K x H n/\Q (.int n) H) (iR (Ar K (jU 0) "sent") kK)) (jU 3)) (Ar K (jU 0) "most"))) (QF C.dF E) L_) (PF (Ma (tBM K "list" xx (Ar K (jU 0) "sent") (iR (jU 1) kK))) (Tu (tB (jU 2)) (Ma (tBM K "list" xx (Ar K (jU 0) "sent") (iR (sk (Fm K) [] E0 (iR (jU 1) kK)) kK))) L_)) {nx:=λ_ H'=>Q .eY H',rt:=Q} σ H:=by
  intro n hn σ hσ;subst hσ;exists I,tr,C.Turn,dx,_,I,h1,T.cy,T.kL,f.CG,_,sb.length,rfl,.inl ⟨nV sb,fT.of hs,by rw[bA]⟩,I,J,I,tr,C.Turn,dx,_,I,h1,T.cy,T.xT,f.XA,J,I;refine gG (λh=>?_) (λh=>?_)
  .have h:(f.most:Int)<(sb.length:Int)+(n:Int):=h;exact kE ()
  .have h:¬(f.most:Int)<(sb.length:Int)+(n:Int):=h;have hle:sb.length+(rW b m6).length<=f.most:=();have hol:=uj b m6;exists I,tr,C.Turn,dx,_,I,h1,T.cy,T.kL,f.CG,.inl ⟨rfl,_,fT.of hs⟩,I,f.eZ,oa,nV sb,nV b,rfl,rfl,hs,ho,by rw[bA,bA];lia
   exists I,I;rw[<-jB];have B1:gU f.eZ H (upd H f.eZ (.lst (nV (sb++b)))):=(gU.refl _ H).upd _;cases m6 with
   |false=>refine gY ?_;refine kQ hle _ (ae.trans ?_) B1;unfold rW;rw[iN #[],eT]
   |true=>
    refine fI ?_;have ho1:fT K (upd H f.eZ (.lst (nV (sb++b)))) oa (nV b):=fT.but ho.sq sU B1;nomatch I,tr,C.Turn,dx,_,I,(by rw[aG Rc];exact h1),T.cy,T.kL,f.CG,.inl ⟨rfl,_,fT.of ae⟩,I,oa,b,rfl,ho1,hx,λH' p hp Rf s'=>?_
    have GC:H' f.eZ=some (.lst (nV (sb++b))):=s' _ _ ae;exists f.eZ,p,J,GC,.inl Rf,by rw[bA,bA,az,vX];rw[iP rfl]at hol;lia
    rw[<-jB];refine kQ hle _ (ae.trans ?_) (gU.upd (λc o hc nc=>s' c o (B1 c o hc nc)) _);unfold rW;rw[iP rfl,dW]
 exists I,I;cases m6 with
 |true=>refine fI ?_;exists I,_,b.length,rfl,.inl ⟨nV b,ho.sq,by rw[bA]⟩,J;exact main (b.length+4) (by rw[uj,iP rfl]) _ rfl
 |false=>refine gY ?_;exists I,_,b.length,rfl,.inl ⟨nV b,ho.sq,by rw[bA]⟩;exact main b.length (by rw[uj,iN #[],qE]) _ rfl
def fU(b:List Nat):Prop:=∀x∈b,x<256
def dE(n v:Nat):fU (aY n v):=λx hx=>by unfold aY at hx;obtain⟨i,_,rfl⟩:=cG.mp hx;exact lC _ #[]
theorem fU.put(hb:fU b)(hr:fU r)(p:Nat):fU (put b p r):=λx hx=>by
 unfold My.put at hx;rcases du.mp hx with h|h
 .exact hb x (o5 h)
 .rcases du.mp h with h|h
  .exact hr x h
  .exact hb x (jy h)
def fU.append(ha:fU a)(hb:fU b):fU (a++b):=λx hx=>(du.mp hx).elim (ha x) (hb x)
def Fn(n:Nat):fU (aQ n 0):=λx hx=>by rw[(List.mem_replicate.mp hx).2];decide
def fU.padded(h:fU b):fU (sj b):=h.append (Fn _)
def fU.part(h:fU b)(p n:Nat):fU (aD b p n):=λx hx=>h x (jy (o5 hx))
def e9(h:b.length=48)(hp:p+n<=48):(put b p (aY n v)).length=48:=by rw[iA (by rw[je,h];exact hp),h]
def vc(a b:aB)(H H':Hp):Prop:=∀c o,H c=some o->c≠a->c≠b->H' c=some o
def vc.V0(h:gU a H H'):vc a b H H':=λc o e n _=>h c o e n
def vc.of2(h:gU b H H'):vc a b H H':=λc o e _ n=>h c o e n
def vc.trans(x:vc a b H H1)(y:vc a b H1 H2):vc a b H H2:=λc o e n m=>y c o (x c o e n m) n m
def vc.same(h:a_ H H'):vc a b H H':=λc o e _ _=>h c o e
def lI(hb:List Nat)(n dw:Nat):List Nat:=put (put (put hb 5 (aY 3 n)) 28 (aY 4 dw)) 32 (aY 4 ((dw+7)%4294967296))
def pz(hb b:List Nat)(dw:Nat)(hs ds:Bool):List Nat:=rW (lI hb b.length dw) hs++(if b=[]then[]else rW (sj b) ds)
theorem fU.lI(h:fU hb)(n dw:Nat):fU (lI hb n dw):=((h.put (dE _ _) _).put (dE _ _) _).put (dE _ _) _
structure fH(C:Cl)(H:Hp)(tr:aB)(f:jg)(s:aV)(st:cb)(sb:List Nat):Prop where
 tu:Q5 C H tr f
 se:ki C H f.aW s st
 sn:H f.eZ=some (.lst (nV sb))
 mo:f.most<=4194304
def fH.but{H H':Hp}{tr ha:aB}{f:jg}{s:aV}{st:cb}{sb hb:List Nat}(S:fH C H tr f s st sb)(hh:H ha=some (.lst (nV hb)))(n:ha≠f.eZ)(hB:gU ha H H'):fH C H' tr f s st sb:=by obtain⟨dx,h1⟩:=S.tu;obtain⟨⟨dy,h2⟩,h3⟩:=S.se;nomatch⟨dx,hB _ _ h1 (bV h1 hh nofun)⟩,⟨⟨dy,hB _ _ h2 (bV h2 hh nofun)⟩,hB _ _ h3 (bV h3 hh nofun)⟩,hB _ _ S.sn (aL n),S.mo
def fH.same{H H':Hp}{tr:aB}{f:jg}{s:aV}{st:cb}{sb:List Nat}(S:fH C H tr f s st sb)(e:a_ H H'):fH C H' tr f s st sb:=by obtain⟨dx,h1⟩:=S.tu;obtain⟨⟨dy,h2⟩,h3⟩:=S.se;nomatch⟨dx,e _ _ h1⟩,⟨⟨dy,e _ _ h2⟩,e _ _ h3⟩,e _ _ S.sn,S.mo
theorem fH.eZ{H H':Hp}{tr:aB}{f:jg}{s:aV}{st:cb}{sb CH:List Nat}(S:fH C H tr f s st sb)(h:H' f.eZ=some (.lst (nV CH)))(hB:gU f.eZ H H'):fH C H' tr f s st CH:=by obtain⟨dx,h1⟩:=S.tu;obtain⟨⟨dy,h2⟩,h3⟩:=S.se;nomatch⟨dx,hB _ _ h1 (bV h1 S.sn nofun)⟩,⟨⟨dy,hB _ _ h2 (bV h2 S.sn nofun)⟩,hB _ _ h3 (bV h3 S.sn nofun)⟩,h,S.mo
inductive Uv(C:Cl)(vs:List V)(H:Hp)(Q:VK)(E:XK):Prop
 |mk(tr ha da:aB)(f:jg)(s:aV)(st:cb)(hb b sb:List Nat)(_:vs=[.ref tr,.ref ha,.ref da])(_:fH C H tr f s st sb)(_:H ha=some (.lst (nV hb)))(_:hb.length=48)(_:fU hb)(_:Rd H da (.lst (nV b)))(_:fU b)(_:b.length<=1000000)(_:ha≠f.eZ)(_:da≠f.eZ)(_:da≠ha)(_:(f.most<sb.length+(pz hb b s.cmd (de s&&st.heads) (de s&&st.datas)).length->∀H',vc ha f.eZ H H'->E (.ref C.dF) none H'))(_:(sb.length+(pz hb b s.cmd (de s&&st.heads) (de s&&st.datas)).length<=f.most->∀H',H' f.eZ=some (.lst (nV (sb++pz hb b s.cmd (de s&&st.heads) (de s&&st.datas))))->vc ha f.eZ H H'->Q .eY H'))
def Rd.but(h:Rd H b u)(n:b≠a)(hB:gU a H H'):Rd H' b u:=by
 rcases h with h|⟨o,h⟩
 .exact .inl (hB _ _ h n)
 .exact .inr ⟨o,hB _ _ h n⟩
def gM{c:Bool}{A B:Prop}(h1:c=true->A)(h2:c=false->B):if c=true then A else B:=by
 cases c with
 |true=>exact fI (h1 rfl)
 |false=>exact gY (h2 rfl)
def I0(b:List Nat):(!(nV b).isEmpty)= !b.isEmpty:=by cases b<;>rfl
def um:T.z8.E P w mg aR C.dF 4 (Uv C):=by
 refine T.z8.wY ?_;kd_p
 obtain⟨tr,ha,da,f,s,st,hb,b,sb,rfl,S,hh,hl,oh,hd,ob,GD,n1,n2,n3,kE,kQ⟩:=h;exists _,(aa (cJ 3 nd (aT b4 rfl)) (aa (bj (aI (cH T) (va cC au au (bZ cV (by rfl) T.gT fQ (fN fF))))) (aa (bj (aI (cH T) (va cC au au (aT gQ rfl)))) (aa (bj (aI (cH T) (va cC au au (bO yU (bO eJ (aT gQ rfl) (aU T.QO)) (aU T.ze))))) (aa (bj (fG (uk T) T.cy b4 (i5 cC (b_ (j9 T) T.aF gQ)))) (aj (bH (HK fF (λ_=>rfl)) (aj (bj (fG (uk T) T.cy b4 (i5 (aI (QY T) (fN fF)) (b_ (kY T) T.aF gQ))))) aZ)))))));obtain⟨dx,h1⟩:=S.tu;obtain⟨⟨dy,h2⟩,h3⟩:=S.se;have e7:((s.cmd:Int)+7)%4294967296=(((s.cmd+7)%4294967296:Nat):Int):=rfl;exists I,tr,C.Turn,dx,_,I,h1,T.cy,T.bX,f.eA;exists I,I,_,b.length,rfl,.inl ⟨nV b,hd.sq,by rw[bA]⟩,ha,hb,5,3,b.length,rfl,hh,(),#[];have B1:gU ha H (upd H ha (.lst (nV (put hb 5 (aY 3 b.length))))):=(gU.refl _ H).upd _;have S1:=S.but hh n1 B1;obtain⟨XM,XN⟩:=S1.tu;obtain⟨⟨Uw,XO⟩,Zd⟩:=S1.se;have l1:(put hb 5 (aY 3 b.length)).length=48:=e9 hl #[];exists I,I,f.aW,C.Session,Uw,_,I,XO,T.aF,T.cT,s.IX,ha,_,28,4,s.cmd,rfl,ae,(by rw[l1];decide),#[];rw[bS];have B2:gU ha H (upd H ha (.lst (nV (put (put hb 5 (aY 3 b.length)) 28 (aY 4 s.cmd))))):=(gU.refl _ H).upd _;have S2:=S.but hh n1 B2;obtain⟨Ux,h21⟩:=S2.tu;obtain⟨⟨dy2,XQ⟩,h23⟩:=S2.se;have l2:(put (put hb 5 (aY 3 b.length)) 28 (aY 4 s.cmd)).length=48:=e9 l1 #[];exists I,I,f.aW,C.Session,dy2,_,I,XQ,T.aF,T.cT,s.IX,J,J,(by show(0:Int)<4294967296;decide),ha,_,32,4,(s.cmd+7)%4294967296,rfl,ae,(by rw[l2];decide),#[];rw[bS];have B3:gU ha H (upd H ha (.lst (nV (lI hb b.length s.cmd)))):=(gU.refl _ H).upd _;have S3:=S.but hh n1 B3;obtain⟨Ze,h31⟩:=S3.tu;have se3:=S3.se;obtain⟨⟨dy3,h32⟩,h33⟩:=S3.se;have ol:(pz hb b s.cmd (de s&&st.heads) (de s&&st.datas)).length=(rW (lI hb b.length s.cmd) (de s&&st.heads)).length+(if b=[]then[]else rW (sj b) (de s&&st.datas)).length:=by unfold pz;rw[az]
 exists I,tr,Ze,I,h31,rfl,I,I,f.aW,dy3,I,h32,rfl,f.aW,I,⟨s,st,se3,rfl⟩;nomatch tr,Ze,ha,f,lI hb b.length s.cmd,sb,de s&&st.heads,rfl,h31,.inl ae,oh.lI _ _,S3.sn,n1,S.mo,λAF=>?_,λhle H4 Z4 B4=>?_
 .exact kE (by rw[ol];lia) _ (.V0 B3)
 have B34:vc ha f.eZ H H4:=(vc.V0 B3).trans (.of2 B4);have hd4:Rd H4 da (.lst (nV b)):=Rd.but (Rd.but hd n3 B3) n2 B4;have S4:=S3.eZ Z4 B4;exists I,!(nV b).isEmpty,.inl ⟨nV b,hd4.sq,rfl⟩;rw[I0];refine gM (λhc=>?_) (λhc=>?_);rotate_left
 .have Pb:b=[]:=by cases b with|nil=>rfl|cons _ _=>cases hc
  subst Pb;have eo:pz hb [] s.cmd (de s&&st.heads) (de s&&st.datas)=rW (lI hb 0 s.cmd) (de s&&st.heads):=by unfold pz;rw[iP rfl,eT];rfl
  rw[eo]at kQ;exact kQ hle H4 Z4 B34
 .have sU:b≠[]:=by rintro rfl;cases hc
  obtain⟨dx4,h41⟩:=S4.tu;rw[iN sU]at ol;nomatch I,tr,dx4,I,h41,rfl,I,da,b,rfl,hd4,by rw[sizeLine_eq];lia,λH5 p hp hp5 s5=>?_
  have S5:=S4.same s5;obtain⟨dx5,h51⟩:=S5.tu;have se5:=S5.se;obtain⟨⟨dy5,h52⟩,h53⟩:=S5.se;have nps:p≠f.eZ:=aL (ai Z4 hp);exists I,f.aW,dy5,I,h52,rfl,f.aW,I,⟨s,st,se5,rfl⟩;nomatch tr,dx5,p,f,sj b,sb++rW (lI hb b.length s.cmd) (de s&&st.heads),de s&&st.datas,rfl,h51,.inl hp5,ob.padded,S5.sn,nps,S.mo,λAF=>?_,λad2 H6 hs6 B6=>?_
  .rw[az]at AF;exact kE (by rw[ol];lia) _ (B34.trans (.same s5))
  .rw[az]at ad2;refine kQ (by rw[ol];lia) H6 ?_ ((B34.trans (.same s5)).trans (.of2 B6));rw[hs6,dW];unfold pz;rw[iN sU]
def gH(l:List aB)(H H':Hp):Prop:=∀c o,H c=some o->c∉l->H' c=some o
def gH.V0(h:gU a H H')(m:a∈l):gH l H H':=λc o e n=>h c o e λq=>n (q▸m)
def gH.of2(h:vc a b H H')(m:a∈l)(m':b∈l):gH l H H':=λc o e n=>h c o e (λq=>n (q▸m)) λq=>n (q▸m')
def gH.trans(x:gH l H H1)(y:gH l H1 H2):gH l H H2:=λc o e n=>y c o (x c o e n) n
def gH.same(h:a_ H H'):gH l H H':=λc o e _=>h c o e
def gH.mono(h:gH l H H')(s:∀a∈l,a∈m):gH m H H':=λc o e n=>h c o e λq=>n (s c q)
def AG(hb b:List Nat)(s:aV)(st:cb):List Nat:=pz (put hb 24 (aY 4 s.count)) b s.cmd (de s&&st.heads) (de s&&st.datas)
def aV.counted(s:aV):aV:={s with count:=(s.count+1)%4294967296}
inductive ot(C:Cl)(vs:List V)(H:Hp)(Q:VK)(E:XK):Prop
 |mk(tr ha da:aB)(f:jg)(s:aV)(st:cb)(hb b sb:List Nat)(_:vs=[.ref tr,.ref ha,.ref da])(_:fH C H tr f s st sb)(_:H ha=some (.lst (nV hb)))(_:hb.length=48)(_:fU hb)(_:Rd H da (.lst (nV b)))(_:fU b)(_:b.length<=1000000)(_:ha≠f.eZ)(_:da≠f.eZ)(_:da≠ha)(_:(f.most<sb.length+(AG hb b s st).length->∀H',gH [ha,f.eZ,f.aW] H H'->E (.ref C.dF) none H'))(_:(sb.length+(AG hb b s st).length<=f.most->∀H',fH C H' tr f s.counted st (sb++AG hb b s st)->gH [ha,f.eZ,f.aW] H H'->Q .eY H'))
def dO:T.oH.E P w mg aR C.dF 5 (ot C):=by
 refine T.oH.wY ?_;kd_p
 obtain⟨tr,ha,da,f,s,st,hb,b,sb,rfl,S,hh,hl,oh,hd,ob,GD,n1,n2,n3,kE,kQ⟩:=h;exists _,(aa (cJ 3 nd (aT b4 rfl)) (aa (bj (aI (cH T) (va cC au au (aT gQ rfl)))) (aa (bj (fG (um T) T.cy b4 (i5 cC fF))) (aj (ck gQ (bO yU (bO eJ (aT gQ rfl) au) (aU T.ze)) rfl)))));obtain⟨dx,h1⟩:=S.tu;obtain⟨⟨dy,h2⟩,h3⟩:=S.se;exists I,tr,C.Turn,dx,_,I,h1,T.cy,T.bX,f.eA;exists I,I,f.aW,C.Session,dy,_,I,h2,T.aF,T.g8,s.Bf,ha,hb,24,4,s.count,rfl,hh,(by rw[hl];decide),#[];have B1:gU ha H (upd H ha (.lst (nV (put hb 24 (aY 4 s.count))))):=(gU.refl _ H).upd _;have S1:=S.but hh n1 B1;obtain⟨XM,XN⟩:=S1.tu;exists I,tr,XM,I,XN,rfl,I,I;nomatch tr,ha,da,f,s,st,_,b,sb,rfl,S1,ae,e9 hl #[],oh.put (dE _ _) _,Rd.but hd n3 B1,ob,GD,n1,n2,n3,λAF H' B'=>?_,λhle H2 BJ B2=>?_
 .exact kE AF H' ((gH.V0 B1 (by simp)).trans (.of2 B' (by simp) (by simp)))
 .have BB:gH [ha,f.eZ,f.aW] H H2:=(gH.V0 B1 (by simp)).trans (.of2 B2 (by simp) (by simp));obtain⟨⟨Uw,XO⟩,Zd⟩:=S1.se;have hhu:upd H ha (.lst (nV (put hb 24 (aY 4 s.count)))) ha=some (.lst (nV (put hb 24 (aY 4 s.count)))):=ae;have XQ:H2 f.aW=some (.ins C.Session Uw s.fs):=B2 _ _ XO (bV XO hhu nofun) (bV XO S1.sn nofun);have h23:H2 s.ja=some (.dK st.kv):=B2 _ _ Zd (bV Zd hhu nofun) (bV Zd S1.sn nofun);have h21:H2 tr=some (.ins C.Turn XM f.fs):=B2 _ _ XN (bV XN hhu nofun) (bV XN S1.sn nofun);exists I,f.aW,C.Session,Uw,_,I,XQ,T.aF,T.g8,s.Bf,J,J,(by show(0:Int)<4294967296;decide),I,f.aW,C.Session,Uw,I,XQ,T.aF,T.g8,s.len;have e1:fm ("count":bL) (V.int (((s.count:Int)+1)%4294967296)) s.fs=aV.fs s.counted:=rfl;have ntr:tr≠f.aW:=bV h21 XQ (by intro z;injection z with z1;have:=T.VZ;simp only[cU,ak]at this;simp_all);refine kQ hle _ ⟨⟨XM,by rw[aG ntr];exact h21⟩,⟨⟨Uw,ae.trans (by rw[e1])⟩,by show upd H2 f.aW _ s.ja=_;rw[aG (bV h23 XQ nofun)];exact h23⟩,by rw[aG (bV BJ XQ nofun)];exact BJ,S.mo⟩ (BB.trans (.V0 ((gU.refl _ H2).upd _) (by simp)))
inductive x4(C:Cl)(vs:List V)(H:Hp)(Q:VK)(E:XK):Prop
 |mk(tr ha:aB)(f:jg)(s:aV)(st:cb)(hb sb:List Nat)(_:vs=[.ref tr,.ref ha])(_:fH C H tr f s st sb)(_:H ha=some (.lst (nV hb)))(_:hb.length=48)(_:fU hb)(_:ha≠f.eZ)(_:(f.most<sb.length+(AG hb [] s st).length->∀H',gH [ha,f.eZ] H H'->E (.ref C.dF) none H'))(_:(sb.length+(AG hb [] s st).length<=f.most->∀H',H' f.eZ=some (.lst (nV (sb++AG hb [] s st)))->gH [ha,f.eZ] H H'->Q .eY H'))
def sW:T.mR.E P w mg aR C.dF 5 (x4 C):=by
 refine T.mR.wY ?_;kd_p
 obtain⟨tr,ha,f,s,st,hb,sb,rfl,S,hh,hl,oh,n1,kE,kQ⟩:=h;exists _,(aa (bj (aI (cH T) (va cC au au (aT (aT b4 rfl) rfl)))) (aj (bj (fG (um T) T.cy b4 (i5 cC (dN jk))))));obtain⟨dx,h1⟩:=S.tu;obtain⟨⟨dy,h2⟩,h3⟩:=S.se;exists I,I,tr,C.Turn,dx,_,I,h1,T.cy,T.bX,f.eA,f.aW,C.Session,dy,_,I,h2,T.aF,T.g8,s.Bf,ha,hb,24,4,s.count,rfl,hh,(by rw[hl];decide),#[];have B1:gU ha H (upd H ha (.lst (nV (put hb 24 (aY 4 s.count))))):=(gU.refl _ H).upd _;have S1:=S.but hh n1 B1;obtain⟨XM,XN⟩:=S1.tu;nomatch I,tr,XM,I,XN,rfl,I,bQ _,λp hp=>?_
 have s2:a_ (upd H ha (.lst (nV (put hb 24 (aY 4 s.count))))) _:=aS (a_.refl _) hp (.lst []);have S2:=S1.same s2;have nph:p≠ha:=aL (ai ae hp);nomatch tr,ha,p,f,s,st,_,[],sb,rfl,S2,s2 _ _ ae,e9 hl #[],oh.put (dE _ _) _,.inl ae,(λx hx=>nomatch hx),#[],n1,aL (ai S1.sn hp),nph,λAF H' B'=>?_,λhle H3 hs3 B3=>?_
 .exact kE AF H' (((gH.V0 B1 (by simp)).trans (.same s2)).trans (.of2 B' (by simp) (by simp)))
 .exact kQ hle H3 hs3 (((gH.V0 B1 (by simp)).trans (.same s2)).trans (.of2 B3 (by simp) (by simp)))
def restOf(there fj:Nat):Nat×Nat:=if there<fj then(2,fj-there)else if fj<there then(4,there-fj)else(0,0)
def jL(hb:List Nat)(there fj:Nat):List Nat:=if there=fj then hb else put (hb.set 1 (hb.getD 1 0|||(restOf there fj).1)) 44 (aY 4 (restOf there fj).2)
def Rg(x y:Nat):rm (x:Int) (y:Int)=((x|||y:Nat):Int):=by rw[Ie.Qu () ()];rfl
def gv(h:i<b.length):(nV b)[i]? =some (V.int (b.getD i 0:Nat)):=QV (by rw[bK,aX h];rfl)
inductive I_(vs:List V)(H:Hp)(Q:VK)(kn:XK):Prop
 |mk(ha:aB)(hb:List Nat)(n m:Nat)(_:vs=[.ref ha,.int n,.int m])(_:H ha=some (.lst (nV hb)))(_:hb.length=48)(_:Q .eY (upd H ha (.lst (nV (jL hb n m)))))
def Rh(h:H a=some o):upd H a o=H:=by
 funext c;unfold upd;split
 .rename_i e;rw[e,h]
 .rfl
def CI:T.Ci.D P w aR 2 I_:=by
 refine T.Ci.ok ?_;kd_p
 obtain⟨ha,hb,n,m,rfl,hh,hl,k⟩:=h;exists _,(aa (bH (bg tH cC fF (bD _)) (aa (j8 (bO PQ (fE cX b4 au (λ_ _=>rfl)) (aU T.Up)) (j7 b4 au set_list)) (aj (bj (aI (cH T) (va b4 au au (bO md fF cC)))))) aZ) (aj (bH (bg o7 cC fF (bD _)) (aa (j8 (bO PQ (fE cX b4 au (λ_ _=>rfl)) (aU T.Xt)) (j7 b4 au set_list)) (aj (bj (aI (cH T) (va b4 au au (bO md cC fF)))))) aZ)));have l1:∀z,(hb.set 1 z).length=48:=λz=>by rw[br,hl]
 exists I,I,J,I;refine gG (λh=>?_) (λh=>?_)
 .have h:(n:Int)<(m:Int):=h;exists I,ha,_,J,fT.of hh,cM (gv (i:=1) ()),J;exists I,ha,_,_,1,rfl,rfl,hh,(by unfold F5;rw[bA,hl];rfl);have e2:rm ((hb.getD 1 0:Nat):Int) 2=((hb.getD 1 0|||2:Nat):Int):=Rg _ 2
  dsimp only;rw[e2,qv];have e3:(m:Int)-(n:Int)=((m-n:Nat):Int):=();exists I,I,I,J;dsimp only;rw[e3];exists ha,_,44,4,m-n,rfl,ae,(by rw[l1];decide),#[];rw[bS];exists I,I,J,I;refine gG (λh2=>?_) (λh2=>?_)
  .have h2:(m:Int)<(n:Int):=h2;lia
  .have e:jL hb n m=put (hb.set 1 (hb.getD 1 0|||2)) 44 (aY 4 (m-n)):=by unfold jL restOf;rw[iN (),iP ()]
   rw[e]at k;exact k
 .have h:¬(n:Int)<(m:Int):=h;exists I,I,J,I;refine gG (λh2=>?_) (λh2=>?_)
  .have h2:(m:Int)<(n:Int):=h2;exists I,ha,_,J,fT.of hh,cM (gv (i:=1) ()),J;exists I,ha,_,_,1,rfl,rfl,hh,(by unfold F5;rw[bA,hl];rfl);have e2:rm ((hb.getD 1 0:Nat):Int) 4=((hb.getD 1 0|||4:Nat):Int):=Rg _ 4
   dsimp only;rw[e2,qv];have e3:(n:Int)-(m:Int)=((n-m:Nat):Int):=();exists I,I,I,J;dsimp only;rw[e3];exists ha,_,44,4,n-m,rfl,ae,(by rw[l1];decide),#[];rw[bS];have e:jL hb n m=put (hb.set 1 (hb.getD 1 0|||4)) 44 (aY 4 (n-m)):=by unfold jL restOf;rw[iN (),iN (),iP ()]
   rw[e]at k;exact k
  .have h2:¬(m:Int)<(n:Int):=h2;have e:jL hb n m=hb:=by unfold jL;rw[iP ()]
   rw[e,Rh hh]at k;exact k
def uM(tag asked status there fj:Nat):List Nat:=jL (put (put ((cw [(0,[33,128])]).set 3 status) 16 (aY 4 tag)) 36 (aY 4 asked)) there fj
inductive rb(C:Cl)(vs:List V)(H:Hp)(Q:VK)(kn:XK):Prop
 |mk(ta:aB)(t:cf)(st n m:Nat)(_:vs=[.ref ta,.int st,.int n,.int m])(_:jo C H ta t)(_:Gw H Q (uM t.tag t.asked st n m))
def jo.same(h:jo C H a t)(s:a_ H H'):jo C H' a t:=let⟨dx,e⟩:=h;⟨dx,s _ _ e⟩
def a_.nQ(s:a_ H H1)(hp:H p=none)(o:HO):a_ H (upd H1 p o):=λb u e=>by rw[aG (ai e hp)];exact s b u e
def ou:T.sF.D P w aR 3 (rb C):=by
 refine T.sF.ok ?_;kd_p
 obtain⟨ta,t,st,n,m,rfl,ht,k⟩:=h;exists _,(aa (cJ 4 nd (aI (jf T) (i5 (aU T.QQ) (aU T.pw)))) (aa (j8 cC (j7 kS au set_list)) (aa (bj (aI (cH T) (va kS au au (aT b4 rfl)))) (aa (bj (aI (cH T) (va kS au au (aT b4 rfl)))) (aa (bj (aI (CI T) (mh kS fF gQ))) (aj (aP kS)))))));nomatch 33,128,rfl,λH1 p hp rD s1=>?_
 have l1:((cw [(0,[33,128])]).set 3 st).length=48:=by rw[br,bU]
 exists I,I,p,_,_,3,rfl,rfl,rD,(by unfold F5;rw[bA,bU];rfl);rw[qv];have s2:=λo=>a_.nQ s1 hp o;obtain⟨dx,e2⟩:=ht.same (s2 (.lst (nV ((cw [(0,[33,128])]).set 3 st))));exists I,I,ta,C.Task,dx,_,I,e2,T.bh,T.jc,t.CB,p,_,16,4,t.tag,rfl,ae,(by rw[l1];decide),#[];rw[bS];have l2:(put ((cw [(0,[33,128])]).set 3 st) 16 (aY 4 t.tag)).length=48:=e9 l1 #[];obtain⟨Ze,e3⟩:=ht.same (s2 (.lst (nV (put ((cw [(0,[33,128])]).set 3 st) 16 (aY 4 t.tag)))));exists I,I,ta,C.Task,Ze,_,I,e3,T.bh,T.jn,t.Bh,p,_,36,4,t.asked,rfl,ae,(by rw[l2];decide),#[];rw[bS];exists I,I,I,p,_,n,m,rfl,ae,e9 l2 #[];rw[bS];exists I;exact k _ p hp ae (s2 _)
def wantedOf(t:cf):Nat:=if bit t.marks 6=true\/bit t.marks 5=true then t.size else 0
def vY:T.vI.D P w aR 2 (qf λH a v=>∃t,jo C H a t/\v= .int (wantedOf t:Nat)):=by
 refine T.vI.ok ?_;kd_p
 obtain⟨a,v,rfl,⟨t,⟨dx,h1⟩,rfl⟩,k⟩:=h;exists _,(aj (aP (kC (kR (dA (b_ (rV T) T.bh b4)) (j6 (dA (b_ (jr T) T.bh b4)))).pt (aT b4 rfl) au)));exists I,a,dx,I,h1,rfl,a,I,⟨t,⟨dx,h1⟩,rfl⟩,I;refine gM (λhc=>fI ?_) (λhc=>?_)
 .have e:wantedOf t=t.size:=by unfold wantedOf;rw[iP (.inl hc)]
  rw[e]at k;nomatch I,a,C.Task,dx,_,I,h1,T.bh,T.fe,t.m4,k
 .exists I,a,dx,I,h1,rfl,a,I,⟨t,⟨dx,h1⟩,rfl⟩,I;refine gM (λhd=>?_) (λhd=>?_)
  .have e:wantedOf t=t.size:=by unfold wantedOf;rw[iP (.inr hd)]
   rw[e]at k;nomatch I,a,C.Task,dx,_,I,h1,T.bh,T.fe,t.m4,k
  .have e:wantedOf t=0:=by unfold wantedOf;rw[iN (by rw[hc,hd];decide)]
   rw[e]at k;exact k
def rf(tag pieces begin_ marks:Nat):List Nat:=put (put (put (put (cw [(0,[37,marks])]) 16 (aY 4 tag)) 20 (aY 4 4294967295)) 36 (aY 4 pieces)) 40 (aY 4 begin_)
inductive CJ(C:Cl)(vs:List V)(H:Hp)(Q:VK)(kn:XK):Prop
 |mk(ta:aB)(t:cf)(n b m:Nat)(_:vs=[.ref ta,.int n,.int b,.int m])(_:jo C H ta t)(_:Gw H Q (rf t.tag n b m))
def vZ:T.vJ.D P w aR 2 (CJ C):=by
 refine T.vJ.ok ?_;kd_p
 obtain⟨ta,t,n,b,m,rfl,ht,k⟩:=h;exists _,(aa (cJ 4 nd (aI (jf T) (i5 (aU T.NT) gQ))) (aa (bj (aI (cH T) (va kS au au (aT b4 rfl)))) (aa (bj (aI (cH T) (va kS au au (aU T.nP)))) (aa (bj (aI (cH T) (va kS au au cC))) (aa (bj (aI (cH T) (va kS au au fF))) (aj (aP kS)))))));nomatch I,37,m,rfl,λH1 p hp rD s1=>?_
 have l1:(cw [(0,[37,m])]).length=48:=bU _;have s2:=λo=>a_.nQ s1 hp o;obtain⟨dx,e2⟩:=ht.same s1;exists I,I,ta,C.Task,dx,_,I,e2,T.bh,T.jc,t.CB,p,_,16,4,t.tag,rfl,rD,(by rw[l1];decide),#[];have l2:(put (cw [(0,[37,m])]) 16 (aY 4 t.tag)).length=48:=e9 l1 #[];exists I,p,_,20,4,4294967295,rfl,ae,(by rw[l2];decide),#[];rw[bS];have l3:=e9 l2 (p:=20) (n:=4) (v:=4294967295) #[];exists I,I,p,_,36,4,n,rfl,ae,(by rw[l3];decide),#[];rw[bS];have l4:=e9 l3 (p:=36) (n:=4) (v:=n) #[];exists I,I,p,_,40,4,b,rfl,ae,(by rw[l4];decide),#[];rw[bS];exists I;exact k _ p hp ae (s2 _)
def uo(st:cb)(begin_ size:Nat):Nat:=min (min ((begin_/st.burst+1)*st.burst) size) (begin_+st.theirs)
inductive GF(C:Cl)(vs:List V)(H:Hp)(Q:VK)(kn:XK):Prop
 |mk(a:aB)(s:aV)(st:cb)(b n:Nat)(_:vs=[.ref a,.int b,.int n])(_:ki C H a s st)(_:0<st.burst)(_:st.burst<=262144)(_:Q (.int (uo st b n:Nat)) H)
def Ja:T.z9.D P w aR 2 (GF C):=by
 refine T.z9.ok ?_;kd_p
 obtain⟨a,s,st,b,n,rfl,S,h0,h9,k⟩:=h;obtain⟨⟨dx,h1⟩,h2⟩:=S;have S:ki C H a s st:=⟨⟨dx,h1⟩,h2⟩;exists _,(aa (cJ 3 nd (bO wo (bO eJ (bO uI cC (b_ (j0 T) T.aF b4)) au) (b_ (j0 T) T.aF b4))) (aj (aP (bZ (NM rfl) (by rfl) T.vV qx (mh gQ fF (bO eJ cC (b_ (mS T) T.aF b4)))))));exists I,I,a,dx,I,h1,rfl,a,I,⟨s,st,S,rfl⟩,J,⟨by omega,by omega⟩,J,I,a,dx,I,h1,rfl,a,I,⟨s,st,S,rfl⟩,J,.inr ⟨by omega,by omega⟩;exists I,I,I,I,a,dx,I,h1,rfl,a,I,⟨s,st,S,rfl⟩,J,_,_,I;have e:min (min (((b:Int)/(st.burst:Int)+1)*(st.burst:Int)) (n:Int)) ((b:Int)+(st.theirs:Int))=((uo st b n:Nat):Int):=by
  unfold uo;have e1:((b:Int)/(st.burst:Int)+1)*(st.burst:Int)=(((b/st.burst+1)*st.burst:Nat):Int):=by rw[Int.natCast_mul,Int.natCast_add,Int.natCast_ediv];rfl
  rw[e1];omega
 rw[e];exact k
def Rows(K:aq)(H:Hp)(ra:aB)(bB:List (List Nat)):Prop:=∃as:List aB,fT K H ra (as.map V.ref)/\as.length=bB.length/\∀(i:Nat)(a:aB)(r:List Nat),as[i]? =some a->bB[i]? =some r->Rd H a (.lst (nV r))
def pI(bB:List (List Nat)):Nat:=(bB.map hU).sum
def ny(bB:List (List Nat)):pI bB=bB.flatten.length:=by unfold pI;rw[List.length_flatten]
def wy.same(h:wy C H a f)(s:a_ H H'):wy C H' a f:=let⟨dx,e⟩:=h;⟨dx,s _ _ e⟩
inductive N7(K:aq)(C:Cl)(vs:List V)(H:Hp)(Q:VK)(kn:XK):Prop
 |mk(a:aB)(f:mv)(bB:List (List Nat))(_:vs=[.ref a])(_:wy C H a f)(_:Rows K H f.rows bB)(_:bB.length<100000)(_:∀H',a_ H H'->Q (.int (pI bB:Nat)) H')
def kN:T.qV.D P w mg aR 1 (N7 K C):=by
 refine T.qV.ok ?_;kd_p
 obtain⟨a,f,bB,rfl,⟨dx,h1⟩,hR,hl,k⟩:=h;exists _,(aj (aP (bZ (WV rfl) (by rfl) T.aaE XG (fN (Mn (own:=[("row",1)]) rfl nd (kI (aT b4 rfl)) (show vt ["self","row"] (cW zd) _ _ from⟨rfl,by decide+kernel,by decide+kernel,by decide+kernel,by decide+kernel⟩) (λs H C cl fp=>Cc 1 nd) (λs H C cl fp=>uK) (te:=tCB (λxs H Q=>∃x n,xs=[x]/\WH K x H n/\Q (.int n) H) (iR (jU 1) kK)) (λs H C cl fp=>bZ cV (by rfl) T.gT fQ (fN cC)))))));obtain⟨as,r1,r2,r3⟩:=hR;nomatch I,a,C.Outcome,dx,_,I,h1,T.g9,T.oj,f.Q6,f.rows,rfl,⟨_,r1⟩,λD hD=>A_ (K:=K) (a:=f.rows) (xs:=as.map V.ref) (λi H'=>H' D=some (.lst (((bB.take i).map λ(r:List Nat)=>(r.length:Int)).map V.int))/\a_ H H') ⟨ae,aS (a_.refl H) hD _⟩ (λi H' _ h=>h.2.seq r1) ?_ ?_
 .rintro i y H' hi ⟨g1,g2⟩;rw[bz]at hi;cases ea:as[i]? with
  |none=>rw[ea]at hi;cases hi
  |some c=>
   rw[ea]at hi;obtain rfl:=(af hi).symm;have hir:i<bB.length:=by rw[<-r2];exact(aE.mp ea).1
   have er:bB[i]? =some bB[i]:=aX hir;have hrd:=Rd.same (r3 i c _ ea er) g2;exists rfl;exists I,_,bB[i].length,rfl,.inl ⟨nV bB[i],hrd.sq,by rw[bA]⟩;nomatch _,g1,by rw[aK,aK,bf,sizeLine_eq];lia,ae.trans ?_,λb o e=>by rw[aG (ai e hD)];exact g2 b o e
   rw[fP,er,bW,bW];rfl
 .rintro H' ⟨g1,g2⟩;rw[aK,r2,gJ]at g1;exists D,I,fT.of g1;have e:(bB.map λ(r:List Nat)=>(r.length:Int)).sum=((pI bB:Nat):Int):=by
   unfold pI;clear g1 g2 k r3 r2 r1 hl;induction bB with
   |nil=>rfl
   |cons r rs ih=>rw[bp,oX,ih,bp,oX];lia
  rw[e];exact k H' g2
def m7(bB:List (List Nat)):Prop:=(∀r∈bB,r.length=512)\/∃r,bB=[r]/\r.length<=512
def Jb{bB:List (List Nat)}(h:∀r∈bB,r.length=512):bB.flatten.length=512*bB.length:=by
 induction bB with
 |nil=>rfl
 |cons r rs ih=>rw[fi,az,ih (λr hr=>h r (bo _ hr)),h r bI,aN];lia
theorem Fo:∀{bB:List (List Nat)}(n:Nat),(∀r∈bB,r.length=512)->(bB.drop n).flatten=bB.flatten.drop (512*n)
 |bB,0,_=>by rfl
 | [],n+1,_=>by simp
 |r::rs,n+1,h=>by rw[yP,Fo n (λr hr=>h r (bo _ hr)),fi,List.drop_append];have e:=h r bI;rw[gg (l:=r) (),cx,e];congr 1
theorem Fp:∀{bB:List (List Nat)}(n:Nat),(∀r∈bB,r.length=512)->(bB.take n).flatten=bB.flatten.take (512*n)
 |bB,0,_=>by simp
 | [],n+1,_=>by simp
 |r::rs,n+1,h=>by rw[SK,fi,Fp n (λr hr=>h r (bo _ hr)),fi,List.take_append];have e:=h r bI;rw[cA (l:=r) (),e,show 512*(n+1)-512=512*n by lia]
def Ri{l m:List (List Nat)}(h:l.Sublist m):l.flatten.length<=m.flatten.length:=by
 induction h with
 |slnil=>exact bw _
 |cons a _ ih=>rw[fi,az];lia
 |cons_cons a _ ih=>rw[fi,fi,az,az];lia
def N8(hB:m7 bB)(Pb:b<e)(he:e<=bB.flatten.length): aD (((bB.drop (b/512)).take ((e-1)/512+1-b/512)).flatten) (b-b/512*512) (e-b)=aD bB.flatten b (e-b):=by
 rcases hB with h|⟨r,rfl,hr⟩
 .have hd:∀r∈bB.drop (b/512),r.length=512:=λr hr=>h r (jy hr);rw[Fp _ hd,Fo _ h];unfold aD;rw[Hy,gX,qN];rw[show 512*(b/512)+(b-b/512*512)=b by lia,dM ()]
 .have e1:[r].flatten=r:=by simp
  rw[e1]at he ⊢;have V1:b/512=0:=();have he0:(e-1)/512=0:=();rw[V1,he0];simp
inductive Uy(K:aq)(C:Cl)(vs:List V)(H:Hp)(Q:VK)(kn:XK):Prop
 |mk(a:aB)(f:mv)(bB:List (List Nat))(b e:Nat)(_:vs=[.ref a,.int b,.int e])(_:wy C H a f)(_:Rows K H f.rows bB)(_:m7 bB)(_:b<e)(_:e<=bB.flatten.length)(_:bB.flatten.length<=4194304)(_:Gw H Q (aD bB.flatten b (e-b)))
def Rj(as:List aB)(p q:Nat)(h:p<=q):jv (as.map V.ref) (some (p:Int)) (some (q:Int))=((as.drop p).take (q-p)).map V.ref:=by
 unfold jv;rw[HT.pU,HT.pU,aK,sQ,sR];by_cases h1:p<=as.length
 .rw[dM h1];by_cases h2:q<=as.length
  .rw[dM h2]
  .rw[jb (),cA (by simp),cA (by simp;lia)]
 .rw[jb (),gg (by simp;lia),gg (by simp;lia)];simp
def CK:T.t9.D P w mg aR 1 (Uy K C):=by
 refine T.t9.ok ?_;kd_p
 obtain⟨a,f,bB,b,e,rfl,⟨dx,h1⟩,hR,hB,Pb,he,hm,k⟩:=h;exists _,(aa (cJ 3 nd (bO uI cC (aU T.hZ))) (aa (cJ 4 nd (dN jk)) (aa (mY d9 rfl (kI (ej fV (aT b4 rfl) (cS gQ) (cS (bO eJ (bO uI (bO md fF au) (aU T.hZ)) au)))) (Cc 5 nd) (aj (bj (tJ dg gx gy lN kS (fN zV))))) (aj (aP (ej fV kS (cS (bO md cC (bO wo gQ (aU T.hZ)))) (cS (bO md fF (bO wo gQ (aU T.hZ))))))))));obtain⟨as,r1,r2,r3⟩:=hR;exists I,J,⟨#[],#[]⟩;nomatch bQ _,λq hq=>?_
 have s1:a_ H (upd H q (.lst [])):=aS (a_.refl H) hq _;have e0:((b:Int)/512)=((b/512:Nat):Int):=rfl;have e1:(((e:Int)-1)/512+1)=(((e-1)/512+1:Nat):Int):=();nomatch I,a,C.Outcome,dx,_,I,s1 _ _ h1,T.g9,T.oj,f.Q6,I,I,I,J,J,⟨#[],#[]⟩,J,I,f.rows,I,s1.seq r1,λl hl=>?_
 have hx:jv (as.map V.ref) (some ((b:Int)/512)) (some (((e:Int)-1)/512+1))=((as.drop (b/512)).take ((e-1)/512+1-b/512)).map V.ref:=by rw[e0,e1,Rj as _ _ ()]
 have s2:=aS s1 hl (.lst (jv (as.map V.ref) (some ((b:Int)/512)) (some (((e:Int)-1)/512+1))));have nlq:q≠l:=ai ae hl;have hlq:l≠q:=aL nlq;have ad4:∀(i:Nat)(c:aB),((as.drop (b/512)).take ((e-1)/512+1-b/512))[i]? =some c->∃r,((bB.drop (b/512)).take ((e-1)/512+1-b/512))[i]? =some r/\Rd H c (.lst (nV r)):=λi c hc=>by
  rw[List.getElem?_take]at hc ⊢;by_cases hi:i<(e-1)/512+1-b/512
  .rw[iP hi,qM]at hc ⊢;have oB:=(aE.mp hc).1;have er:bB[b/512+i]? =some bB[b/512+i]:=aX (by rw[<-r2];exact oB);nomatch _,er,r3 _ c _ hc er
  .rw[iN hi]at hc;cases hc
 nomatch l,rfl,⟨_,fT.of ae⟩,ma (K:=K) (a:=l) (xs:=((as.drop (b/512)).take ((e-1)/512+1-b/512)).map V.ref) (λi σ H'=>∃v5:Option V,σ=[some (.ref a),some (.int b),some (.int e),some (.int (b/512:Nat)),some (.ref q),v5]/\H' q=some (.lst (nV (((bB.drop (b/512)).take ((e-1)/512+1-b/512)).take i).flatten))/\H' l=some (.lst (((as.drop (b/512)).take ((e-1)/512+1-b/512)).map V.ref))/\a_ H H') ⟨none,rfl,(aG nlq).trans ae,ae.trans (congrArg (λz=>some (HO.lst z)) hx),s2⟩ (λi σ H' _⟨_,_,_,g,_⟩=>fT.of g) ?_ ?_
 .rintro i y σ H' hi ⟨v5,rfl,g1,g2,g3⟩;rw[bz]at hi;cases ea:((as.drop (b/512)).take ((e-1)/512+1-b/512))[i]? with
  |none=>rw[ea]at hi;cases hi
  |some c=>
   rw[ea]at hi;obtain rfl:=(af hi).symm;obtain⟨r,hr1,hr2⟩:=ad4 i c ea;have hlen:((((bB.drop (b/512)).take ((e-1)/512+1-b/512)).take i).flatten.length+r.length)<=bB.flatten.length:=by
    have es:((bB.drop (b/512)).take ((e-1)/512+1-b/512)).take (i+1)=((bB.drop (b/512)).take ((e-1)/512+1-b/512)).take i++[r]:=by rw[fP,hr1];rfl
    have hs:(((bB.drop (b/512)).take ((e-1)/512+1-b/512)).take (i+1)).Sublist bB:=(Bv _ _).trans ((Bv _ _).trans (List.drop_sublist _ _));have:=Ri hs;rw[es,yQ,az]at this;simpa using this
   exists I,.inl ⟨rfl,_,fT.of g1⟩,I,q,c,J,g1,Rd.same hr2 g3,by rw[bA,bA,sizeLine_eq];lia
   nomatch I,ae.trans ?_,(by rw[aG hlq];exact g2),λc' o' HC=>by rw[aG (ai HC hq)];exact g3 c' o' HC
   rw[<-jB,fP,hr1,yQ];simp
 .rintro σ H' ⟨v5,rfl,g1,g2,g3⟩;have N9:(((as.drop (b/512)).take ((e-1)/512+1-b/512)).map V.ref).length=((bB.drop (b/512)).take ((e-1)/512+1-b/512)).length:=by rw[aK,bf,bf,cO,cO,r2]
  rw[N9,gJ]at g1;nomatch I,I,I,J,.inr ⟨#[],#[]⟩,J,I,I,I,J,.inr ⟨#[],#[]⟩,J,I,q,I,fT.of g1,λp hp=>?_
  dsimp only;have f1:(b:Int)-((b/512:Nat):Int)*512=((b-b/512*512:Nat):Int):=();have f2:(e:Int)-((b/512:Nat):Int)*512=((b-b/512*512:Nat):Int)+((e-b:Nat):Int):=();rw[f1,f2,zj,N8 hB Pb he];exact k _ p (g3.free hp) ae (aS g3 hp _)
def sG(H:Hp)(ra:aB)(bB:List (List Nat)):Prop:=∃as:List aB,fK H ra (as.map V.ref)/\as.length=bB.length/\∀(i:Nat)(a:aB)(r:List Nat),as[i]? =some a->bB[i]? =some r->fK H a (nV r)
def sG.rows{H:Hp}{ra:aB}{bB:List (List Nat)}(h:sG H ra bB):Rows K H ra bB:=by obtain⟨as,h1,h2,h3⟩:=h;nomatch as,h1.sq,h2,λi a r ha hr=>(h3 i a r ha hr).rd
def fK.same(h:fK H b xs)(s:a_ H H'):fK H' b xs:=let⟨o,e⟩:=h;⟨o,s _ _ e⟩
theorem sG.same{H H':Hp}{ra:aB}{bB:List (List Nat)}(h:sG H ra bB)(k:a_ H H'):sG H' ra bB:=by obtain⟨as,h1,h2,h3⟩:=h;nomatch as,fK.same h1 k,h2,λi a r ha hr=>fK.same (h3 i a r ha hr) k
def Uz(H:Hp)(v:V):Option (Nat×Nat×Nat)->Prop
 |none=>v= .eY
 |some w=>∃sa,v= .ref sa/\fK H sa (nV (dT w.1 w.2.1 w.2.2))
structure K_(C:Cl)(H:Hp)(p:aB)(x:jQ)(f:mv)(rows:List (List Nat)):Prop where
 at_:wy C H p f
 x6:sG H f.rows rows
 zS:m7 rows
 data:rows.flatten=x.data
 sense:Uz H f.sense x.wrong
 wrote:f.written=match x.wrote with|some w=>w.2.length|none=>0
def AH(C:Cl)(H:Hp)(Q:VK)(x:jQ):Prop:=∀H' p f bB,H p=none->K_ C H' p x f bB->a_ H H'->Q (.ref p) H'
inductive AI(C:Cl)(vs:List V)(H:Hp)(Q:VK)(kn:XK):Prop
 |mk(p dx:aB)(f:mv)(_:vs=[.ref p,f.sense,.ref f.rows,.int f.written])(_:H p=some (.ins C.Outcome dx []))(_:Q .eY (upd H p (.ins C.Outcome dx f.fs)))
def rg:T.t8.D P w aR 1 (AI C):=by
 refine T.t8.ok ?_;kd_p
 obtain⟨p,dx,f,rfl,h1,k⟩:=h;exists _,(aa (ck b4 cC rfl) (aa (ck b4 fF rfl) (aj (ck b4 gQ rfl))));exists I,I,p,C.Outcome,dx,I,h1,T.g9,T.m3,(by show 0<1000;decide);exists I,I,p,C.Outcome,dx,I,ae,T.g9,T.oj,(by show 1<1000;decide);exists I,I,p,C.Outcome,dx,I,ae,T.g9,T.pq,(by show 2<1000;decide);rw[bS,bS];exact k
def La:m7 []:=.inl λr hr=>nomatch hr
def XR(h:r.length<=512):m7 [r]:=.inr ⟨r,rfl,h⟩
def j5(h1:H x=none)(h2:H dx=none)(o o':HO):a_ H (upd (upd H dx o) x o'):=λb u e=>by rw[aG (ai e h1),aG (ai e h2)];exact e
inductive Fq(C:Cl)(vs:List V)(H:Hp)(Q:VK)(kn:XK):Prop
 |mk(k a:Nat)(_:vs=[.int k,.int a])(_:AH C H Q (fY k a 0))
def nR:T.IC.D P w aR 3 (Fq C):=by
 refine T.IC.ok ?_;kd_p
 obtain⟨kk,a,rfl,k⟩:=h;exists _,(aj (aP (nj (rg T) (mh (jm (aI (rR T) (i5 b4 cC))) (jm (dN jk)) au))));nomatch I,I,kk,a,rfl,λH1 p hp rD s1=>?_
 nomatch p,I,rD,λo1=>⟨bQ _,λq hq=>⟨q,_,rfl,ae,λo2=>?_⟩⟩
 have s2:a_ H (upd H1 p (.gm o1 (.lst (nV (dT kk a 0))))):=a_.nQ s1 hp _;have s3:=aS s2 hq (.lst []);have N_:=s2.free hq;have s4:=a_.nQ s3 N_ (.gm o2 (.lst []));intro x dx hx CL sU;have V2:p≠q:=ai ae hq;exists x,dx,⟨.ref p,q,0⟩,rfl,ae,rfl;rw[bS];have s5:=j5 hx CL (.own x) (.ins C.Outcome dx (mv.fs ⟨.ref p,q,0⟩));refine k _ x ⟨.ref p,q,0⟩ [] (s4.free hx) ⟨⟨dx,ae⟩,⟨[],fK.same ⟨o2,ae⟩ s5,rfl,(λi a r h=>nomatch h)⟩,La,rfl,⟨p,rfl,fK.same ⟨o1,by rw[aG V2,aG V2];exact ae⟩ s5⟩,rfl⟩ (s4.trans s5)
inductive Jc(C:Cl)(vs:List V)(H:Hp)(Q:VK)(kn:XK):Prop
 |mk(a:aB)(b:List Nat)(_:vs=[.ref a])(_:H a=some (.lst (nV b)))(_:b.length<=512)(_:∀H' p f bB,H p=none->K_ C H' p (fA b) f bB->gU a H H'->Q (.ref p) H')
def Bi:T.MD.D P w aR 3 (Jc C):=by
 refine T.MD.ok ?_;kd_p
 obtain⟨a,b,rfl,ha,hl,k⟩:=h;exists _,(aj (aP (nj (rg T) (mh jz (jm (dN (fN (jm b4)))) au))));nomatch I,a,I,ha,λo1=>⟨(by show 1<=aH;decide),λq hq=>⟨q,_,rfl,ae,λo2=>?_⟩⟩
 have B1:gU a H (upd H a (.gm o1 (.lst (nV b)))):=(gU.refl _ H).upd _;have nqa:a≠q:=ai ae hq;have N_:H q=none:=by rw[aG (aL nqa)]at hq;exact hq
 have B2:=(B1.new hq (.lst [.ref a]));have B3:gU a H (upd (upd (upd H a (.gm o1 (.lst (nV b)))) q (.lst [.ref a])) q (.gm o2 (.lst [.ref a]))):=λc o e n=>by rw[aG (ai e N_)];exact B2 c o e n
 intro x dx hx CL sU;exists x,dx,⟨.eY,q,0⟩,rfl,ae,rfl;rw[bS];have s5:=j5 hx CL (.own x) (.ins C.Outcome dx (mv.fs ⟨.eY,q,0⟩));have fa:fK (upd (upd (upd H a (.gm o1 (.lst (nV b)))) q (.lst [.ref a])) q (.gm o2 (.lst [.ref a]))) a (nV b):=⟨o1,by rw[aG nqa,aG nqa];exact ae⟩;have hxa:x≠a:=by obtain⟨o,e⟩:=fa;exact aL (ai e hx)
 have XS:H x=none:=by
  cases e:H x with
  |none=>rfl
  |some o=>have:=B3 x o e hxa;rw[hx]at this;cases this
 refine k _ x ⟨.eY,q,0⟩ [b] XS ⟨⟨dx,ae⟩,⟨[a],fK.same ⟨o2,ae⟩ s5,rfl,λi a' r h1 h2=>?_⟩,XR hl,by simp[fA],rfl,rfl⟩ (λc o e n=>s5 c o (B3 c o e n));cases i with
 |zero=>obtain rfl:=af h1;obtain rfl:=af h2;exact fK.same fa s5
 |succ i=>cases h1
inductive Lb(C:Cl)(vs:List V)(H:Hp)(Q:VK)(kn:XK):Prop
 |mk(_:vs=[])(_:AH C H Q (fA []))
def Fs:T.Fg.D P w aR 3 (Lb C):=by
 refine T.Fg.ok ?_;kd_p
 obtain⟨rfl,k⟩:=h;exists _,(aj (aP (nj (rg T) (mh jz (jm (dN jk)) au))));nomatch bQ _,λq hq=>⟨q,_,rfl,ae,λo2=>?_⟩
 have s3:=aS (a_.refl H) hq (.lst []);have s4:=a_.nQ s3 hq (.gm o2 (.lst []));intro x dx hx CL sU;exists x,dx,⟨.eY,q,0⟩,rfl,ae,rfl;rw[bS];have s5:=j5 hx CL (.own x) (.ins C.Outcome dx (mv.fs ⟨.eY,q,0⟩));exact k _ x ⟨.eY,q,0⟩ [] (s4.free hx) ⟨⟨dx,ae⟩,⟨[],fK.same ⟨o2,ae⟩ s5,rfl,(λi a r h=>nomatch h)⟩,La,rfl,rfl,rfl⟩ (s4.trans s5)
structure sH where
 n:Nat
 a:aB
 r:List Nat
def AJ(wr:List sH):List (Key×V):=wr.map λx=>(.inl (x.n:Int),.ref x.a)
def rowAt(wr:List sH)(n:Nat):Option sH:=wr.find? λx=>x.n==n
def nS(wr:List sH)(n:Nat):List Nat:=match rowAt wr n with
 |some x=>x.r
 |none=>aQ 512 0
def XT(wr:List sH)(n:Nat):jl (AJ wr) (.inl (n:Int))=(rowAt wr n).map λx=>V.ref x.a:=by
 unfold jl AJ rowAt;induction wr with
 |nil=>rfl
 |cons x r ih=>
  rw[bp,dv,dv];by_cases h:x.n=n
  .have h1:decide ((eQ (x.n:Int):Key)=eQ (n:Int))=true:=decide_eq_true (by rw[h]);have h2:(x.n==n)=true:=beq_iff_eq.mpr h;rw[h1,h2];rfl
  .have h1:decide ((eQ (x.n:Int):Key)=eQ (n:Int))=false:=decide_eq_false (λq=>h (nE (qK q)));have h2:(x.n==n)=false:=beq_eq_false_iff_ne.mpr h;rw[h1,h2];exact ih
structure jH(C:Cl)(H:Hp)(a:aB)(f:jt)(wr:List sH):Prop where
 at_:XB C H a f
 rh:H f.written=some (.dK (AJ wr))
 blank:fK H f.blank (nV (aQ 512 0))
 row:∀x∈wr,x.r.length=512/\x.n<2048/\fK H x.a (nV x.r)
 nd:(wr.map sH.n).Nodup
def bM(wr:List sH):jR:=λp=>(nS wr (p/512)).getD (p%512) 0
def uN(h:∀x∈wr,x.r.length=512)(n:Nat):(nS wr n).length=512:=by
 unfold nS;cases e:rowAt wr n with
 |none=>simp
 |some x=>exact h x (fw e)
def Ft(h:∀x∈wr,x.r.length=512)(lX:Nat):∀n,((Am n).map λj=>nS wr (lX+j)).flatten=jS (bM wr) lX n:=by
 intro n;unfold jS;induction n with
 |zero=>rfl
 |succ n ih=>
  rw[List.range_succ,bW,yQ,ih,show 512*(n+1)=512*n+512 by lia,List.range_add,bW];congr 1;rw[cY,List.map_singleton,List.flatten_singleton];apply fO;intro i;rw[bz];by_cases hi:i<512
  .rw[pQ hi];show _=some (bM wr (512*lX+(512*n+i)));unfold bM;rw[show(512*lX+(512*n+i))/512=lX+n by lia,show(512*lX+(512*n+i))%512=i by lia];rw[bK,aX (by rw[uN h];exact hi)];rfl
  .rw[gz (by rw[uN h];lia),gz (by rw[iK];lia)];rfl
inductive CN(C:Cl)(vs:List V)(H:Hp)(Q:VK)(kn:XK):Prop
 |mk(a:aB)(f:jt)(wr:List sH)(lX n:Nat)(_:vs=[.ref a,.int lX,.int n])(_:jH C H a f wr)(_:lX<5000000000)(_:n<=100000)(_:∀H' p,H p=none->sG H' p ((Am n).map λj=>nS wr (lX+j))->a_ H H'->Q (.ref p) H')
def pA:T.o_.D P w mg aR 1 (CN C):=by
 refine T.o_.ok ?_;kd_p
 obtain⟨a,f,wr,lX,n,rfl,D,hb,hn,k⟩:=h;have hu:=lS hr;exists _,(aj (aP (jm (Mn (own:=[("block",3)]) rfl nd (Nj rfl T.Gu (i5 cC (bO eJ cC fF))) (show vt ["self","first","many","block"] (cW wu) _ _ from⟨rfl,by decide+kernel,by decide+kernel,by decide+kernel,by decide+kernel⟩) (λs H C cl fp=>Cc 3 nd) (λs H C cl fp=>uK) (te:=Ky (Ar K (jU 0) "written") (jU 3) (Ar K (jU 0) "blank")) (λs H C cl fp=>BR hu (aT b4 rfl) gQ (aT b4 rfl) ⟨rfl,rfl,rfl,rfl⟩)))));obtain⟨dx,h1⟩:=D.at_;nomatch I,I,I,J,_,I,⟨(),(),(),()⟩,λDn hD=>?_
 have en:((lX:Int)+(n:Int)-(lX:Int)).toNat=n:=();have key:∃W:Nat->Nat->Hp->Prop,_:=Qi (lo:=(lX:Int)) (n:=n) (g:=nJ 3) (tt:=Nt) (te:=Ky (Ar K (jU 0) "written") (jU 3) (Ar K (jU 0) "blank")) (vs:=[3]) (σ:=[some (V.ref a),some (.int lX),some (.int n),none]) (H1:=H) (D:=Dn) (Qd:=QI Q (.ref Dn)) (λi H'=>∃as:List aB,H' Dn=some (.lst (as.map V.ref))/\as.length=i/\(∀(j:Nat)(c:aB),as[j]? =some c->fK H c (nV (nS wr (lX+j))))/\a_ H H') ⟨[],ae,rfl,(λj c h=>nomatch h),aS (a_.refl H) hD _⟩ ?_ ?_
 .rw[en];exact key
 .rintro i H' hi ⟨as,g1,g2,g3,g4⟩;obtain⟨Rk,UA⟩:∃Rk,H' a=some (.ins C.Disk Rk f.fs):=⟨dx,g4 _ _ h1⟩;have hw:H' f.written=some (.dK (AJ wr)):=g4 _ _ D.rh;have hz:(as.map V.ref).length<aH:=by rw[aK,g2,sizeLine_eq];lia
  have ei:(lX:Int)+(i:Int)=((lX+i:Nat):Int):=();have fin:∀c:aB,fK H c (nV (nS wr (lX+i)))->∃as':List aB,(upd H' Dn (.lst (as.map V.ref++[V.ref c]))) Dn=some (.lst (as'.map V.ref))/\as'.length=i+1/\(∀(j:Nat)(c':aB),as'[j]? =some c'->fK H c' (nV (nS wr (lX+j))))/\a_ H (upd H' Dn (.lst (as.map V.ref++[V.ref c]))):=λc hc=>by
   nomatch as++[c],ae.trans (by rw[bW];rfl),by rw[az,g2];rfl,λj c' hj=>?_,a_.nQ g4 hD _
   by_cases hji:j<as.length
   .rw[ft hji]at hj;exact g3 j c' hj
   .rw[fX ()]at hj;have:j-as.length=0:=by
     cases q:j-as.length with
     |zero=>rfl
     |succ m=>rw[q]at hj;cases hj
    rw[this]at hj;obtain rfl:=af hj;rw[show j=i by lia];exact hc
  exists rfl;unfold Nt;refine fI ?_;exists I,a,C.Disk,Rk,_,I,UA,T.mi,T.jY,f.l_written,f.written,rfl,.inl ⟨_,.inl hw⟩,I,I,a,C.Disk,Rk,_,I,UA,T.mi,T.vT,f.Uu,_,lM.k (k:=eQ ((lX:Int)+(i:Int))) hw
  .exists _,g1,hz;rw[ei,XT];cases e:rowAt wr (lX+i)with
   |none=>
    refine fin f.blank ?_;have:nS wr (lX+i)=aQ 512 0:=by unfold nS;rw[e]
    rw[this];exact D.blank
   |some x=>
    refine fin x.a ?_;have:nS wr (lX+i)=x.r:=by unfold nS;rw[e]
    rw[this];exact(D.row x (fw e)).2.2
 .rintro H' ⟨as,g1,g2,g3,g4⟩;nomatch Dn,I,g1,λod=>?_
  have s5:=a_.nQ g4 hD (.gm od (.lst (as.map V.ref)));refine k _ Dn hD ⟨as,⟨od,ae⟩,by rw[g2,aK,iK],λj c r hj hr'=>?_⟩ s5;have hjn:j<n:=by rw[<-g2];exact(aE.mp hj).1
  rw[bz,pQ hjn]at hr';obtain rfl:=af hr';exact fK.same (g3 j c hj) s5
end My
namespace My
open Ql73
open L2 (iN iP)
abbrev Ent:=Nat×Bytes
def Apart(x y:Ent):Prop:=x.1+x.2.length<=y.1\/y.1+y.2.length<=x.1
def pB(k:Nat)(x:Ent):Option Nat:=if x.1<=k/\k<x.1+x.2.length then x.2[k-x.1]? else none
def Af(h:Apart x y)(hx:pB k x=some v)(hy:pB k y=some w):False:=by
 unfold pB at hx hy;split at hx
 .split at hy
  .rcases h with h|h<;>lia
  .cases hy
 .cases hx
theorem wA:∀{l:List Ent},l.Pairwise Apart->∀v,l.findSome? (pB k)=some v↔∃x∈l,pB k x=some v
 | [],_,v=>by simp
 |x::l,h,v=>by
  obtain⟨h1,h2⟩:=d8.mp h;rw[yO];cases e:pB k x with
  |some z=>
   constructor
   .intro q;nomatch x,bI,e.trans q
   .rintro⟨y,hy,q⟩;rcases ak.mp hy with rfl|hy
    .exact e.symm.trans q
    .exact(Af (h1 y hy) e q).elim
  |none=>
   rw[wA h2 v];constructor
   .rintro⟨y,hy,q⟩;nomatch y,bo _ hy,q
   .rintro⟨y,hy,q⟩;rcases ak.mp hy with rfl|hy
    .rw[e]at q;cases q
    .nomatch y,hy,q
def nT(l:List Ent)(k:Nat):(header l)[k]? =if k<48 then some ((l.findSome? (pB k)).getD 0)else none:=wx l k
def zm(dl:l.Pairwise Apart)(dm:m.Pairwise Apart)(h1:∀x∈l,x∈m)(h2:∀x∈m,x∈l):header l=header m:=by
 apply fO;intro k;rw[nT,nT];have e:l.findSome? (pB k)=m.findSome? (pB k):=by apply Option.ext;intro v;rw[wA dl,wA dm];nomatch λ⟨x,hx,q⟩=>⟨x,h1 x hx,q⟩,λ⟨x,hx,q⟩=>⟨x,h2 x hx,q⟩
 rw[e]
def jM(h:∀x∈l,Apart (p,aQ n 0) x):header ((p,aQ n 0)::l)=header l:=by
 apply fO;intro k;rw[nT,nT,yO];cases e:pB k (p,aQ n 0)with
 |none=>rfl
 |some v=>
  have e1:l.findSome? (pB k)=none:=by
   rw[List.findSome?_eq_none_iff];intro x hx;cases q:pB k x with
   |none=>rfl
   |some w=>exact(Af (h x hx) e q).elim
  have e2:v=0:=by
   unfold pB at e;split at e
   .obtain⟨_,hm⟩:=aE.mp e;rw[<-hm];simp
   .cases e
  rw[e1,e2];rfl
def Ag:bytes 4 0=aQ 4 0:=#[]
def uO(hi:i<p)(h:p+r.length<=b.length):(put b p r).set i v=put (b.set i v) p r:=by
 apply fO;intro k;rw[bC,iA h,mq h,mq (by rw[br];exact h),bC];by_cases hk:i=k
 .subst hk;rw[iP rfl,iP (),iN (),iP rfl]
 .rw[iN hk,iN hk]
def rj(hi:i<p)(h:p+r.length<=b.length):(put b p r).getD i 0=b.getD i 0:=by rw[bK,bK,mq h,iN ()]
def fR(h:p+r.length<=48):put (header l) p r=header ((p,r)::l):=(IU h).symm
def cR(h:p+n<=48):put (header l) p (bytes n v)=header ((p,bytes n v)::l):=fR (by rw[je];exact h)
def UB(m st:Nat):((header [(0,[33,m])]).set 3 st)=header [(0,[33,m,0,st])]:=rfl
def UC(m st v:Nat):(header [(0,[33,m,0,st])]).set 1 v=header [(0,[33,v,0,st])]:=rfl
def XU(x m v:Nat):(header [(0,[x,m])]).set 1 v=header [(0,[x,v])]:=rfl
def Rl(m st:Nat):(header [(0,[33,m,0,st])]).getD 1 0=m:=rfl
def UD(x m:Nat):(header [(0,[x,m])]).getD 1 0=m:=rfl
def rest_eq(there fj:Nat):restOf there fj=((Rest.of there fj).mark,(Rest.of there fj).many):=by
 unfold restOf Rest.of;by_cases h:there<fj
 .rw[iP h,iP h]
 .rw[iN h,iN h];by_cases h2:fj<there
  .rw[iP h2,iP h2]
  .rw[iN h2,iN h2]
def zp(n:Nat):Rest.of n n=⟨0,0⟩:=by unfold Rest.of;rw[iN (),iN ()]
def UE(there fj:Nat):128|||(Rest.of there fj).mark=128+(Rest.of there fj).mark:=by
 unfold Rest.of;split
 .show 128|||2=128+2;decide
 .split
  .show 128|||4=128+4;decide
  .rfl
def Rn(there fj:Nat):129|||(Rest.of there fj).mark=128+(1+(Rest.of there fj).mark):=by
 unfold Rest.of;split
 .show 129|||2=128+(1+2);decide
 .split
  .show 129|||4=128+(1+4);decide
  .rfl
def nU(v:Nat):(bytes 4 v).length=4:=je 4 v
def AK(v:Nat):(bytes 3 v).length=3:=je 3 v
def x8(v:Nat):(bytes 2 v).length=2:=je 2 v
def wB(tag asked st there fj:Nat):uM tag asked st there fj=header [(44,bytes 4 (Rest.of there fj).many),(36,bytes 4 asked),(16,bytes 4 tag),(0,[33,128+(Rest.of there fj).mark,0,st])]:=by
 unfold uM jL;rw[UB,cR #[],cR #[]];by_cases h:there=fj
 .subst h;rw[iP rfl,zp];rw[Ag,jM]
  .rfl
  intro x hx;unfold Apart;simp only[ak,ao,or_false]at hx;rcases hx with rfl|rfl|rfl<;>simp[nU]
 .rw[iN h,rest_eq];rw[<-cR #[],<-cR #[]];have l1:(header [(0,[33,128,0,st])]).length=48:=bU _;have l2:=e9 (p:=16) (n:=4) (v:=tag) l1 #[];rw[rj #[] (by rw[l2,nU];decide),rj #[] (by rw[l1,nU];decide),Rl,uO #[] (by rw[l2,nU];decide),uO #[] (by rw[l1,nU];decide),UC,UE];rw[cR #[],cR #[],cR #[]]
def x9(tag k o marks:Nat):rf tag k o marks=header [(40,bytes 4 o),(36,bytes 4 k),(20,bytes 4 NONE),(16,bytes 4 tag),(0,[37,marks])]:=by unfold rf;rw[cR #[],cR #[],cR #[],cR #[]];rfl
def wC(tag k o there fj:Nat):jL (rf tag k o 129) there fj=header [(44,bytes 4 (Rest.of there fj).many),(40,bytes 4 o),(36,bytes 4 k),(20,bytes 4 NONE),(16,bytes 4 tag),(0,[37,128+(1+(Rest.of there fj).mark)])]:=by
 unfold jL;by_cases h:there=fj
 .subst h;rw[iP rfl,zp,x9,Ag,jM]
  .rfl
  intro x hx;unfold Apart;simp only[ak,ao,or_false]at hx;rcases hx with rfl|rfl|rfl|rfl|rfl<;>simp[nU]
 .rw[iN h,rest_eq];unfold rf;have l1:(header [(0,[37,129])]).length=48:=bU _;have l2:=e9 (p:=16) (n:=4) (v:=tag) l1 #[];have l3:=e9 (p:=20) (n:=4) (v:=4294967295) l2 #[];have l4:=e9 (p:=36) (n:=4) (v:=k) l3 #[];rw[rj #[] (by rw[l4,nU];decide),rj #[] (by rw[l3,nU];decide),rj #[] (by rw[l2,nU];decide),rj #[] (by rw[l1,nU];decide),UD];rw[uO #[] (by rw[l4,nU];decide),uO #[] (by rw[l3,nU];decide),uO #[] (by rw[l2,nU];decide),uO #[] (by rw[l1,nU];decide),XU,Rn];rw[cR #[],cR #[],cR #[],cR #[],cR #[]];rfl
def Lc:padded []=[]:=rfl
def qh(h1:s.heads=hs)(h2:s.datas=ds)(hb b:List Nat)(dw:Nat):pz hb b dw hs ds=sealed s (lI hb b.length dw) b:=by
 unfold pz sealed rW;rw[h1,h2];by_cases V1:b=[]
 .subst V1;simp[Lc]
 .rw[iN V1,dW];congr 2;cases ds<;>simp[V1]
def kD(n dw:Nat):lI (header l) n dw=header ((32,bytes 4 ((dw+7)%4294967296))::(28,bytes 4 dw)::(5,bytes 3 n)::l):=by unfold lI;rw[cR #[],cR #[],cR #[]]
def tells_eq(h1:s.heads=hs)(h2:s.datas=ds)(h3:s.stat=count)(h4:s.cmd=dw)(e1:∀x∈l,x∈m)(e2:∀x∈m,x∈l) (dl:((32,bytes 4 ((dw+7)%4294967296))::(28,bytes 4 dw)::(5,bytes 3 b.length)::(24,bytes 4 count)::l).Pairwise Apart) (dm:(m++([(5,bytes 3 b.length),(24,bytes 4 count)]++[(28,bytes 4 dw),(32,bytes 4 ((dw+7)%4294967296))])).Pairwise Apart): pz (put (header l) 24 (bytes 4 count)) b dw hs ds=(tells s m b).1:=by
 rw[qh h1 h2,cR #[],kD];show _=sealed s (header (m++([(5,bytes 3 b.length),(24,bytes 4 s.stat)]++[(28,bytes 4 s.cmd),(32,bytes 4 ((s.cmd+7)%W))]))) b;rw[h3,h4];congr 1;refine zm dl dm (λx hx=>?_) λx hx=>?_
 .simp only [ak,du,ao,or_false]at hx ⊢;rcases hx with h|h|h|h|h
  .exact .inr (.inr (.inr h))
  .exact .inr (.inr (.inl h))
  .exact .inr (.inl (.inl h))
  .exact .inr (.inl (.inr h))
  .exact .inl (e1 x h)
 .simp only [ak,du,ao,or_false]at hx ⊢;rcases hx with h|(h|h)|h|h
  .exact .inr (.inr (.inr (.inr (e2 x h))))
  .exact .inr (.inr (.inl h))
  .exact .inr (.inr (.inr (.inl h)))
  .exact .inr (.inl h)
  .exact .inl h
local macro_rules | `(tactic| ac_rfl) => `(tactic| (simp only[d8, ak, du, ao, or_false, forall_eq_or_imp, forall_eq, Apart, nU, AK, x8, aN, bN, cP, cx, fC, false_imp_iff, implies_true, and_true]; try omega))
def GG(h1:s.heads=hs)(h2:s.datas=ds)(h3:s.stat=count)(h4:s.cmd=dw)(tag asked st there fj:Nat): pz (put (uM tag asked st there fj) 24 (bytes 4 count)) b dw hs ds=(ends s tag st (Rest.of there fj) asked b).1:=by
 rw[wB];refine tells_eq h1 h2 h3 h4 (λx hx=>?_) (λx hx=>?_) ?_ ?_
 .simp only [ak,ao,or_false]at hx ⊢;rcases hx with h|h|h|h
  .exact .inr (.inr (.inr h))
  .exact .inr (.inr (.inl h))
  .exact .inr (.inl h)
  .exact .inl h
 .simp only [ak,ao,or_false]at hx ⊢;rcases hx with h|h|h|h
  .exact .inr (.inr (.inr h))
  .exact .inr (.inr (.inl h))
  .exact .inr (.inl h)
  .exact .inl h
 .ac_rfl
 .ac_rfl
def XW(h1:s.heads=hs)(h2:s.datas=ds)(h4:s.cmd=dw)(tag k o marks:Nat): pz (rf tag k o marks) b dw hs ds=sealed s (header ([(0,[0x25,marks]),(5,bytes 3 b.length),(16,bytes 4 tag),(20,bytes 4 NONE),(24,bytes 4 0),(36,bytes 4 k),(40,bytes 4 o),(44,bytes 4 0)]++counts s)) b:=by rw[qh h1 h2,x9,kD];subst h4;rfl
def last_eq(h1:s.heads=hs)(h2:s.datas=ds)(h3:s.stat=count)(h4:s.cmd=dw)(tag k o there fj:Nat): pz (put (jL (rf tag k o 129) there fj) 24 (bytes 4 count)) b dw hs ds=sealed s (header ([(0,[0x25,0x80+(1+(Rest.of there fj).mark)]),(5,bytes 3 b.length),(16,bytes 4 tag),(20,bytes 4 NONE),(24,bytes 4 s.stat),(36,bytes 4 k),(40,bytes 4 o),(44,bytes 4 (Rest.of there fj).many)]++counts s)) b:=by rw[qh h1 h2,wC,cR #[],kD];subst h4 h3;rfl
def XX(h1:s.heads=hs)(h2:s.datas=ds)(h3:s.stat=count)(h4:s.cmd=dw)(hl:fW.length=8)(tag num asked o n:Nat): pz (put (put (put (put (put (put (put (header [(0,[49,128])]) 8 fW) 16 (bytes 4 tag)) 20 (bytes 4 num)) 36 (bytes 4 asked)) 40 (bytes 4 o)) 44 (bytes 4 n)) 24 (bytes 4 count)) [] dw hs ds= sealed s (header ([(0,[0x31,0x80]),(8,fW),(16,bytes 4 tag),(20,bytes 4 num),(24,bytes 4 s.stat),(36,bytes 4 asked),(40,bytes 4 o),(44,bytes 4 n)]++counts s)) []:=by
 rw[qh h1 h2,fR (by rw[hl];decide),cR #[],cR #[],cR #[],cR #[],cR #[],cR #[],kD];subst h4 h3;congr 1;have e:∀l:List Ent,header ([(0,[0x31,0x80]),(8,fW),(16,bytes 4 tag),(20,bytes 4 num),(24,bytes 4 s.stat),(36,bytes 4 asked),(40,bytes 4 o),(44,bytes 4 n)]++counts s)=header ((5,aQ 3 0)::([(0,[0x31,0x80]),(8,fW),(16,bytes 4 tag),(20,bytes 4 num),(24,bytes 4 s.stat),(36,bytes 4 asked),(40,bytes 4 o),(44,bytes 4 n)]++counts s)):=λ_=>by rw[jM];unfold counts;simp only[ak,ao,or_false,forall_eq_or_imp,forall_eq,Apart,nU,AK,hl,aN,bN,dQ,cP,cx];try omega
 rw[e []];refine zm ?_ ?_ (λx hx=>?_) λx hx=>?_
 .simp only [d8,ak,ao,or_false,forall_eq_or_imp,forall_eq,Apart,nU,AK,hl,aN,bN,dQ,fC,false_imp_iff,implies_true,and_true];try omega
 .unfold counts;simp only[d8,ak,ao,or_false,forall_eq_or_imp,forall_eq,Apart,nU,AK,hl,aN,bN,dQ,cP,cx,fC,false_imp_iff,implies_true,and_true];try omega
 .unfold counts;simp only[ak,cP,cx,ao,or_false]at hx ⊢;rcases hx with h|h|h|h|h|h|h|h|h|h|h<;>(subst h;simp[W];try decide)
 .unfold counts at hx;simp only[ak,cP,cx,ao,or_false]at hx ⊢;rcases hx with h|h|h|h|h|h|h|h|h|h|h<;>(subst h;simp[W];try decide)
open L2 (iN iP)
def f_(hl:h.length=48)(hp:p+n<=48):(part h p n).length=n:=by unfold part;rw[bf,cO];lia
def Ro(h:List Nat)(p n m:Nat):part h p (n+m)=part h p n++part h (p+n) m:=by unfold part;rw[List.take_add,gX]
def GH(h:p+(a.length+b.length)<=48):header ((p,a++b)::l)=header ((p,a)::(p+a.length,b)::l):=by
 rw[<-fR (by rw[az];exact h),<-fR (p:=p) (),<-fR ()];apply fO;intro k;have hl:(header l).length=48:=bU l;rw[mq (by rw[hl,az];exact h),mq (by rw[iA (by rw[hl];lia),hl];lia),mq (by rw[hl];lia),az];by_cases h1:p<=k/\k<p+a.length
 .rw[iP (),iP h1,ft ()]
 .rw[iN h1];by_cases h2:p+a.length<=k/\k<p+a.length+b.length
  .rw[iP (),iP h2,fX ()];congr 1;lia
  .rw[iN (),iN h2]
def Ld(x m v:Nat):(header [(0,[x,m])]).set 2 v=header [(0,[x,m,v])]:=rfl
section
variable{s:Session}{hs ds:Bool}{count dw:Nat}
def Oa(h1:s.heads=hs)(h2:s.datas=ds)(h3:s.stat=count)(h4:s.cmd=dw)(h:List Nat)(why:Nat): pz (put (put ((header [(0,[63,128])]).set 2 why) 16 (bytes 4 4294967295)) 24 (bytes 4 count)) h dw hs ds=(rejects s h why).1:=by
 rw[Ld,cR #[]];refine tells_eq h1 h2 h3 h4 (λx hx=>?_) (λx hx=>?_) ?_ ?_
 .simp only [ak,ao,or_false]at hx ⊢;exact hx.symm
 .simp only [ak,ao,or_false]at hx ⊢;exact hx.symm
 .ac_rfl
 .ac_rfl
def Ob(h1:s.heads=hs)(h2:s.datas=ds)(h3:s.stat=count)(h4:s.cmd=dw)(hl:h.length=48)(v:Nat): pz (put (put ((header [(0,[34,128])]).set 2 v) 16 (part h 16 4)) 24 (bytes 4 count)) [] dw hs ds=(tells s [(0,[0x22,0x80,v]),(16,part h 16 4)] []).1:=by
 have l4:=f_ hl (p:=16) (n:=4) #[];rw[Ld,fR (by rw[l4];decide)];refine tells_eq h1 h2 h3 h4 (λx hx=>?_) (λx hx=>?_) ?_ ?_
 .simp only [ak,ao,or_false]at hx ⊢;exact hx.symm
 .simp only [ak,ao,or_false]at hx ⊢;exact hx.symm
 .simp only [d8,ak,ao,or_false,forall_eq_or_imp,forall_eq,Apart,nU,AK,l4,aN,bN,cP,cx,fC,false_imp_iff,implies_true,and_true];try lia
 .simp only [d8,ak,ao,or_false,forall_eq_or_imp,forall_eq,Apart,nU,AK,l4,aN,bN,cP,cx,fC,false_imp_iff,implies_true,and_true];try lia
def Oc(h1:s.heads=hs)(h2:s.datas=ds)(h3:s.stat=count)(h4:s.cmd=dw)(hl:h.length=48)(v:Nat): pz (put (put (put ((header [(0,[38,128])]).set 2 v) 16 (part h 16 4)) 40 (bytes 2 2)) 24 (bytes 4 count)) [] dw hs ds=(tells s [(0,[0x26,0x80,v]),(16,part h 16 4),(40,bytes 2 2)] []).1:=by
 have l4:=f_ hl (p:=16) (n:=4) #[];rw[Ld,fR (by rw[l4];decide),cR #[]];refine tells_eq h1 h2 h3 h4 (λx hx=>?_) (λx hx=>?_) ?_ ?_
 .simp only [ak,ao,or_false]at hx ⊢;rcases hx with h|h|h<;>simp[h]
 .simp only [ak,ao,or_false]at hx ⊢;rcases hx with h|h|h<;>simp[h]
 .simp only [d8,ak,ao,or_false,forall_eq_or_imp,forall_eq,Apart,nU,AK,x8,l4,aN,bN,cP,cx,fC,false_imp_iff,implies_true,and_true];try lia
 .simp only [d8,ak,ao,or_false,forall_eq_or_imp,forall_eq,Apart,nU,AK,x8,l4,aN,bN,cP,cx,fC,false_imp_iff,implies_true,and_true];try lia
def UG(h1:s.heads=hs)(h2:s.datas=ds)(h3:s.stat=count)(h4:s.cmd=dw)(hl:h.length=48)(b:List Nat): pz (put (put (put (header [(0,[32,128])]) 8 (part h 8 12)) 20 (bytes 4 4294967295)) 24 (bytes 4 count)) b dw hs ds=(tells s [(0,[0x20,0x80]),(8,part h 8 8),(16,part h 16 4),(20,bytes 4 NONE)] b).1:=by
 have l4:=f_ hl (p:=16) (n:=4) #[];have l8:=f_ hl (p:=8) (n:=8) #[];rw[fR (by rw[f_ hl #[]];decide),show(12:Nat)=8+4 from rfl,Ro h 8 8 4,GH (by rw[l4,l8];decide),l8,cR #[]];refine tells_eq h1 h2 h3 h4 (λx hx=>?_) (λx hx=>?_) ?_ ?_
 .simp only [ak,ao,or_false]at hx ⊢;rcases hx with h|h|h|h<;>simp[h]<;>rfl
 .simp only [ak,ao,or_false]at hx ⊢;rcases hx with h|h|h|h<;>simp[h]<;>rfl
 .simp only [d8,ak,ao,or_false,forall_eq_or_imp,forall_eq,Apart,nU,AK,x8,l4,l8,aN,bN,cP,cx,fC,false_imp_iff,implies_true,and_true];try lia
 .simp only [d8,ak,ao,or_false,forall_eq_or_imp,forall_eq,Apart,nU,AK,x8,l4,l8,aN,bN,cP,cx,fC,false_imp_iff,implies_true,and_true];try lia
def Jd(h3:s.stat=count)(h4:s.cmd=dw)(hl:h.length=48)(d:List Nat) (hh:hb=header [(36,[e.1,e.2]),(14,bytes 2 uq),(16,part h 16 4),(8,part h 8 6),(0,[35,flags])]): pz (put hb 24 (bytes 4 count)) d dw false false=loginAnswer s h e flags uq d:=by
 have l4:=f_ hl (p:=16) (n:=4) #[];have l6:=f_ hl (p:=8) (n:=6) #[];subst hh h3 h4;unfold loginAnswer pz;rw[cR #[],kD];have e0:∀b:List Nat,rW b false=b:=λb=>by unfold rW;simp
 have e1:(if d=[]then([]:List Nat)else rW (padded d) false)=padded d:=by
  by_cases hd:d=[]
  .subst hd;rfl
  .rw[iN hd,e0]
 rw[e0,e1];congr 1;refine zm ?_ ?_ (λx hx=>?_) λx hx=>?_
 .simp only [d8,ak,ao,or_false,forall_eq_or_imp,forall_eq,Apart,nU,AK,x8,l4,l6,aN,bN,cP,cx,fC,false_imp_iff,implies_true,and_true];try omega
 .unfold counts;simp only[d8,ak,ao,or_false,forall_eq_or_imp,forall_eq,Apart,nU,AK,x8,l4,l6,aN,bN,cP,cx,fC,false_imp_iff,implies_true,and_true];try omega
 .unfold counts;simp only[ak,ao,or_false,cP,cx]at hx ⊢;rcases hx with h|h|h|h|h|h|h|h|h<;>simp[h,W]
 .unfold counts at hx;simp only[ak,ao,or_false,cP,cx]at hx ⊢;rcases hx with h|h|h|h|h|h|h|h|h<;>simp[h,W]
def Od(hl:h.length=48)(x:Nat):((put (put (header [(0,[35,0])]) 8 (part h 8 6)) 16 (part h 16 4)).set 36 2).set 37 x=header [(36,[2,x]),(14,bytes 2 0),(16,part h 16 4),(8,part h 8 6),(0,[35,0])]:=by
 have l4:=f_ hl (p:=16) (n:=4) #[];have l6:=f_ hl (p:=8) (n:=6) #[];rw[fR (by rw[l6];decide),fR (by rw[l4];decide)];have z:bytes 2 0=aQ 2 0:=#[];have ez:header [(36,[2,x]),(14,bytes 2 0),(16,part h 16 4),(8,part h 8 6),(0,[35,0])]=header [(36,[2,x]),(16,part h 16 4),(8,part h 8 6),(0,[35,0])]:=by rw[<-fR (p:=36) (by simp),<-fR (p:=36) (by simp),z,jM];simp only[ak,ao,or_false,forall_eq_or_imp,forall_eq,Apart,l4,l6,aN,bN,dQ];try lia
 rw[ez,<-fR (p:=36) (by simp)];have hl0:(header [(16,part h 16 4),(8,part h 8 6),(0,[35,0])]).length=48:=bU _;apply fO;intro k;rw[bC,bC,br,hl0,mq (by rw[hl0];show 36+2<=48;decide)];by_cases k1:37=k
 .subst k1;simp
 .rw[iN k1];by_cases k2:36=k
  .subst k2;simp
  .rw[iN k2,iN (by simp;lia)]
def Le(hl:h.length=48)(m:Nat):put (put (header [(0,[35,m])]) 8 (part h 8 6)) 16 (part h 16 4)=header [(36,[0,0]),(14,bytes 2 0),(16,part h 16 4),(8,part h 8 6),(0,[35,m])]:=by
 have l4:=f_ hl (p:=16) (n:=4) #[];have l6:=f_ hl (p:=8) (n:=6) #[];rw[fR (by rw[l6];decide),fR (by rw[l4];decide)];have z:bytes 2 0=aQ 2 0:=#[];rw[show([0,0]:List Nat)=aQ 2 0 from rfl,jM,z,jM]
 .simp only [ak,ao,or_false,forall_eq_or_imp,forall_eq,Apart,l4,l6,aN,bN,dQ];try lia
 .simp only [ak,ao,or_false,forall_eq_or_imp,forall_eq,Apart,x8,l4,l6,aN,bN,dQ];try lia
def Oe(hl:h.length=48)(m v:Nat):put (put (put (header [(0,[35,m])]) 8 (part h 8 6)) 16 (part h 16 4)) 14 (bytes 2 v)=header [(36,[0,0]),(14,bytes 2 v),(16,part h 16 4),(8,part h 8 6),(0,[35,m])]:=by have l4:=f_ hl (p:=16) (n:=4) #[];have l6:=f_ hl (p:=8) (n:=6) #[];rw[fR (by rw[l6];decide),fR (by rw[l4];decide),cR #[]];rw[show([0,0]:List Nat)=aQ 2 0 from rfl,jM];simp only[ak,ao,or_false,forall_eq_or_imp,forall_eq,Apart,x8,l4,l6,aN,bN,dQ];try lia
end
def pEnd(burst theirs o len:Nat):Nat:=min (min ((o/burst+1)*burst) len) (o+theirs)
def Bj(hb:0<burst)(ht:0<theirs)(ho:o<len):o<pEnd burst theirs o len/\pEnd burst theirs o len<=len:=by
 have:o<(o/burst+1)*burst:=by have:=Hr o burst;have h2:=lC o hb;rw[SO,FR,O7];omega
 unfold pEnd;omega
def Rp(hb:0<burst)(h1:o<e)(h2:e<=(o/burst+1)*burst)(h3:e%burst=0):e=(o/burst+1)*burst:=by
 have h4:e=e/burst*burst:=by have:=Hr e burst;rw[h3,qE,O7]at this;exact this.symm
 have h5:o/burst<e/burst:=by apply Nat.lt_of_not_le;intro hc;have:e/burst*burst<=o/burst*burst:=SQ _ hc;have:=Tj o burst;lia
 have h6:e/burst<=o/burst+1:=by apply oZ;intro hc;have:(o/burst+1+1)*burst<=e/burst*burst:=SQ _ hc;rw[SO (o/burst+1)]at this;lia
 rw[h4,show e/burst=o/burst+1 by lia]
def Lf(hb:0<s.burst)(ht:0<s.theirs)(ho:o<d.length)(hn:pEnd s.burst s.theirs o d.length≠d.length): pieces s itt x d (f+1) o k=sealed s (header ([(0,[0x25,if pEnd s.burst s.theirs o d.length%s.burst=0 then 0x80 else 0]),(5,bytes 3 (pEnd s.burst s.theirs o d.length-o)),(16,bytes 4 itt),(20,bytes 4 NONE),(24,bytes 4 0),(36,bytes 4 k),(40,bytes 4 o),(44,bytes 4 0)]++counts s)) (part d o (pEnd s.burst s.theirs o d.length-o))++pieces s itt x d f (pEnd s.burst s.theirs o d.length) (k+1):=by
 obtain⟨g1,g2⟩:=Bj hb ht ho;have en:o+min s.theirs (min d.length ((o/s.burst+1)*s.burst)-o)=pEnd s.burst s.theirs o d.length:=by have:=Bj hb ht ho;unfold pEnd at this ⊢;omega
 have en2:min s.theirs (min d.length ((o/s.burst+1)*s.burst)-o)=pEnd s.burst s.theirs o d.length-o:=by omega
 rw[pieces];try dsimp only
 rw[en,en2];have el:decide (pEnd s.burst s.theirs o d.length=d.length)=false:=decide_eq_false hn;rw[el];have ef:(pEnd s.burst s.theirs o d.length=min d.length ((o/s.burst+1)*s.burst))↔pEnd s.burst s.theirs o d.length%s.burst=0:=by
  constructor
  .intro q;have:min d.length ((o/s.burst+1)*s.burst)=(o/s.burst+1)*s.burst:=by omega
   rw[q,this];exact Nat.mul_mod_left _ _
  .intro q;have:=Rp hb g1 (by unfold pEnd;omega) q;omega
 simp only[mD,if_false,ef,qE]
def Je(hb:0<s.burst)(ht:0<s.theirs)(ho:o<d.length)(hn:pEnd s.burst s.theirs o d.length=d.length): pieces s itt x d (f+1) o k=sealed s (header ([(0,[0x25,0x80+(1+x.mark)]),(5,bytes 3 (d.length-o)),(16,bytes 4 itt),(20,bytes 4 NONE),(24,bytes 4 s.stat),(36,bytes 4 k),(40,bytes 4 o),(44,bytes 4 x.many)]++counts s)) (part d o (d.length-o)):=by
 have en:o+min s.theirs (min d.length ((o/s.burst+1)*s.burst)-o)=d.length:=by have:=Bj hb ht ho;unfold pEnd at this hn;lia
 have en2:min s.theirs (min d.length ((o/s.burst+1)*s.burst)-o)=d.length-o:=();have et:d.length=min d.length ((o/s.burst+1)*s.burst):=by unfold pEnd at hn;lia
 rw[pieces];try dsimp only
 rw[en,en2,<-et];simp
end My
namespace My
open PySem PySem.Spec PyProof.Rows L2
variable{P:cq}{w:dH}{K:aq}{mg:bL->Option aM}{aR:gD}{C:Cl}
variable(T:Txt P w K mg C)
theorem Fu:∀(l:List Nat),TL.E5 [] (l.map λz=>[z])=l
 | []=>rfl
 | [z]=>rfl
 |z::y::r=>by show[z]++([]++TL.E5 [] ((y::r).map λz=>[z]))=z::y::r;rw[Fu (y::r)];rfl
def Fv:T.Fd.D P w aR 2 (K3 K):=by
 refine T.Fd.ok ?_;kd_p
 obtain⟨a,b,rfl,hb,hl,k⟩:=h;exists _,(aj (aP (Ud dS (Mn (own:=[("octet",1)]) rfl nd (kI b4) (show vt ["octets","octet"] (cW NN) _ _ from⟨rfl,by decide+kernel,by decide+kernel,by decide+kernel,by decide+kernel⟩) (λs H C cl fp=>Cc 1 nd) (λs H C cl fp=>uK) (te:=sk Cw [] E0 (iR (jU 1) kK)) (λs H C cl fp=>aI (N2 T) (fN cC))))));nomatch⟨_,rfl⟩,I,a,rfl,⟨_,hb⟩,λD hD=>A_ (K:=K) (a:=a) (xs:=nV b) (λi H'=>H' D=some (.lst (((b.take i).map λz=>(⟨#[fq z]⟩:bL)).map V.str))/\a_ H H') ⟨ae,aS (a_.refl H) hD _⟩ (λi H' _ h=>h.2.seq hb) ?_ ?_
 .rintro i y H' hi ⟨g1,g2⟩;obtain⟨z,hz,rfl⟩:=zi hi;have hib:i<b.length:=(aE.mp hz).1;exists rfl;unfold Nt;refine fI ?_;exists I,z,rfl;nomatch _,g1,by rw[aK,aK,bf,sizeLine_eq];lia,ae.trans ?_,λb o e=>by rw[aG (ai e hD)];exact g2 b o e
  rw[fP,hz,bW,bW];rfl
 .rintro H' ⟨g1,g2⟩;rw[bA,gJ]at g1;exists _,D,b.map (λz=>(⟨#[fq z]⟩:bL)),rfl,rfl,.inl (fT.of g1),?_
  .have e1:((b.map λz=>(⟨#[fq z]⟩:bL)).map (·.length)).sum=b.length:=by
    clear k g1 hb hl;induction b with
    |nil=>rfl
    |cons x r ih=>rw[bp,bp,oX,ih,aN];show 1+r.length=r.length+1;lia
   have e2:(ay "").length=0:=rfl;rw[e1];show b.length+_*(ay "").length<=16777216;rw[e2];lia
  .have e:Txt.join (ay "") (b.map λz=>(⟨#[fq z]⟩:bL))=⟨(b.map fq).toArray⟩:=by apply TL.rL;rw[TL.join_eq,TL.Mu,cY];have e3:(TL.tl ∘ λz=>(⟨#[fq z]⟩:bL))=(λz=>[z])∘ fq:=rfl;rw[e3,<-cY];show TL.E5 [] _=b.map fq;rw[Fu]
   exact e▸k H' g2
inductive GI(C:Cl)(vs:List V)(H:Hp)(Q:VK)(kn:XK):Prop
 |mk(d dx:aB)(_:vs=[.ref d])(_:H d=some (.ins C.Disk dx []))(_:∀H' wa ba,H' d=some (.ins C.Disk dx (jt.fs ⟨wa,ba⟩))->H' wa=some (.dK [])->fK H' ba (nV (aQ 512 0))->H wa=none->gU d H H'->Q .eY H')
def Rq:T.zW.D P w aR 1 (GI C):=by
 refine T.zW.ok ?_;kd_p
 obtain⟨d,dx,rfl,h1,k⟩:=h;exists _,(aa (ck b4 tP rfl) (aj (ck b4 (jm (bO tK (dN (fN au)) (aU T.hZ))) rfl)));refine λwa Zf=>⟨_,rfl,d,C.Disk,dx,_,rfl,(by rw[aG (ai h1 Zf)];exact h1),T.mi,T.jY,(by show 0<1000;decide),?_⟩;have hdw:d≠wa:=ai h1 Zf;have B1:gU d H (upd (upd H wa (.dK [])) d (.ins C.Disk dx (fm "written" (.ref wa) []))):=((gU.refl d H).new Zf _).upd _;have w1:upd (upd H wa (.dK [])) d (.ins C.Disk dx (fm "written" (.ref wa) [])) wa=some (.dK []):=by rw[aG (aL hdw)];exact ae
 nomatch(by show 1<=aH;decide),λp1 g1=>⟨p1,512,_,rfl,rfl,ae,#[],#[],by show 1*512<=aH;decide,λp2 g2=>⟨p2,_,rfl,ae,λod=>?_⟩⟩
 have s1:=aS (a_.refl _) g1 (.lst [V.int 0]);have s2:=aS s1 g2 (.lst ((aQ (512:Int).toNat [V.int 0]).flatten));have s3:=a_.nQ s2 (s1.free g2) (.gm od (.lst ((aQ (512:Int).toNat [V.int 0]).flatten)));exists I,d,C.Disk,dx,I,s3 _ _ ae,T.mi,T.vT,(by show 1<1000;decide);have hdp:d≠p2:=ai ae (s1.free g2);refine k _ wa p2 (ae.trans rfl) ?_ ⟨od,?_⟩ Zf ?_
 .rw[aG (aL hdw)];exact s3 _ _ w1
 .rw[aG (aL hdp),ae];have e0:=Cv 512;exact congrArg (λz=>some (HO.gm od (.lst z))) e0
 .exact gU.upd (λc o hc nc=>s3 c o (B1 c o hc nc)) _
inductive GJ(C:Cl)(vs:List V)(H:Hp)(Q:VK)(kn:XK):Prop
 |mk(a:aB)(f:jt)(wr:List sH)(_:vs=[.ref a])(_:jH C H a f wr)(_:∀H' p f',H p=none->H f'.written=none->jH C H' p f' wr->a_ H H'->Q (.ref p) H')
def Jf:T.zX.D P w mg aR 3 (GJ C):=by
 refine T.zX.ok ?_;kd_p
 obtain⟨a,f,wr,rfl,D,k⟩:=h;exists _,(aa (cJ 1 nd (xA (Rq T))) (aa (ck cC (iW rO (by rfl) T.zg uL (fN (aT b4 rfl))) rfl) (aj (aP cC))));intro x dx hx CL sU;nomatch x,dx,rfl,ae,λH1 wa ba e1 e2 e3 Zf B1=>⟨rfl,?_⟩
 have s1:a_ H H1:=λc o hc=>B1 c o (by rw[aG (ai hc hx),aG (ai hc CL)];exact hc) (ai hc hx);obtain⟨da,hd⟩:=D.at_;nomatch I,a,C.Disk,da,_,I,s1 _ _ hd,T.mi,T.jY,f.l_written,f.written,I,.inl (s1 _ _ D.rh),λp hp=>?_
 have s2:=aS (a_.refl H1) hp (.dK (AJ wr));exists I,x,C.Disk,dx,I,s2 _ _ e1,T.mi,T.jY,jt.len _;rw[jt.N6];have hxp:x≠p:=ai e1 hp;have s3:a_ H (upd (upd H1 p (.dK (AJ wr))) x (.ins C.Disk dx (jt.fs ⟨p,ba⟩))):=a_.nQ (s1.trans s2) hx _;exists I;refine k _ x ⟨p,ba⟩ hx (s1.free hp) ⟨⟨dx,ae⟩,by show upd _ x _ p=_;rw[aG (aL hxp)];exact ae,?_,λy hy=>⟨(D.row y hy).1,(D.row y hy).2.1,fK.same (D.row y hy).2.2 s3⟩,D.nd⟩ s3;obtain⟨o,eo⟩:=e3;nomatch o,by show upd _ x _ ba=_;rw[aG (bV eo e1 nofun)];exact s2 _ _ eo
def qy(wr:List sH)(x:sH):List sH:=if(wr.any λy=>y.n==x.n)=true then wr.map (λy=>if y.n=x.n then x else y)else wr++[x]
def Rr(wr:List sH)(x:sH):AJ (qy wr x)=putK (AJ wr) (.inl (x.n:Int)) (.ref x.a):=by
 unfold qy putK AJ;have e:((wr.map λ(y:sH)=>((.inl (y.n:Int):Key),V.ref y.a)).any λkv=>decide (kv.1= .inl (x.n:Int)))=wr.any λy=>y.n==x.n:=by
  rw[nB];congr 1;funext y;by_cases h:y.n=x.n
  .have h2:(y.n==x.n)=true:=beq_iff_eq.mpr h;rw[h2];exact decide_eq_true (show(eQ (y.n:Int):Key)=eQ (x.n:Int) by rw[h])
  .have h2:(y.n==x.n)=false:=beq_eq_false_iff_ne.mpr h;rw[h2];exact decide_eq_false (λq=>h (nE (qK q)))
 rw[e];split
 .rw[cY,cY];apply gr;intro y _;show _=(if(eQ (y.n:Int):Key)= .inl (x.n:Int)then((eQ (y.n:Int):Key),V.ref x.a)else(.inl (y.n:Int),.ref y.a));by_cases h:y.n=x.n
  .rw[iP (by rw[h])];show((eQ (((if y.n=x.n then x else y).n:Nat):Int):Key),V.ref (if y.n=x.n then x else y).a)=_;rw[iP h,h]
  .have hq:¬(eQ (y.n:Int):Key)= .inl (x.n:Int):=λq=>h (nE (qK q));rw[iN hq];show((eQ (((if y.n=x.n then x else y).n:Nat):Int):Key),V.ref (if y.n=x.n then x else y).a)=_;rw[iN h]
 .rw[bW];rfl
def Of(wr:List sH)(x:sH)(n:Nat):rowAt (qy wr x) n=if n=x.n then some x else rowAt wr n:=by
 unfold qy rowAt;induction wr with
 |nil=>
  by_cases h:n=x.n
  .simp[h]
  .simp[h,aL h]
 |cons y r ih=>
  by_cases hy:y.n=x.n
  .rw[iP (by simp[hy]),bp,iP hy,dv];by_cases h:n=x.n
   .simp[h]
   .have:(x.n==n)=false:=beq_eq_false_iff_ne.mpr (aL h);rw[this,iN h,dv];have:(y.n==n)=false:=beq_eq_false_iff_ne.mpr (by rw[hy];exact aL h);rw[this];dsimp only;clear ih;induction r with
    |nil=>rfl
    |cons z r ih2=>
     rw[bp,dv,dv,ih2];by_cases hz:z.n=x.n
     .rw[iP hz];have h1:(x.n==n)=false:=beq_eq_false_iff_ne.mpr (aL h);have h2:(z.n==n)=false:=beq_eq_false_iff_ne.mpr (by rw[hz];exact aL h);rw[h1,h2]
     .rw[iN hz]
  .have e:((y::r).any λz=>z.n==x.n)=r.any λz=>z.n==x.n:=by rw[fg,beq_eq_false_iff_ne.mpr hy,gc]
   rw[e];have e2:(if(r.any λz=>z.n==x.n)=true then(y::r).map (λz=>if z.n=x.n then x else z)else y::r++[x])=y::(if(r.any λz=>z.n==x.n)=true then r.map (λz=>if z.n=x.n then x else z)else r++[x]):=by
    split
    .rw[bp,iN hy]
    .rfl
   rw[e2,dv,dv,ih];by_cases h:y.n=n
   .have:(y.n==n)=true:=beq_iff_eq.mpr h;have hn:¬n=x.n:=by rw[<-h];exact hy
    simp only[this,hn,if_false]
   .have:(y.n==n)=false:=beq_eq_false_iff_ne.mpr h;rw[this]
def Lg(h:y∈qy wr x):y=x\/y∈wr:=by
 unfold qy at h;split at h
 .obtain⟨z,hz,rfl⟩:=cG.mp h;by_cases e:z.n=x.n
  .rw[iP e];exact .inl rfl
  .rw[iN e];exact .inr hz
 .rcases du.mp h with h|h
  .exact .inr h
  .exact .inl (aO.mp h)
def Og(h:(wr.map sH.n).Nodup):((qy wr x).map sH.n).Nodup:=by
 unfold qy;split
 .have e:(wr.map λy=>if y.n=x.n then x else y).map sH.n=wr.map sH.n:=by
   rw[cY];apply gr;intro y _;show(if y.n=x.n then x else y).n=y.n;split
   .rename_i e;exact e.symm
   .rfl
  rw[e];exact h
 .rename_i hn;rw[bW];refine Gd h λhm=>hn ?_;obtain⟨y,hy,e⟩:=cG.mp hm;exact Wl.mpr ⟨y,hy,beq_iff_eq.mpr e⟩
theorem Ah:∀(n:Nat)(l:List Nat),l.Nodup->(∀x∈l,x<n)->l.length<=n
 |0,l,_,h=>by
  cases l with
  |nil=>exact bw _
  |cons a r=>exact absurd (h a bI) (Nat.not_lt_zero _)
 |n+1,l,nd,h=>by
  have h1:(l.erase n).length<=n:=Ah n (l.erase n) (nd.erase n) λx hx=>by have Zg:=(nd.mem_erase_iff).mp hx;have:=h x Zg.2;have:=Zg.1;lia
  have h2:l.length<=(l.erase n).length+1:=by
   by_cases hm:n∈l
   .rw[List.length_erase_of_mem hm];lia
   .rw[List.erase_of_not_mem hm];lia
  lia
def Ru{wr:List sH}(nd:(wr.map sH.n).Nodup)(h:∀x∈wr,x.n<2048):wr.length<=2048:=by
 have hs:(wr.map sH.n)⊆ Am 2048:=λn hn=>by obtain⟨x,hx,rfl⟩:=cG.mp hn;exact Hu.mpr (h x hx)
 have:=Ah 2048 (wr.map sH.n) nd (λx hx=>Hu.mp (hs hx));rw[aK]at this;exact this
def Lh(wr:List sH)(x:sH):bM (qy wr x)=λp=>if p/512=x.n then x.r.getD (p%512) 0 else bM wr p:=by
 funext p;unfold bM nS;rw[Of];by_cases h:p/512=x.n
 .rw[iP h,iP h]
 .rw[iN h,iN h]
def Li(h:512*(j+1)<=b.length):(λp=>if p/512=lX+j then(aD b (512*j) 512).getD (p%512) 0 else mE d lX (b.take (512*j)) p)=mE d lX (b.take (512*(j+1))):=by
 funext p;unfold mE aD;rw[bf,bf,dM (),dM h];by_cases hp:p/512=lX+j
 .rw[iP hp,iP (),bK,bK,d7 (),d7 (),qM];congr 2;lia
 .rw[iN hp];by_cases h2:512*lX<=p/\p<512*lX+512*j
  .rw[iP h2,iP (),bK,bK,d7 (),d7 ()]
  .rw[iN h2,iN ()]
inductive Ef(K:aq)(C:Cl)(vs:List V)(H:Hp)(Q:VK)(kn:XK):Prop
 |mk(a c:aB)(f:jt)(wr:List sH)(lX n:Nat)(b:List Nat)(_:vs=[.ref a,.int lX,.ref c])(_:jH C H a f wr)(_:Rd H c (.lst (nV b)))(_:b.length=512*n)(_:lX+n<=2048)(_:∀H' wr',jH C H' a f wr'->bM wr'=mE (bM wr) lX b->gU f.written H H'->Q .eY H')
def x_:T.pZ.D P w mg aR 1 (Ef K C):=by
 refine T.pZ.ok ?_;kd_p
 obtain⟨a,c,f,wr,lX,n,b,rfl,D,hc,hb,hn,k⟩:=h;have hu:=lS hr;exists _,(aj (mY d9 rfl (ES rfl T.Gu (fN (bO uI (bZ cV (by rfl) T.gT fQ (fN fF)) (aU T.hZ)))) (Cc 3 nd) (aa (cJ 4 nd (bO wo gQ (aU T.hZ))) (aj (ng hu (aT b4 rfl) (bO eJ cC gQ) (jm (ej fV fF (cS kS) (cS (bO eJ kS (aU T.hZ))))) rfl)))));obtain rfl:n=b.length/512:=();nomatch I,_,b.length,rfl,.inl ⟨nV b,hc.sq,by rw[bA]⟩,J,⟨#[],#[]⟩,((b.length/512:Nat):Int),rfl,(),(),ET (n:=b.length/512) (λi σ H'=>∃(v3 v4:Option V)(wr':List sH),σ=[some (.ref a),some (.int lX),some (.ref c),v3,v4]/\jH C H' a f wr'/\bM wr'=mE (bM wr) lX (b.take (512*i))/\gU f.written H H') ⟨none,none,wr,rfl,D,?_,gU.refl _ H⟩ ?_ ?_
 .funext p;unfold mE;rw[iN (by simp<;>lia)]
 .rintro i σ H' hi ⟨v3,v4,wr',rfl,D',DN,hB⟩;have hi:i<b.length/512:=by simpa using hi
  obtain⟨dx,h1⟩:=D'.at_;have hcw:c≠f.written:=by
   rcases hc with h|⟨o,h⟩
   .exact bV h D.rh nofun
   .exact bV h D.rh nofun
  have HC:Rd H' c (.lst (nV b)):=Rd.but hc hcw hB;exists I,J,.inr ⟨#[],#[]⟩;nomatch I,I,I,I,J,I,c,nV b,rfl,HC.sq,λp hp=>⟨p,_,rfl,ae,λod=>?_⟩
  have s1:=aS (a_.refl H') hp (.lst (jv (nV b) (some ((0+(i:Int))*512)) (some ((0+(i:Int))*512+512))));have s2:=a_.nQ s1 hp (.gm od (.lst (jv (nV b) (some ((0+(i:Int))*512)) (some ((0+(i:Int))*512+512)))));have XY:jv (nV b) (some ((0+(i:Int))*512)) (some ((0+(i:Int))*512+512))=nV (aD b (512*i) 512):=by have e:=zj b (512*i) 512;rw[<-e];congr 2<;>lia
  have hl:(AJ wr').length<aH:=by have:=Ru D'.nd (λx hx=>(D'.row x hx).2.1);unfold AJ;rw[aK,sizeLine_eq];lia
  have ek:(V.int ((lX:Int)+(0+(i:Int))))=kV (.inl ((lX+i:Nat):Int)):=by show V.int _=V.int _;congr 1;lia
  exists I,a,C.Disk,dx,_,I,s2 _ _ h1,T.mi,T.jY,f.l_written,I,I,J,f.written,I,(show u_ _ _ (V.int ((lX:Int)+(0+(i:Int)))) _ _ by rw[ek];exact u_.k (s2 _ _ D'.rh) hl);have hpw:p≠f.written:=aL (ai D'.rh hp);have hdw:a≠f.written:=bV h1 D'.rh nofun;have s3:∀c' o,H' c'=some o->c'≠f.written->upd (upd (upd H' p (.lst (jv (nV b) (some ((0+(i:Int))*512)) (some ((0+(i:Int))*512+512))))) p (.gm od (.lst (jv (nV b) (some ((0+(i:Int))*512)) (some ((0+(i:Int))*512+512)))))) f.written (.dK (putK (AJ wr') (.inl ((lX+i:Nat):Int)) (.ref p))) c'=some o:=λc' o HC nc=>by rw[aG nc];exact s2 c' o HC
  have fz:∀b' xs,fK H' b' xs->b'≠f.written:=λb' xs⟨o,e⟩=>bV e D'.rh nofun;exists _,_,qy wr' ⟨lX+i,p,aD b (512*i) 512⟩,rfl,⟨⟨dx,s3 _ _ h1 hdw⟩,ae.trans (by rw[Rr]),?_,λy hy=>?_,Og D'.nd⟩,?_
  .obtain⟨o,e⟩:=D'.blank;nomatch o,s3 _ _ e (fz _ _ D'.blank)
  .rcases Lg hy with rfl|hy
   .exists ?_,by show lX+i<2048;lia,od
    .show(aD b (512*i) 512).length=512;unfold aD;rw[bf,cO];lia
    .show upd _ f.written _ p=_;rw[aG hpw,ae,XY]
   .obtain⟨r1,r2,o,e⟩:=D'.row y hy;nomatch r1,r2,o,s3 _ _ e (fz _ _ ⟨o,e⟩)
  .rw[Lh,DN];exact Li ()
  .exact λc' o HC nc=>s3 c' o (hB c' o HC nc) nc
 .rintro σ H' ⟨v3,v4,wr',rfl,D',DN,hB⟩;have et:b.take (512*(b.length/512))=b:=cA ();rw[et]at DN;exact k H' wr' D' DN hB
end My
namespace My
open PySem PySem.Spec PyProof.Rows L2 Ql73
def cK(b:List Nat):bL:=⟨b.toArray⟩
def sv(v:List Nat):bL:=cK (v.map fq)
def Bk(b:List Nat):TL.tl (cK b)=b:=rfl
def V3(v:List Nat):TL.tl (sv v)=v.map fq:=rfl
def Jg(b:List Nat):(cK b).length=b.length:=by rw[TL.n9];rfl
def lO(v:List Nat):(sv v).length=v.length:=by rw[TL.n9,V3,aK]
def CO(h:cK a=cK b):a=b:=by have:=congrArg TL.tl h;exact this
def yb(s:String):TL.tl (ay s)=ascii s:=TL.Ig s
def eB(s:String):cK (ascii s)=ay s:=TL.rL (by rw[yb];rfl)
def Oh:∀c,c<128->Unicode.isAlnum c=isKey c:=by decide+kernel
def Oi:∀c,c<128->Unicode.isDigit c=iy c:=by decide+kernel
def GK(z:Nat):fq z<128:=by unfold fq;split<;>lia
def Rv(z:Nat):Unicode.isAlnum (fq z)=isKey z:=by
 rw[Oh _ (GK z)];unfold fq;split
 .rfl
 .have e:isKey z=false:=by unfold isKey;simp only[iD,O9,decide_eq_false_iff_not];lia
  rw[e];decide
def Rw(z:Nat):Unicode.isDigit (fq z)=iy z:=by
 rw[Oi _ (GK z)];unfold fq;split
 .rfl
 .have e:iy z=false:=by unfold iy;simp only[O9,decide_eq_false_iff_not];lia
  rw[e];decide
def Rx(k:List Nat):Txt.isalnum (sv k)=(!k.isEmpty&&k.all isKey):=by
 unfold Txt.isalnum;have e1:decide ((sv k).length>0)= !k.isEmpty:=by rw[lO];cases k<;>rfl
 have e2:(sv k).cps.all Unicode.isAlnum=k.all isKey:=by show(k.map fq).toArray.all Unicode.isAlnum=_;rw[s_,By];congr 1;funext z;exact Rv z
 rw[e1,e2]
def Ry(k:List Nat):Txt.isdigit (sv k)=(!k.isEmpty&&k.all iy):=by
 unfold Txt.isdigit;have e1:decide ((sv k).length>0)= !k.isEmpty:=by rw[lO];cases k<;>rfl
 have e2:(sv k).cps.all Unicode.isDigit=k.all iy:=by show(k.map fq).toArray.all Unicode.isDigit=_;rw[s_,By];congr 1;funext z;exact Rw z
 rw[e1,e2]
def ur{k:List Nat}(h:∀z∈k,44<=z/\z<123):k.map fq=k:=by
 conv=>rhs;rw[<-Px k]
 apply gr;intro z hz;unfold fq;rw[iP (h z hz)];rfl
def Fw{k:List Nat}(h:k.all isKey=true):∀z∈k,44<=z/\z<123:=λz hz=>by have:=dI.mp h z hz;unfold isKey at this;simp only[ky,cz,decide_eq_true_eq]at this;lia
def XZ(h:k.all isKey=true):sv k=cK k:=by unfold sv;rw[ur (Fw h)]
def Known(c:List Nat):Prop:=∀z∈c,44<=z/\z<123
def wD(hc:Known c):∀{v:List Nat},v.map fq=c↔v=c:=by
 intro v;constructor
 .intro h;subst h;symm;apply ur;intro z hz;have:=hc (fq z) (cG.mpr ⟨z,hz,rfl⟩);unfold fq at this;split at this
  .assumption
  .lia
 .rintro rfl;exact ur hc
def uu(hc:Known c):(sv v=cK c)↔v=c:=by
 constructor
 .intro h;exact(wD hc).mp (CO h)
 .rintro rfl;unfold sv;rw[ur hc]
def o4(h:(ascii s).all (λz=>decide (44<=z)&&decide (z<123))=true):Known (ascii s):=λz hz=>by have:=dI.mp h z hz;simpa using this
theorem Rz:∀(l acc:List Nat),TL.zU [44] 0 acc l=match names l with
  |p::r=>(acc++p)::r
  | []=>[acc]
 | [],acc=>by rw[TL.Ba];show[acc]=[acc++[]];rw[eT]
 |c::r,acc=>by
  by_cases h:c=44
  .subst h;rw[TL.Mt (by simp[TL.pre]),names];have ih:=Rz r [];cases e:names r with
   |nil=>rw[e]at ih;exact absurd ih (by
     have:∀l,names l≠[]:=by
      intro l;cases l with
      |nil=>simp[names]
      |cons a b=>
       rw[names];split
       .split<;>simp
       .simp
     exact absurd e (this r))
   |cons p l=>rw[e]at ih;show acc::TL.zU [44] 0 [] r=_;rw[ih];simp
  .have hp:TL.pre [44] (c::r)=false:=by simp[TL.pre,h]
   rw[TL.zU,iN (by rw[hp];decide),Rz r (acc++[c]),names];cases e:names r with
   |nil=>simp
   |cons p l=>simp[h]
def Jh:∀l,names l≠[]:=by
 intro l;cases l with
 |nil=>simp[names]
 |cons a b=>
  rw[names];split
  .split<;>simp
  .simp
theorem Fx:∀v:List Nat,names (v.map fq)=(names v).map λp=>p.map fq
 | []=>rfl
 |c::r=>by
  rw[bp,names,names,Fx r];cases e:names r with
  |nil=>exact absurd e (Jh r)
  |cons p l=>
   have h44:(fq c=44)↔(c=44):=by unfold fq;split<;>lia
   rw[bp];show(if fq c=44 then[]::p.map fq::l.map (λp=>p.map fq)else(fq c::p.map fq)::l.map (λp=>p.map fq))=(if c=44 then[]::p::l else(c::p)::l).map (λp=>p.map fq);by_cases h:c=44
   .rw[iP (h44.mpr h),iP h];rfl
   .rw[iN (λz=>h (h44.mp z)),iN h];rfl
def Ji(v:List Nat):Txt.split (sv v) (ay ",")=(names v).map sv:=by
 apply TL.BU;have ey:TL.tl (ay ",")=[44]:=by rw[yb];decide
 rw[TL.ND _ _ (by rw[ey];simp) (TL.Ua (by decide+kernel)),ey,V3,Rz];rw[Fx];cases e:names v with
 |nil=>exact absurd e (Jh v)
 |cons p l=>rw[bp,bp,bp,cY];rfl
end My
namespace My
open PySem PySem.Spec PyProof.Rows L2
variable{P:cq}{w:dH}{K:aq}{mg:bL->Option aM}{aR:gD}{C:Cl}
variable(T:Txt P w K mg C)
structure pK(C:Cl)(H:Hp)(ta:aB)(t:cf)(lun cdb got:List Nat):Prop where
 at_:jo C H ta t
 vd:fK H t.aw (nV lun)
 oT:fK H t.ah (nV cdb)
 mF:H t.ad=some (.lst (nV got))
 ll:lun.length=8
 lc:cdb.length=16
theorem pK.same(M:pK C H ta t fW dC got)(s:a_ H H'):pK C H' ta t fW dC got:=⟨M.at_.same s,fK.same M.vd s,fK.same M.oT s,s _ _ M.mF,M.ll,M.lc⟩
def AH.mono(k:AH C H Q x)(s:a_ H H1):AH C H1 Q x:=λH' p f bB hp O s'=>k H' p f bB (s.free hp) O (s.trans s')
def ifC(h:Q (if c=true then x else y) H):if c=true then tC x σ H Q else tC y σ H Q:=by cases c<;>exact h
def CP{c A A' B:Prop}[Decidable c](f:A'->A)(h:if c then A' else B):if c then A else B:=by
 split
 .rename_i hc;rw[iP hc]at h;exact f h
 .rename_i hc;rw[iN hc]at h;exact h
def Jj{a b:Bool}{X R:Prop}(h1:a=true->b=true->X)(h2:¬(a=true/\b=true)->R):if a=true then(if b=true then X else R)else(if false=true then X else R):=by
 cases a with
 |false=>exact h2 (λz=>nomatch z.1)
 |true=>cases b with
  |false=>exact h2 (λz=>nomatch z.2)
  |true=>exact h1 rfl rfl
def GL(fW dC:List Nat):jQ:=if dC.getD 1 0%2=1\/dC.getD 2 0≠0 then fY 5 0x24 0 else fA ((if(fW.all λx=>x==0)=true then Bz else 0x7F::Ql73.INQUIRY.drop 1).take (ax dC 3 2))
def rX(b:List Nat)(n:Nat):jv (nV b) none (some (n:Int))=nV (b.take n):=by have e:=lH b 0 n (bQ _);rw[Nat.sub_zero]at e;exact e
def CQ:TL.tl (ay "EXAMPLE DISK OVER A LINE0001")=ag "EXAMPLE "++(ag "DISK OVER A LINE"++ag "0001"):=by decide+kernel
def zr{H H1 H2:Hp}{Q:VK}{b:List Nat}{a:aB}{x:jQ}(k:AH C H Q x)(e:x=fA b)(s:a_ H H1)(ha:H a=none): ∀H' p f bB,H1 p=none->K_ C H' p (fA b) f bB->gU a H1 H'->Q (.ref p) H':=λH' p f bB hp O hB=>by subst e;exact k H' p f bB (s.free hp) O λc o hc=>hB c o (s c o hc) (ai hc ha)
inductive Lj(C:Cl)(vs:List V)(H:Hp)(Q:VK)(kn:XK):Prop
 |mk(ta t fW dC got)(_:vs=[.ref ta])(_:pK C H ta t fW dC got)(_:AH C H Q (GL fW dC))
def Oj:T.Fh.D P w aR 4 (Lj C):=by
 refine T.Fh.ok ?_;kd_p
 obtain⟨ta,t,fW,dC,got,rfl,M,k⟩:=h;exists _,(aa (cJ 1 nd (aT b4 rfl)) (aa (bH (kR (bg fD (bO yU (fE cX cC au (λ_ _=>rfl)) au) au (bD _)) (j6 (bg k_ (fE cX cC au (λ_ _=>rfl)) au (bD _)))).pt (aj (aP (aI (nR T) (i5 (aU T.gS) (aU T.nv))))) aZ) (aa (cJ 2 nd (kC (dA (b_ (px T) T.bh b4)) au au)) (aa (cJ 3 nd (bO oS (dN (kh fF (kh au (kh au (kh au (va au au au au)))))) (aI (uh T) (fN dS)))) (aj (aP (aI (Bi T) (fN (ej fV gQ oP (cS (aI (dY T) (mh cC au au))))))))))));obtain⟨dx,h1⟩:=M.at_;have lc:=M.lc;exists I,ta,C.Task,dx,_,I,h1,T.bh,T.jd,t.N5;have bad:(dC.getD 1 0%2=1\/dC.getD 2 0≠0)->Fq C [.int 5,.int 36] H Q E0:=λhc=>by
  exists 5,36,rfl;have e:GL fW dC=fY 5 36 0:=by unfold GL;rw[iP hc]
  rw[e]at k;exact k
 exists I,t.ah,_,J,M.oT.sq,cM (gv (i:=1) ()),J,(by show(0:Int)<2;decide),rfl,I;refine gG (λhc=>fI ?_) (λhc=>?_)
 .have hc:V.int ((dC.getD 1 0:Nat)%2:Int)=V.int 1:=hc;have:=V.int.inj hc;exact bad (.inl ())
 have hc:¬V.int ((dC.getD 1 0:Nat)%2:Int)=V.int 1:=hc;exists I,t.ah,_,J,M.oT.sq,cM (gv (i:=2) ()),rfl,I;refine gM (λhd=>?_) (λhd=>?_)
 .refine bad (.inr λq=>?_);have hd:(!decide (V.int (dC.getD 2 0:Nat)=V.int 0))=true:=hd;rw[q]at hd;cases hd
 have hd:(!decide (V.int (dC.getD 2 0:Nat)=V.int 0))=false:=hd;have gI:¬(dC.getD 1 0%2=1\/dC.getD 2 0≠0):=by
  intro q;rcases q with q|q
  .exact hc (by congr 1;lia)
  .have hd:decide (V.int (dC.getD 2 0:Nat)=V.int 0)=true:=by simpa using hd
   have:=V.int.inj (of_decide_eq_true hd);lia
 have e0:GL fW dC=fA ((if(fW.all λx=>x==0)=true then Bz else 0x7F::Ql73.INQUIRY.drop 1).take (ax dC 3 2)):=by unfold GL;rw[iN gI]
 exists I,ta,dx,I,h1,rfl,ta,I,⟨t,fW,⟨dx,h1⟩,M.vd.sq,rfl⟩,I;refine ifC ?_;obtain⟨z,ez,hz⟩:∃z:Nat,(if(fW.all λx=>x==0)=true then V.int 0 else V.int 127)=V.int (z:Int)/\(z::Ql73.INQUIRY.drop 1)=(if(fW.all λx=>x==0)=true then Bz else 0x7F::Ql73.INQUIRY.drop 1):=by
  cases(fW.all λx=>x==0)with
  |true=>nomatch 0,rfl,by decide+kernel
  |false=>nomatch 127,rfl,rfl
 rw[ez];nomatch I,(by show 8<=aH;decide),λp1 g1=>?_
 have s1:=aS (a_.refl H) g1 (.lst [.int z,.int 0,.int 5,.int 2,.int 31,.int 0,.int 0,.int 2]);nomatch ay "EXAMPLE DISK OVER A LINE0001",rfl,(by show 28<aH;rw[sizeLine_eq];decide),λH2 p2 g2 e2 s2=>?_
 nomatch p1,p2,J,.inl (s2 _ _ ae),.inl e2,(by rw[bA,CQ];show 8+28<=aH;rw[sizeLine_eq];decide),λp3 g3=>?_
 have e3:[V.int (z:Int),.int 0,.int 5,.int 2,.int 31,.int 0,.int 0,.int 2]++nV (TL.tl (ay "EXAMPLE DISK OVER A LINE0001"))=nV (z::Ql73.INQUIRY.drop 1):=by rw[CQ];rfl
 rw[e3];have s3:=aS (s1.trans s2) g3 (.lst (nV (z::Ql73.INQUIRY.drop 1)));nomatch I,I,t.ah,dC,3,2,rfl,s3.seq M.oT.sq,λH4 s4=>⟨_,rfl,p3,_,rfl,fT.of (s4 _ _ ae),λp5 g5=>?_⟩
 rw[rX];have s5:=aS (s3.trans s4) g5 (.lst (nV ((z::Ql73.INQUIRY.drop 1).take (ax dC 3 2))));nomatch p5,I,ae,?_,zr (H2:=H) k (by rw[e0,<-hz]) s5 ((s3.trans s4).free g5)
 rw[bf];have:(z::Ql73.INQUIRY.drop 1).length=36:=by show _+1=36;decide+kernel
 lia
def GN(dC:List Nat):jQ:=if ax dC 6 4<16 then fY 5 0x24 0 else fA (([0,0,0,8]++aQ 12 0).take (ax dC 6 4))
inductive CS(C:Cl)(vs:List V)(H:Hp)(Q:VK)(kn:XK):Prop
 |mk(ta t fW dC got)(_:vs=[.ref ta])(_:pK C H ta t fW dC got)(_:AH C H Q (GN dC))
def Eg:T.vH.D P w aR 4 (CS C):=by
 refine T.vH.ok ?_;kd_p
 obtain⟨ta,t,fW,dC,got,rfl,M,k⟩:=h;exists _,(aa (bH (bg tH (aI (dY T) (mh (aT b4 rfl) au au)) au (bD _)) (aj (aP (aI (nR T) (i5 (aU T.gS) (aU T.nv))))) aZ) (aj (aP (aI (Bi T) (fN (bO oS (dN (va au au au au)) (bO tK (dN (fN au)) au)))))));obtain⟨dx,h1⟩:=M.at_;nomatch I,ta,C.Task,dx,_,I,h1,T.bh,T.jd,t.N5,t.ah,dC,6,4,rfl,M.oT.sq,λH1 s1=>⟨_,_,rfl,rfl,_,rfl,?_⟩
 refine gG (λhc=>?_) (λhc=>?_)
 .have hc:((ax dC 6 4:Nat):Int)<16:=hc;exists 5,36,rfl;have e:GN dC=fY 5 36 0:=by unfold GN;rw[iP ()]
  rw[e]at k;exact k.mono s1
 .have hc:¬((ax dC 6 4:Nat):Int)<16:=hc;have e:GN dC=fA ([0,0,0,8]++aQ 12 0):=by unfold GN;rw[iN (),cA (by simp;lia)]
  nomatch(by show 4<=aH;decide),λp1 g1=>⟨(by show 1<=aH;decide),λp2 g2=>⟨p2,12,_,rfl,rfl,ae,#[],#[],by show 1*12<=aH;decide,λp3 g3=>?_⟩⟩
  have s2:=aS s1 g1 (.lst [V.int 0,V.int 0,V.int 0,V.int 8]);have t2:a_ (upd H1 p1 (.lst [V.int 0,V.int 0,V.int 0,V.int 8])) _:=aS (a_.refl _) g2 (.lst [V.int 0]);have s3:=aS s2 g2 (.lst [V.int 0]);have t4:=aS t2 g3 (.lst ((aQ (12:Int).toNat [V.int 0]).flatten));have s4:=aS s3 g3 (.lst ((aQ (12:Int).toNat [V.int 0]).flatten));nomatch p1,p3,J,.inl (t4 _ _ ae),.inl ae,(by show 4+12<=aH;decide),λp5 g5=>?_
  have e5:[V.int 0,V.int 0,V.int 0,V.int 8]++(aQ (12:Int).toNat [V.int 0]).flatten=nV ([0,0,0,8]++aQ 12 0):=rfl;rw[e5];nomatch p5,I,ae,#[],zr (H2:=H) k e (aS s4 g5 _) (s4.free g5)
def AL:T.sE.D P w aR 4 (λvs H Q _=>vs=[]/\AH C H Q (fA (aY 4 (o6-1)++aY 4 Tn))):=by
 refine T.sE.ok ?_ (λvs H Q E h=>by obtain⟨rfl,_⟩:=h;rfl);kd_p
 obtain⟨rfl,k⟩:=h;exists _,(aa (cJ 0 nd (bO tK (dN (fN au)) au)) (aa (bj (aI (cH T) (va b4 au au (bO md (aU T.Ck) au)))) (aa (bj (aI (cH T) (va b4 au au (aU T.hZ)))) (aj (aP (aI (Bi T) (fN b4)))))));nomatch(by show 1<=aH;decide),λp1 h1=>⟨p1,8,_,rfl,rfl,ae,#[],#[],by show 1*8<=aH;decide,λp2 h2=>?_⟩
 have s1:a_ H (upd H p1 (.lst [V.int 0])):=aS (a_.refl H) h1 _;have e0:(aQ (8:Int).toNat [V.int 0]).flatten=nV (aQ 8 0):=rfl;rw[e0];exists I,J,p2,_,0,4,2047,rfl,ae,#[],#[];rw[bS];exists I,p2,_,4,4,512,rfl,ae,#[],#[];rw[bS];have e1:put (put (aQ 8 0) 0 (aY 4 2047)) 4 (aY 4 512)=aY 4 (o6-1)++aY 4 Tn:=#[];rw[e1];nomatch I,p2,I,ae,#[],zr (H2:=H) k rfl (aS s1 h2 _) (s1.free h2)
def GO(told:Bool)(fW dC:List Nat):jQ:=fA ((if(fW.all λx=>x==0)=false then dT 5 0x25 0 else if told=true then dT 6 0x29 0 else dT 0 0 0).take (dC.getD 4 0))
inductive Eh(C:Cl)(vs:List V)(H:Hp)(Q:VK)(kn:XK):Prop
 |mk(ta sa t fW dC got s dy)(_:vs=[.ref ta,.ref sa])(_:pK C H ta t fW dC got)(_:H sa=some (.ins C.Session dy (aV.fs s)))(_:ta≠sa)(_:∀H' p f bB,H p=none->K_ C H' p (GO s.anew fW dC) f bB->H' sa=some (.ins C.Session dy (aV.fs {s with anew:=s.anew&& !(fW.all λx=>x==0)}))->gU sa H H'->Q (.ref p) H')
def GP:T.xK.D P w aR 4 (Eh C):=by
 refine T.xK.ok ?_;kd_p
 obtain⟨ta,sa,t,fW,dC,got,s,dy,rfl,M,hs,Rc,k⟩:=h;exists _,(aa (cJ 2 nd (aI (rR T) (i5 (aU T.KS) au))) (aa (bH (iH (dA (b_ (px T) T.bh b4))) (aj (cJ 2 nd (aI (rR T) (i5 (aU T.gS) (aU T.uf))))) (aj (bH (dA (aT cC rfl)) (aa (ck cC kP rfl) (aj (cJ 2 nd (aI (rR T) (i5 (aU T.Ae) (aU T.vU)))))) aZ))) (aj (aP (aI (Bi T) (fN (ej fV fF oP (cS (fE cX (aT b4 rfl) au (λ_ _=>rfl))))))))));nomatch 0,0,rfl,λH1 q0 hq0 e0 s1=>?_
 have M1:=M.same s1;obtain⟨dx,h1⟩:=M1.at_;have lc:=M.lc;have fin:∀(H2:Hp)(q:aB)(sn:List Nat)(s':aV),H2 q=some (.lst (nV sn))->sn.length=18->H q=none->gU sa H H2->H2 sa=some (.ins C.Session dy (aV.fs s'))->s'={s with anew:=s.anew&& !(fW.all λx=>x==0)}->fA (sn.take (dC.getD 4 0))=GO s.anew fW dC-> sk (Jc C) [] E0 (iR (tSl (ZZ K) (jU 2) Mi (VL (VH (ZX K) (Ar K (jU 0) "what") (tC (V.int 4))))) kK) [some (.ref ta),some (.ref sa),some (.ref q)] H2 Q:=λH2 q sn s' hq hl hq0 B2 BJ es ed=>by
  have M2:pK C H2 ta t fW dC got:=by obtain⟨da,ha⟩:=M.at_;have fz:∀b xs,fK H b xs->b≠sa:=λb xs⟨o,e⟩=>bV e hs nofun;nomatch⟨da,B2 _ _ ha Rc⟩,gU.gm M.vd (fz _ _ M.vd) B2,gU.gm M.oT (fz _ _ M.oT) B2,B2 _ _ M.mF (bV M.mF hs nofun),M.ll,M.lc
  obtain⟨d2,h2⟩:=M2.at_;nomatch I,I,ta,C.Task,d2,_,I,h2,T.bh,T.jd,t.N5,t.ah,_,J,M2.oT.sq,cM (gv (i:=4) ()),I,q,I,fT.of hq,λp3 g3=>?_
  rw[rX];nomatch p3,I,ae,by rw[bf];lia,λH' p f bB hp O hB=>?_
  have Lk:H p3=none:=by
   cases e:H p3 with
   |none=>rfl
   |some o=>
    by_cases hc:p3=sa
    .rw[hc,BJ]at g3;cases g3
    .have:=B2 p3 o e hc;rw[g3]at this;cases this
  have hpn:H p=none:=by
   cases e:H p with
   |none=>rfl
   |some o=>
    have Rf:upd H2 p3 (.lst (nV (sn.take (dC.getD 4 0)))) p=none:=hp;rw[aG (ai e Lk)]at Rf;by_cases hc:p=sa
    .rw[hc,BJ]at Rf;cases Rf
    .have:=B2 p o e hc;rw[Rf]at this;cases this
  have m8:sa≠p3:=ai BJ g3;rw[<-ed]at k;refine k H' p f bB hpn O ?_ ?_
  .rw[<-es];exact hB _ _ (by rw[aG m8];exact BJ) m8
  .intro c o hc nc;exact hB c o (by rw[aG (ai hc Lk)];exact B2 c o hc nc) (ai hc Lk)
 exists I,ta,dx,I,h1,rfl,ta,I,⟨t,fW,⟨dx,h1⟩,M1.vd.sq,rfl⟩,I;have B1:gU sa H H1:=λc o hc _=>s1 c o hc;refine gM (λho=>?_) (λho=>?_)
 .have ho:(fW.all λx=>x==0)=false:=by simpa using ho
  nomatch 5,37,rfl,λH2 q1 X0 e1 s2=>?_
  refine fin H2 q1 (dT 5 37 0) s e1 rfl (s1.free X0) (λc o hc nc=>s2 c o (B1 c o hc nc)) (s2 _ _ (s1 _ _ hs)) ?_ ?_
  .rw[ho];cases s;simp
  .unfold GO;rw[ho];rfl
 .have ho:(fW.all λx=>x==0)=true:=by simpa using ho
  exists I,sa,C.Session,dy,_,I,s1 _ _ hs,T.aF,T.gR,s.K5,I;refine gM (λha=>?_) (λha=>?_)
  .exists I,sa,C.Session,dy,I,s1 _ _ hs,T.aF,T.gR,s.len;rw[s.K6];have B2:gU sa H (upd H1 sa (.ins C.Session dy (aV.fs {s with anew:=false}))):=B1.upd _;nomatch 6,41,rfl,λH2 q1 X0 e1 s2=>?_
   have ad9:H q1=none:=by
    cases e:H q1 with
    |none=>rfl
    |some o=>
     by_cases hc:q1=sa
     .rw[hc,ae]at X0;cases X0
     .have:=B2 q1 o e hc;rw[X0]at this;cases this
   refine fin H2 q1 (dT 6 41 0) _ e1 rfl ad9 (λc o hc nc=>s2 c o (B2 c o hc nc)) (s2 _ _ ae) ?_ ?_
   .rw[ho];simp
   .unfold GO;rw[ho,ha];rfl
  .refine fin H1 q0 (dT 0 0 0) s e0 rfl hq0 B1 (s1 _ _ hs) ?_ ?_
   .rw[ha];cases s;simp_all
   .unfold GO;rw[ho,ha];rfl
def after(d:jR)(x:jQ):jR:=match x.wrote with
 |some w=>mE d w.1 w.2
 |none=>d
def Ei(d:jR)(dC ve:List Nat):jQ:=if dC.getD 0 0=0x28 then(if 32<=dC.getD 1 0 then fY 5 0x24 0 else if 2048<ax dC 2 4+ax dC 7 2 then fY 5 0x21 0 else fA (jS d (ax dC 2 4) (ax dC 7 2))) else if dC.getD 0 0=0x2A then(if 32<=dC.getD 1 0\/ve.length≠512*ax dC 7 2 then fY 5 0x24 0 else if 2048<ax dC 2 4+ax dC 7 2 then fY 5 0x21 0 else⟨[],some (ax dC 2 4,ve),none⟩) else(if 2048<ax dC 2 4+ax dC 7 2 then fY 5 0x21 0 else fA [])
theorem jH.same(D:jH C H a f wr)(s:a_ H H'):jH C H' a f wr:=by obtain⟨dx,h1⟩:=D.at_;nomatch⟨dx,s _ _ h1⟩,s _ _ D.rh,fK.same D.blank s,λx hx=>⟨(D.row x hx).1,(D.row x hx).2.1,fK.same (D.row x hx).2.2 s⟩,D.nd
def Ol(h:fU b)(p:Nat):ax b p 2<65536:=by
 unfold ax;have hl:(aD b p 2).length<=2:=by unfold aD;rw[bf];lia
 have ho:=h.part p 2;generalize aD b p 2=l at hl ho;match l,hl,ho with
 | [],_,_=>decide
 | [x],_,ho=>have:=ho x (by simp);show 256*0+x<65536;lia
 | [x,y],_,ho=>have h1:=ho x (by simp);have h2:=ho y (by simp);show 256*(256*0+x)+y<65536;lia
def zt(h:fU b)(p:Nat):ax b p 4<4294967296:=by
 unfold ax;have hl:(aD b p 4).length<=4:=by unfold aD;rw[bf];lia
 have ho:=h.part p 4;generalize aD b p 4=l at hl ho;match l,hl,ho with
 | [],_,_=>decide
 | [x],_,ho=>have:=ho x (by simp);show 256*0+x<4294967296;lia
 | [x,y],_,ho=>have h1:=ho x (by simp);have h2:=ho y (by simp);show 256*(256*0+x)+y<4294967296;lia
 | [x,y,z],_,ho=>have h1:=ho x (by simp);have h2:=ho y (by simp);have h3:=ho z (by simp);show 256*(256*(256*0+x)+y)+z<4294967296;lia
 | [x,y,z,u],_,ho=>have h1:=ho x (by simp);have h2:=ho y (by simp);have h3:=ho z (by simp);have h4:=ho u (by simp);show 256*(256*(256*(256*0+x)+y)+z)+u<4294967296;lia
inductive Ej(C:Cl)(vs:List V)(H:Hp)(Q:VK)(kn:XK):Prop
 |mk(ta da t fW dC got df wr)(_:vs=[.ref ta,.ref da])(_:pK C H ta t fW dC got)(_:fU dC)(_:jH C H da df wr)(_:(dC.getD 0 0=40\/dC.getD 0 0=42\/dC.getD 0 0=53))(_:got.length<=65536)(_:∀H' p f bB wr',H p=none->K_ C H' p (Ei (bM wr) dC got) f bB->jH C H' da df wr'->bM wr'=after (bM wr) (Ei (bM wr) dC got)->gU df.written H H'->Q (.ref p) H')
def GQ:T.xM.D P w aR 4 (Ej C):=by
 refine T.xM.ok ?_;kd_p
 obtain⟨ta,da,t,fW,dC,got,df,wr,rfl,M,oc,D,Pf,hgl,k⟩:=h;exists _,(aa (cJ 2 nd (aT b4 rfl)) (aa (cJ 3 nd (aI (dY T) (mh fF au au))) (aa (cJ 4 nd (aI (dY T) (mh fF au au))) (aa (bH (nZ (bg k_ (fE cX fF au (λ_ _=>rfl)) (aU T.MH) (bD _)) (lF (bg HJ (fE cX fF au (λ_ _=>rfl)) au (bD _)))).pt (aj (aP (aI (nR T) (i5 (aU T.gS) (aU T.nv))))) aZ) (aa (bH (nZ (bg fD (fE cX fF au (λ_ _=>rfl)) (aU T.Gp) (bD _)) (lF (bg k_ (bZ cV (by rfl) T.gT fQ (fN (aT b4 rfl))) (bO wo kS (aU T.hZ)) (bD _)))).pt (aj (aP (aI (nR T) (i5 (aU T.gS) (aU T.nv))))) aZ) (aa (bH (bg o7 (bO eJ gQ kS) (aU T.Ck) (bD _)) (aj (aP (aI (nR T) (i5 (aU T.gS) (aU T.D4))))) aZ) (aa (bH (bg fD (fE cX fF au (λ_ _=>rfl)) (aU T.QP) (bD _)) (aj (aP (nj (rg T) (mh jz (fG (pA T) T.mi cC (i5 gQ kS)) au)))) aZ) (aa (bH (bg fD (fE cX fF au (λ_ _=>rfl)) (aU T.Gp) (bD _)) (aa (bj (fG (x_ T) T.mi cC (i5 gQ (aT b4 rfl)))) (aj (aP (nj (rg T) (mh jz (jm (dN jk)) (bZ cV (by rfl) T.gT fQ (fN (aT b4 rfl)))))))) aZ) (aj (aP (Cb (Fs T))))))))))));obtain⟨dx,h1⟩:=M.at_;have lc:=M.lc;exists I,ta,C.Task,dx,_,I,h1,T.bh,T.jd,t.N5;nomatch I,t.ah,dC,2,4,rfl,M.oT.sq,λH1 s1=>?_
 nomatch I,t.ah,dC,7,2,rfl,s1.seq M.oT.sq,λH2 s2=>?_
 have qJ:=s1.trans s2;have M2:=M.same qJ;have D2:=D.same qJ;obtain⟨Ux,h2⟩:=M2.at_;generalize aaS:ax dC 2 4=lX;generalize hn:ax dC 7 2=n;have Ta:lX<4294967296:=by rw[<-aaS];exact zt oc 2
 have hnb:n<65536:=by rw[<-hn];exact Ol oc 7
 have keep:∀x:jQ,x=Ei (bM wr) dC got->after (bM wr) x=bM wr->AH C H2 Q x:=λx hx ha H' p f bB hp O s'=>by subst hx;exact k H' p f bB wr (qJ.free hp) O (D.same (qJ.trans s')) ha.symm λc o hc _=>s' c o (qJ c o hc)
 have g0:P9 (nV dC) 0=some (V.int (dC.getD 0 0:Nat)):=cM (gv (i:=0) ());have g1:P9 (nV dC) 1=some (V.int (dC.getD 1 0:Nat)):=cM (gv (i:=1) ());generalize h0:dC.getD 0 0=op at Pf g0;generalize hc1:dC.getD 1 0=c1 at g1;have eD:Ei (bM wr) dC got=if op=0x28 then(if 32<=c1 then fY 5 0x24 0 else if 2048<lX+n then fY 5 0x21 0 else fA (jS (bM wr) lX n)) else if op=0x2A then(if 32<=c1\/got.length≠512*n then fY 5 0x24 0 else if 2048<lX+n then fY 5 0x21 0 else⟨[],some (lX,got),none⟩) else(if 2048<lX+n then fY 5 0x21 0 else fA []):=by unfold Ei;rw[h0,hc1,aaS,hn]
 exists I,t.ah,_,J,M2.oT.sq,g0,rfl,I;refine CP (λz=>⟨_,rfl,t.ah,_,_,_,rfl,rfl,M2.oT.sq,g1,_,_,rfl,rfl,_,rfl,z⟩) ?_;refine Jj (λq r=>?_) (λhA=>?_)
 .have q:(!decide (V.int (op:Int)=V.int 53))=true:=q;have q1:op≠53:=λz=>by subst z;cases q
  have r:(32:Int)<=(c1:Int):=of_decide_eq_true r;nomatch 5,36,rfl,keep _ ?_ rfl
  rw[eD];rcases Pf with h|h|h
  .rw[iP h,iP ()]
  .rw[iN (),iP h,iP (.inl ())]
  .exact absurd h q1
 have hA:¬(op≠53/\32<=c1):=λ⟨z1,z2⟩=>hA ⟨by rw[decide_eq_false (λq=>z1 (by have:=V.int.inj q;lia))];rfl,decide_eq_true ()⟩;exists I,t.ah,_,J,M2.oT.sq,g0,rfl,I;refine CP (λz=>⟨_,rfl,ta,C.Task,Ux,_,_,rfl,h2,T.bh,T.gu,t.CC,_,got.length,rfl,.inl ⟨nV got,fT.of M2.mF,by rw[bA]⟩,_,rfl,_,_,rfl,rfl,.inr ⟨#[],#[]⟩,rfl,_,rfl,z⟩) ?_;refine Jj (λq r=>?_) (λhB=>?_)
 .have q:V.int (op:Int)=V.int 42:=of_decide_eq_true q;have q1:op=42:=by have:=V.int.inj q;lia
  have r:(!decide (V.int (got.length:Int)=V.int ((n:Int)*512)))=true:=r;have r1:got.length≠512*n:=λz=>by
   have e:V.int (got.length:Int)=V.int ((n:Int)*512):=by congr 1;lia
   rw[decide_eq_true e]at r;cases r
  nomatch 5,36,rfl,keep _ ?_ rfl
  rw[eD,iN (),iP q1,iP (.inr r1)]
 have hB:¬(op=42/\got.length≠512*n):=λ⟨z1,z2⟩=>hB ⟨decide_eq_true (by rw[z1];rfl),by show(!decide (V.int (got.length:Int)=V.int ((n:Int)*512)))=true;rw[decide_eq_false (λq=>z2 (by have:=V.int.inj q;lia))];rfl⟩;exists I,I,J,J,I;refine gG (λq=>?_) (λq=>?_)
 .have q:(2048:Int)<(lX:Int)+(n:Int):=q;nomatch 5,33,rfl,keep _ ?_ rfl
  rw[eD];rcases Pf with h|h|h
  .rw[iP h,iN (),iP ()]
  .rw[iN (),iP h,iN (),iP ()]
  .rw[iN (),iN (),iP ()]
 have q:¬(2048:Int)<(lX:Int)+(n:Int):=q;exists I,t.ah,_,J,M2.oT.sq,g0,rfl,I;refine gG (λr=>?_) (λr=>?_)
 .have r:V.int (op:Int)=V.int 40:=r;have r1:op=40:=by have:=V.int.inj r;lia
  obtain⟨dz,h3⟩:=D2.at_;nomatch I,da,dz,I,h3,rfl,I,I,da,df,wr,lX,n,rfl,D2,(),(),λH3 p hp hR s3=>?_
  intro x X1 hx CL sU;exists x,X1,⟨.eY,p,0⟩,rfl,ae,rfl;rw[bS];have s5:=j5 hx CL (.own x) (.ins C.Outcome X1 (mv.fs ⟨.eY,p,0⟩));have rl:∀y∈wr,y.r.length=512:=λy hy=>(D.row y hy).1;have eR:Ei (bM wr) dC got=fA (jS (bM wr) lX n):=by rw[eD,iP r1,iN (),iN ()]
  refine keep _ eR.symm rfl _ x ⟨.eY,p,0⟩ _ (s3.free hx) ⟨⟨X1,ae⟩,hR.same s5,.inl λy hy=>?_,?_,rfl,rfl⟩ (s3.trans s5)
  .obtain⟨j,_,rfl⟩:=cG.mp hy;exact uN rl _
  .exact Ft rl lX n
 have r:¬V.int (op:Int)=V.int 40:=r;have r1:op≠40:=λz=>r (by rw[z];rfl);exists I,t.ah,_,J,M2.oT.sq,g0,rfl,I;refine gG (λu=>?_) (λu=>?_)
 .have u:V.int (op:Int)=V.int 42:=u;have u1:op=42:=by have:=V.int.inj u;lia
  have hgn:got.length=512*n:=Classical.byContradiction λz=>hB ⟨u1,z⟩;obtain⟨dz,h3⟩:=D2.at_;nomatch I,da,dz,I,h3,rfl,I,I,ta,C.Task,Ux,_,I,h2,T.bh,T.gu,t.CC,da,t.ad,df,wr,lX,n,got,rfl,D2,.inl M2.mF,hgn,(),λH3 wr' D3 ed B3=>?_
  have eW:Ei (bM wr) dC got=⟨[],some (lX,got),none⟩:=by rw[eD,iN (),iP u1,iN (),iN ()]
  have h3t:H3 ta=some (.ins C.Task Ux t.fs):=B3 _ _ h2 (bV h2 D2.rh nofun);have h3d:H3 t.ad=some (.lst (nV got)):=B3 _ _ M2.mF (bV M2.mF D2.rh nofun);nomatch bQ _,λqa hq=>⟨qa,_,rfl,ae,λo2=>?_⟩
  have s4:=aS (a_.refl H3) hq (.lst []);have s5:=a_.nQ s4 hq (.gm o2 (.lst []));exists I,ta,C.Task,Ux,_,I,s5 _ _ h3t,T.bh,T.gu,t.CC,_,got.length,rfl,.inl ⟨nV got,fT.of (s5 _ _ h3d),by rw[bA]⟩;intro x X1 hx CL sU;exists x,X1,⟨.eY,qa,got.length⟩,rfl,ae,rfl;rw[bS];have s6:=j5 hx CL (.own x) (.ins C.Outcome X1 (mv.fs ⟨.eY,qa,got.length⟩));have s7:=s5.trans s6;have XS:H x=none:=by
   cases e:H x with
   |none=>rfl
   |some o=>
    by_cases hc:x=df.written
    .have:=s5 _ _ D3.rh;rw[<-hc,hx]at this;cases this
    .have:=s5 _ _ (B3 x o (qJ _ _ e) hc);rw[hx]at this;cases this
  rw[eW]at k;refine k _ x ⟨.eY,qa,got.length⟩ [] wr' XS ⟨⟨X1,ae⟩,⟨[],fK.same ⟨o2,ae⟩ s6,rfl,(λi a r h=>nomatch h)⟩,La,rfl,rfl,rfl⟩ (D3.same s7) ed (λc o hc nc=>s7 c o (B3 c o (qJ c o hc) nc))
 .have u:¬V.int (op:Int)=V.int 42:=u;have u1:op≠42:=λz=>u (by rw[z];rfl);nomatch rfl,keep _ ?_ rfl
  rw[eD,iN r1,iN u1,iN ()]
inductive Ek(C:Cl)(vs:List V)(H:Hp)(Q:VK)(kn:XK):Prop
 |mk(ta sa da t fW dC got df wr s dy)(_:vs=[.ref ta,.ref sa,.ref da])(_:pK C H ta t fW dC got)(_:fU dC)(_:got.length<=65536)(_:jH C H da df wr)(_:H sa=some (.ins C.Session dy (aV.fs s)))(_:ta≠sa)(_:sa≠da)(_:∀H' p f bB wr',H p=none->K_ C H' p (gE (bM wr) s.anew fW dC got) f bB->H' sa=some (.ins C.Session dy (aV.fs {s with anew:=s.anew&& !Ql73.says fW dC}))->jH C H' da df wr'->bM wr'=after (bM wr) (gE (bM wr) s.anew fW dC got)->gH [sa,df.written] H H'->Q (.ref p) H')
def CT(d:jR)(told:Bool)(fW dC ve:List Nat):gE d told fW dC ve= if dC.getD 0 0=0x12 then GL fW dC else if dC.getD 0 0=0xA0 then GN dC else if dC.getD 0 0=0x03 then GO told fW dC else if told=true then fY 6 0x29 0 else if(fW.all λx=>x==0)=false then fY 5 0x25 0 else if dC.getD 0 0=0 then fA []else if dC.getD 0 0=0x25 then fA (aY 4 (o6-1)++aY 4 Tn)else if dC.getD 0 0=40\/dC.getD 0 0=42\/dC.getD 0 0=53 then Ei d dC ve else fY 5 0x20 0:=by
 have ei:∀{α:Type}(a b:α),(if decide (ax dC 2 4+ax dC 7 2<=o6)=false then a else b)=if 2048<ax dC 2 4+ax dC 7 2 then a else b:=λa b=>by
  by_cases h:2048<ax dC 2 4+ax dC 7 2
  .rw[iP h,iP (decide_eq_false (by show ¬_<=2048;lia))]
  .rw[iN h,iN (by rw[decide_eq_true (by show _<=2048;lia)];decide)]
 unfold gE GL GN GO Ei;simp only[ei];generalize dC.getD 0 0=op;by_cases h1:op=0x12
 .simp only [h1,if_true]
 by_cases h2:op=0xA0
 .simp only [h2,if_true];try rfl
 by_cases h3:op=0x03
 .simp only [h3,if_true];try rfl
 simp only[h1,h2,h3,if_false];cases told with
 |true=>simp
 |false=>
  cases(fW.all λx=>x==0)with
  |false=>simp
  |true=>
   by_cases h4:op=0
   .simp[h4]
   by_cases h5:op=0x25
   .simp[h5]
   by_cases h6:op=0x28
   .simp[h6]
   by_cases h7:op=0x2A
   .simp[h7]
   by_cases h8:op=0x35
   .simp[h8]
   simp[h4,h5,h6,h7,h8]
def GR:T.xN.D P w aR 5 (Ek C):=by
 refine T.xN.ok ?_;kd_p
 obtain⟨ta,sa,da,t,fW,dC,got,df,wr,s,dy,rfl,M,oc,hgl,D,hs,Rc,nsd,k⟩:=h;exists _,(aa (cJ 3 nd (fE cX (aT b4 rfl) au (λ_ _=>rfl))) (aa (bH (bg fD gQ (aU T.NS) (bD _)) (aj (aP (aI (Oj T) (fN b4)))) aZ) (aa (bH (bg fD gQ (aU T.D0) (bD _)) (aj (aP (aI (Eg T) (fN b4)))) aZ) (aa (bH (bg fD gQ (aU T.Gn) (bD _)) (aj (aP (aI (GP T) (i5 b4 cC)))) aZ) (aa (bH (dA (aT cC rfl)) (aa (ck cC kP rfl) (aj (aP (aI (nR T) (i5 (aU T.Ae) (aU T.vU)))))) aZ) (aa (bH (iH (dA (b_ (px T) T.bh b4))) (aj (aP (aI (nR T) (i5 (aU T.gS) (aU T.uf))))) aZ) (aa (bH (bg fD gQ (aU T.Gm) (bD _)) (aj (aP (Cb (Fs T)))) aZ) (aa (bH (bg fD gQ (aU T.KR) (bD _)) (aj (aP (Cb (AL T)))) aZ) (aa (bH (bg iq gQ (rJ (mh (aU T.QP) (aU T.Gp) (aU T.MH))) (by with_unfolding_all rfl)) (aj (aP (aI (GQ T) (i5 b4 fF)))) aZ) (aj (aP (aI (nR T) (i5 (aU T.gS) (aU T.xW))))))))))))));obtain⟨dx,h1⟩:=M.at_;have lc:=M.lc;have g0:P9 (nV dC) 0=some (V.int (dC.getD 0 0:Nat)):=cM (gv (i:=0) ());have eP:=CT (bM wr) s.anew fW dC got;have eS:qH fW dC=if dC.getD 0 0=3 then fW.all (λx=>x==0)else dC.getD 0 0 !=0x12&&dC.getD 0 0 !=0xA0:=rfl;generalize h0:dC.getD 0 0=op at g0 eP eS;have keep:∀(x:jQ)(H2:Hp)(b:Bool),gE (bM wr) s.anew fW dC got=x->after (bM wr) x=bM wr->(s.anew&& !Ql73.says fW dC)=b->gU sa H H2->H2 sa=some (.ins C.Session dy (aV.fs {s with anew:=b}))->AH C H2 Q x:=λx H2 b hx ha hb B2 BJ H' p f bB hp O s'=>by
  subst hx;have hpn:H p=none:=by
   cases e:H p with
   |none=>rfl
   |some o=>
    by_cases hc:p=sa
    .rw[hc,BJ]at hp;cases hp
    .have:=B2 p o e hc;rw[hp]at this;cases this
  have D':jH C H' da df wr:=by obtain⟨dz,hz⟩:=D.at_;have fz:∀b xs,fK H b xs->b≠sa:=λb xs⟨o,e⟩=>bV e hs nofun;nomatch⟨dz,s' _ _ (B2 _ _ hz (aL nsd))⟩,s' _ _ (B2 _ _ D.rh (bV D.rh hs nofun)),fK.same (gU.gm D.blank (fz _ _ D.blank) B2) s',λy hy=>⟨(D.row y hy).1,(D.row y hy).2.1,fK.same (gU.gm (D.row y hy).2.2 (fz _ _ (D.row y hy).2.2) B2) s'⟩,D.nd
  exact k H' p f bB wr hpn O (by rw[hb];exact s' _ _ BJ) D' ha.symm λc o hc nc=>s' c o (B2 c o hc λz=>nc (by rw[z];simp))
 have Fy:∀x:jQ,gE (bM wr) s.anew fW dC got=x->after (bM wr) x=bM wr->(s.anew&& !Ql73.says fW dC)=s.anew->AH C H Q x:=λx hx ha hb=>keep x H s.anew hx ha hb (gU.refl _ H) hs;exists I,ta,C.Task,dx,_,I,h1,T.bh,T.jd,t.N5,t.ah,_,J,M.oT.sq,g0;exists I,rfl,I;refine gG (λq=>?_) (λq=>?_)
 .have q:V.int (op:Int)=V.int 18:=q;have q1:op=18:=by have:=V.int.inj q;lia
  nomatch I,ta,t,fW,dC,got,rfl,M,Fy _ (by rw[eP,iP q1]) ?_ ?_
  .unfold GL;split<;>rfl
  .rw[eS,q1];cases s.anew<;>rfl
 have q:¬V.int (op:Int)=V.int 18:=q;have n1:op≠18:=λz=>q (by rw[z];rfl);exists I,rfl,I;refine gG (λq=>?_) (λq=>?_)
 .have q:V.int (op:Int)=V.int 160:=q;have q1:op=160:=by have:=V.int.inj q;lia
  nomatch I,ta,t,fW,dC,got,rfl,M,Fy _ (by rw[eP,iN n1,iP q1]) ?_ ?_
  .unfold GN;split<;>rfl
  .rw[eS,q1];cases s.anew<;>rfl
 have q:¬V.int (op:Int)=V.int 160:=q;have n2:op≠160:=λz=>q (by rw[z];rfl);exists I,rfl,I;refine gG (λq=>?_) (λq=>?_)
 .have q:V.int (op:Int)=V.int 3:=q;have q1:op=3:=by have:=V.int.inj q;lia
  have eP3:gE (bM wr) s.anew fW dC got=GO s.anew fW dC:=by rw[eP,iN n1,iN n2,iP q1]
  have eS3:qH fW dC=fW.all (λx=>x==0):=by rw[eS,iP q1]
  nomatch I,I,ta,sa,t,fW,dC,got,s,dy,rfl,M,hs,Rc,λH' p f bB hp O GC hB=>?_
  have D':jH C H' da df wr:=by obtain⟨dz,hz⟩:=D.at_;have fz:∀b xs,fK H b xs->b≠sa:=λb xs⟨o,e⟩=>bV e hs nofun;nomatch⟨dz,hB _ _ hz (aL nsd)⟩,hB _ _ D.rh (bV D.rh hs nofun),gU.gm D.blank (fz _ _ D.blank) hB,λy hy=>⟨(D.row y hy).1,(D.row y hy).2.1,gU.gm (D.row y hy).2.2 (fz _ _ (D.row y hy).2.2) hB⟩,D.nd
  rw[eP3,eS3]at k;exact k H' p f bB wr hp O GC D' rfl λc o hc nc=>hB c o hc λz=>nc (by rw[z];simp)
 have q:¬V.int (op:Int)=V.int 3:=q;have n3:op≠3:=λz=>q (by rw[z];rfl);have eS4:qH fW dC=true:=by rw[eS,iN n3];simp[n1,n2]
 rw[iN n1,iN n2,iN n3]at eP;exists I,sa,C.Session,dy,_,I,hs,T.aF,T.gR,s.K5,I;refine gM (λha=>?_) (λha=>?_)
 .exists I,sa,C.Session,dy,I,hs,T.aF,T.gR,s.len;rw[s.K6];nomatch 6,41,rfl,keep _ _ false (by rw[eP,iP ha]) rfl (by rw[eS4];cases s.anew<;>rfl) ((gU.refl _ H).upd _) ae
 rw[iN (by rw[ha];decide)]at eP;have ean:(s.anew&& !Ql73.says fW dC)=s.anew:=by rw[ha];rfl
 exists I,ta,dx,I,h1,rfl,ta,I,⟨t,fW,⟨dx,h1⟩,M.vd.sq,rfl⟩,I;refine gM (λho=>?_) (λho=>?_)
 .have ho:(fW.all λx=>x==0)=false:=by simpa using ho
  nomatch 5,37,rfl,Fy _ (by rw[eP,iP ho]) rfl ean
 have ho:(fW.all λx=>x==0)=true:=by simpa using ho
 rw[ho,iN #[]]at eP;exists I,rfl,I;refine gG (λq=>?_) (λq=>?_)
 .have q:V.int (op:Int)=V.int 0:=q;have q1:op=0:=by have:=V.int.inj q;lia
  nomatch rfl,Fy _ (by rw[eP,iP q1]) rfl ean
 have q:¬V.int (op:Int)=V.int 0:=q;have n4:op≠0:=λz=>q (by rw[z];rfl);exists I,rfl,I;refine gG (λq=>?_) (λq=>?_)
 .have q:V.int (op:Int)=V.int 37:=q;have q1:op=37:=by have:=V.int.inj q;lia
  nomatch rfl,Fy _ (by rw[eP,iN n4,iP q1]) rfl ean
 have q:¬V.int (op:Int)=V.int 37:=q;have n5:op≠37:=λz=>q (by rw[z];rfl);rw[iN n4,iN n5]at eP;nomatch I,(by show 3<=aH;decide),λtp J8=>?_
 have sT:=aS (a_.refl H) J8 (.tup [V.int 40,V.int 42,V.int 53]);exists tp,I,.inr (l_.of ae),rfl,rfl,I;have eI:tI (V.int (op:Int)) [V.int 40,V.int 42,V.int 53]=decide (op=40\/op=42\/op=53):=by
  show(((40:Int)==(op:Int))||(((42:Int)==(op:Int))||(((53:Int)==(op:Int))||false)))=_
  by_cases a:op=40
  .subst a;rfl
  by_cases b:op=42
  .subst b;rfl
  by_cases c:op=53
  .subst c;rfl
  rw[decide_eq_false (),beq_eq_false_iff_ne.mpr (),beq_eq_false_iff_ne.mpr (),beq_eq_false_iff_ne.mpr ()];rfl
 refine gM (λq=>?_) (λq=>?_)
 .have q:tI (V.int (op:Int)) [V.int 40,V.int 42,V.int 53]=true:=q;have q1:op=40\/op=42\/op=53:=by rw[eI]at q;exact of_decide_eq_true q
  rw[iP q1]at eP;nomatch I,I,ta,da,t,fW,dC,got,df,wr,rfl,M.same sT,oc,D.same sT,by rw[h0];exact q1,hgl,λH' p f bB wr' hp O D' ed hB=>?_
  rw[eP,ean]at k;refine k H' p f bB wr' (sT.free hp) O ?_ D' ed ?_
  .exact hB _ _ (sT _ _ hs) (bV hs D.rh nofun)
  .exact λc o hc nc=>hB c o (sT c o hc) λz=>nc (by rw[z];simp)
 .have q:tI (V.int (op:Int)) [V.int 40,V.int 42,V.int 53]=false:=q;have q1:¬(op=40\/op=42\/op=53):=by rw[eI]at q;exact of_decide_eq_false q
  rw[iN q1]at eP;nomatch 5,32,rfl,(Fy _ eP rfl ean).mono sT
structure zu(s:aV)(st:cb)(x:aJ):Prop where
 wk:s.stage=some 3
 hd:x.heads=st.heads
 dt:x.datas=st.datas
 ct:x.stat=s.count
 cm:x.cmd=s.cmd
 bu:x.burst=st.burst
 th:x.theirs=st.theirs
def zu.work{s:aV}{st:cb}{x:aJ}(R:zu s st x):de s=true:=by unfold de;rw[R.wk];rfl
def zu.hs{s:aV}{st:cb}{x:aJ}(R:zu s st x):x.heads=(de s&&st.heads):=by rw[R.work,R.hd];rfl
def zu.ds{s:aV}{st:cb}{x:aJ}(R:zu s st x):x.datas=(de s&&st.datas):=by rw[R.work,R.dt];rfl
def pC(h:∀x∈l,fU x.2):fU (cw l):=λz hz=>by
 obtain⟨i,hi⟩:=List.mem_iff_getElem?.mp hz;rw[nT]at hi;split at hi
 .have hi:=af hi;cases e:l.findSome? (pB i)with
  |none=>rw[e]at hi;rw[<-hi];decide
  |some v=>
   rw[e]at hi;have hi:v=z:=hi;subst hi;obtain⟨x,hx,q⟩:=List.exists_of_findSome?_eq_some e;unfold pB at q;split at q
   .exact h x hx _ (iC q)
   .cases q
 .cases hi
def gH.drop(s:a_ H H1)(hp:H ha=none)(h:gH (ha::l) H1 H'):gH l H H':=λc o hc nc=>h c o (s c o hc) λz=>by
 rcases ak.mp z with z|z
 .exact absurd z (ai hc hp)
 .exact nc z
structure Told(C:Cl)(H:Hp)(Q:VK)(E:XK)(tr:aB)(f:jg)(st:cb)(sb out:List Nat)(s':aV):Prop where
 bad:f.most<sb.length+out.length->∀H',gH [f.eZ,f.aW] H H'->E (.ref C.dF) none H'
 ok:sb.length+out.length<=f.most->∀H',fH C H' tr f s' st (sb++out)->gH [f.eZ,f.aW] H H'->Q .eY H'
def Told.q{H:Hp}{Q:VK}{E:XK}{tr:aB}{f:jg}{st:cb}{sb out:List Nat}{s':aV}(k:Told C H Q E tr f st sb out s'):Told C H (λ_ H'=>Q .eY H') E tr f st sb out s':=⟨k.bad,k.ok⟩
def Fz(a b:Nat):(cF a b).mark<=4:=by
 unfold cF;split
 .show 2<=4;decide
 .split
  .show 4<=4;decide
  .show 0<=4;decide
def uv{tag asked st a b:Nat}(h:st<256):fU (uM tag asked st a b):=by
 rw[wB];apply pC;have:=Fz a b;simp only[ak,ao,or_false,forall_eq_or_imp,forall_eq];nomatch dE _ _,dE _ _,dE _ _,λz hz=>?_
 simp only[ak,ao,or_false]at hz;lia
def uw(tag asked st a b:Nat):(uM tag asked st a b).length=48:=by rw[wB,bU]
def iI{H H1:Hp}{Q:VK}{E:XK}{tr ha da:aB}{f:jg}{s:aV}{st:cb}{hb b sb out:List Nat}(S:fH C H tr f s st sb)(s1:a_ H H1)(hp:H ha=none)(hh:H1 ha=some (.lst (nV hb)))(hl:hb.length=48)(oh:fU hb)(hd:Rd H1 da (.lst (nV b)))(ob:fU b)(GD:b.length<=1000000)(n2:da≠f.eZ)(n3:da≠ha) (eo:AG hb b s st=out) (k:Told C H Q E tr f st sb out s.counted):ot C [.ref tr,.ref ha,.ref da] H1 Q E:=by subst eo;nomatch tr,ha,da,f,s,st,hb,b,sb,rfl,S.same s1,hh,hl,oh,hd,ob,GD,aL (ai S.sn hp),n2,n3,λAF H' B=>k.bad AF H' (B.drop s1 hp),λhle H' S' B=>k.ok hle H' S' (B.drop s1 hp)
inductive AM(C:Cl)(vs:List V)(H:Hp)(Q:VK)(E:XK):Prop
 |mk(tr ta f s st sb t x)(_:vs=[.ref tr,.ref ta])(_:fH C H tr f s st sb)(_:jo C H ta t)(_:zu s st x)(_:Told C H Q E tr f st sb (iL x t.tag 0x28 (cF 0 t.size) t.asked []).1 s.counted)
def CU:T.t_.E P w aR C.dF 6 (AM C):=by
 refine T.t_.wY ?_;kd_p
 obtain⟨tr,ta,f,s,st,sb,t,x,rfl,S,ht,R,k⟩:=h;exists _,(aj (bj (fG (dO T) T.cy b4 (i5 (aI (ou T) (va cC (aU T.NU) au (aT cC rfl))) (dN jk)))));obtain⟨dx,h1⟩:=S.tu;obtain⟨dt,h2⟩:=ht;nomatch I,tr,dx,I,h1,rfl,I,I,ta,C.Task,dt,_,I,h2,T.bh,T.fe,t.m4,ta,t,40,0,t.size,rfl,⟨dt,h2⟩,λH1 p hp rD s1=>⟨bQ _,λq hq=>?_⟩
 have s2:=aS s1 hq (.lst []);refine iI (out:=(iL x t.tag 0x28 (cF 0 t.size) t.asked []).1) (b:=[]) S s2 hp (aS (a_.refl H1) hq _ _ _ rD) (uw _ _ _ _ _) (uv #[]) (.inl ae) (λz hz=>nomatch hz) #[] (aL (ai (s1 _ _ S.sn) hq)) (aL (ai rD hq)) (GG R.hs R.ds R.ct R.cm _ _ _ _ _) k.q
inductive El(C:Cl)(vs:List V)(H:Hp)(Q:VK)(E:XK):Prop
 |mk(tr ta sa:aB)(f:jg)(s:aV)(st:cb)(sb:List Nat)(t:cf)(x:aJ)(w:Nat×Nat×Nat)(_:vs=[.ref tr,.ref ta,.ref sa])(_:fH C H tr f s st sb)(_:jo C H ta t)(_:zu s st x)(_:fK H sa (nV (dT w.1 w.2.1 w.2.2)))(_:(w.1<256/\w.2.1<256/\w.2.2<256))(_:Told C H Q E tr f st sb (iL x t.tag 2 (cF 0 (wantedOf t)) t.asked (aY 2 18++dT w.1 w.2.1 w.2.2)).1 s.counted)
def GS:T.xO.E P w aR C.dF 6 (El C):=by
 refine T.xO.wY ?_;kd_p
 obtain⟨tr,ta,sa,f,s,st,sb,t,x,w,rfl,S,ht,R,hs,hw,k⟩:=h;exists _,(aa (cJ 3 nd (aI (ou T) (va cC (aU T.xX) au (aI (vY T) (fN cC))))) (aj (bj (fG (dO T) T.cy b4 (i5 gQ (bO oS (dN (i5 au (bZ cV (by rfl) T.gT fQ (fN fF)))) fF))))));obtain⟨dx,h1⟩:=S.tu;nomatch I,I,ta,I,⟨t,ht,rfl⟩,ta,t,2,0,wantedOf t,rfl,ht,λH1 p hp rD s1=>?_
 have DO:=fK.same hs s1;nomatch I,tr,dx,I,s1 _ _ h1,rfl,I,I,_,18,rfl,.inl ⟨_,DO.sq,rfl⟩,(by show 2<=aH;decide),λq hq=>?_
 have s2:=aS s1 hq (.lst [V.int 0,V.int 18]);have t2:=aS (a_.refl H1) hq (.lst [V.int 0,V.int 18]);nomatch I,q,sa,J,.inl ae,(fK.same DO t2).rd,(by show 2+18<=aH;decide),λq3 Ht=>?_
 have e3:[V.int 0,V.int ((18:Nat):Int)]++nV (dT w.1 w.2.1 w.2.2)=nV (aY 2 18++dT w.1 w.2.1 w.2.2):=rfl;rw[e3];have s3:=aS s2 Ht (.lst (nV (aY 2 18++dT w.1 w.2.1 w.2.2)));have t3:=aS t2 Ht (.lst (nV (aY 2 18++dT w.1 w.2.1 w.2.2)));refine iI (out:=(iL x t.tag 2 (cF 0 (wantedOf t)) t.asked (aY 2 18++dT w.1 w.2.1 w.2.2)).1) (b:=aY 2 18++dT w.1 w.2.1 w.2.2) S s3 hp (t3 _ _ rD) (uw _ _ _ _ _) (uv #[]) (.inl ae) ?_ (by show 20<=1000000;decide) (aL (ai (s2 _ _ S.sn) Ht)) (aL (ai (t2 _ _ rD) Ht)) (GG R.hs R.ds R.ct R.cm _ _ _ _ _) k.q;obtain⟨w1,w2,w3⟩:=hw;refine fU.append (dE _ _) λz hz=>?_;unfold dT at hz;simp only[ak,ao,or_false]at hz;omega
structure Ll(C:Cl)(H:Hp)(oa:aB)(f:mv)(rows:List (List Nat)):Prop where
 at_:wy C H oa f
 x6:sG H f.rows rows
 zS:m7 rows
 As:rows.length<100000
 small:rows.flatten.length<=4194304
 oct:fU rows.flatten
theorem Ll.same(h:Ll C H p f bB)(s:a_ H H'):Ll C H' p f bB:=⟨h.at_.same s,h.x6.same s,h.zS,h.As,h.small,h.oct⟩
inductive Ai(C:Cl)(vs:List V)(H:Hp)(Q:VK)(E:XK):Prop
 |mk(tr ta oa f s st sb t x o bB)(_:vs=[.ref tr,.ref ta,.ref oa])(_:fH C H tr f s st sb)(_:jo C H ta t)(_:zu s st x)(_:Ll C H oa o bB)(_:Told C H Q E tr f st sb (iL x t.tag 0 (cF (if bit t.marks 5=true then o.written else bB.flatten.length) (wantedOf t)) t.asked []).1 s.counted)
def Lm:T.Cj.E P w aR C.dF 6 (Ai C):=by
 refine T.Cj.wY ?_;kd_p
 obtain⟨tr,ta,oa,f,s,st,sb,t,x,o,bB,rfl,S,ht,R,O,k⟩:=h;exists _,(aa (cJ 3 nd (kC (dA (b_ (jr T) T.bh cC)) (aT fF rfl) (b_ (kN T) T.g9 fF))) (aj (bj (fG (dO T) T.cy b4 (i5 (aI (ou T) (va cC au gQ (aI (vY T) (fN cC)))) (dN jk))))));obtain⟨dx,h1⟩:=S.tu;obtain⟨dt,h2⟩:=ht;obtain⟨do_,h3⟩:=O.at_;have main:∀(H0:Hp)(n:Nat),a_ H H0->(if bit t.marks 5=true then o.written else bB.flatten.length)=n-> EU C.Turn "send_counted" (ot C) [] E (jU 0) (iR (sk (rb C) [] E0 (iR (jU 1) (iR (tC (.int 0)) (iR (jU 3) (iR (sk (qf λH a v=>∃t,jo C H a t/\v= .int (wantedOf t:Nat)) [] E0 (iR (jU 1) kK)) kK))))) (iR (WN kK) kK)) [some (.ref tr),some (.ref ta),some (.ref oa),some (.int (n:Int))] H0 (λ_ H'=>Q .eY H'):=λH0 n s0 en=>by
  have ht0:jo C H0 ta t:=⟨dt,s0 _ _ h2⟩;nomatch I,tr,dx,I,s0 _ _ h1,rfl,I,I,I,ta,I,⟨t,ht0,rfl⟩,ta,t,0,n,wantedOf t,rfl,ht0,λH1 p hp rD s1=>⟨bQ _,λq hq=>?_⟩
  have s2:=aS (s0.trans s1) hq (.lst []);rw[en]at k;refine iI (out:=(iL x t.tag 0 (cF n (wantedOf t)) t.asked []).1) (b:=[]) S s2 (s0.free hp) (aS (a_.refl H1) hq _ _ _ rD) (uw _ _ _ _ _) (uv #[]) (.inl ae) (λz hz=>nomatch hz) #[] (aL (ai (s1 _ _ (s0 _ _ S.sn)) hq)) (aL (ai rD hq)) (GG R.hs R.ds R.ct R.cm _ _ _ _ _) k.q
 exists I,ta,dt,I,h2,rfl,ta,I,⟨t,⟨dt,h2⟩,rfl⟩,I;refine gM (λhb=>?_) (λhb=>?_)
 .exists I,oa,C.Outcome,do_,_,I,h3,T.g9,T.pq,o.l_written;exact main H o.written (a_.refl H) (by rw[iP hb])
 .nomatch I,oa,do_,I,h3,rfl,oa,o,bB,rfl,O.at_,O.x6.rows,O.As,λH1 s1=>?_
  exact main H1 (pI bB) s1 (by rw[iN (by rw[hb];decide),ny])
def MP(T:Txt P w K mg C):C.Task≠C.Session:=by have:=T.VZ;simp only[cU,ak,not_or]at this;exact this.2.1.1
def aaU(T:Txt P w K mg C):C.Outcome≠C.Session:=by have:=T.VZ;simp only[cU,ak,not_or]at this;exact λq=>this.2.2.1.2.1 q.symm
def V4(T:Txt P w K mg C):C.Turn≠C.Session:=by have:=T.VZ;simp only[cU,ak,not_or]at this;exact λq=>this.2.2.1.1 q.symm
def aaV(T:Txt P w K mg C):C.Disk≠C.Session:=by have:=T.VZ;simp only[cU,ak,not_or]at this;exact this.1.2.1
def ox{H:Hp}{a b c d dx dy:aB}{fs gs:List (bL×V)}(h:H a=some (.ins c dx fs))(h':H b=some (.ins d dy gs))(n:c≠d):a≠b:=bV h h' (by intro z;injection z with z1;exact n z1)
def fH.ad_{H H':Hp}{tr ha:aB}{f:jg}{s:aV}{st:cb}{sb CH hb:List Nat}(S:fH C H tr f s st sb)(hh:H ha=some (.lst (nV hb)))(hs:H' f.eZ=some (.lst (nV CH)))(hB:vc ha f.eZ H H'):fH C H' tr f s st CH:=by obtain⟨dx,h1⟩:=S.tu;obtain⟨⟨dy,h2⟩,h3⟩:=S.se;nomatch⟨dx,hB _ _ h1 (bV h1 hh nofun) (bV h1 S.sn nofun)⟩,⟨⟨dy,hB _ _ h2 (bV h2 hh nofun) (bV h2 S.sn nofun)⟩,hB _ _ h3 (bV h3 hh nofun) (bV h3 S.sn nofun)⟩,hs,S.mo
def sG.pD{l:List aB}{H H':Hp}{ra:aB}{bB:List (List Nat)}(R:sG H ra bB)(h:gH l H H')(n:∀a∈l,∀o u,H a≠some (.gm o u)):sG H' ra bB:=by obtain⟨as,h1,h2,h3⟩:=R;have key:∀b xs,fK H b xs->fK H' b xs:=λb xs⟨o,e⟩=>⟨o,h _ _ e λm=>n b m o _ e⟩;nomatch as,key _ _ h1,h2,λi a r ha hr=>key _ _ (h3 i a r ha hr)
def Om(h:m<256):fU (rf tag k o m):=by
 rw[x9];apply pC;simp only[ak,ao,or_false,forall_eq_or_imp,forall_eq];nomatch dE _ _,dE _ _,dE _ _,dE _ _,λz hz=>?_
 simp only[ak,ao,or_false]at hz;lia
def Oo:fU (jL (rf tag k o 129) a b):=by
 rw[wC];apply pC;have:=Fz a b;simp only[ak,ao,or_false,forall_eq_or_imp,forall_eq];nomatch dE _ _,dE _ _,dE _ _,dE _ _,dE _ _,λz hz=>?_
 simp only[ak,ao,or_false]at hz;lia
def FA(tag k o m:Nat):(rf tag k o m).length=48:=by rw[x9,bU]
def Oq(tag k o a b:Nat):(jL (rf tag k o 129) a b).length=48:=by rw[wC,bU]
inductive GU(C:Cl)(vs:List V)(H:Hp)(Q:VK)(E:XK):Prop
 |mk(tr ta oa f s st sb t x o bB)(_:vs=[.ref tr,.ref ta,.ref oa])(_:fH C H tr f s st sb)(_:jo C H ta t)(_:zu s st x)(_:Ll C H oa o bB)(_:(0<st.burst/\st.burst<=262144/\0<st.theirs))(_:0<(bB.flatten.take t.size).length)(_:Told C H Q E tr f st sb (xc x t.tag (cF bB.flatten.length t.size) (bB.flatten.take t.size) (bB.flatten.take t.size).length 0 0) s.counted)
def Jk:T.z_.E P w aR C.dF 6 (GU C):=by
 refine T.z_.wY ?_;kd_p
 obtain⟨tr,ta,oa,f,s,st,sb,t,x,o,bB,rfl,S,ht,R,O,⟨V1,hb9,ht0⟩,QG,kk⟩:=h;exists _,(aa (cJ 3 nd (aT b4 rfl)) (aa (cJ 4 nd (bZ (kJ rfl) (by rfl) T.vV qx (i5 (b_ (kN T) T.g9 fF) (aT cC rfl)))) (aa (cJ 5 nd au) (aa (cJ 6 nd au) (aj (BH Nb (bg tH zV kS (bD _)) (aa (cJ 7 nd (aI (Ja T) (mh gQ zV kS))) (aa (cJ 8 nd (fG (CK T) T.g9 fF (i5 zV pv7))) (aa (bH (bg fD pv7 kS (bD _)) (aa (cJ 9 nd (aI (vZ T) (va cC VX zV (bO PQ (aU T.pw) (aU T.D5))))) (aa (bj (aI (CI T) (mh pv9 (b_ (kN T) T.g9 fF) (aT cC rfl)))) (aj (bj (fG (dO T) T.cy b4 (i5 pv9 pv8)))))) (aa (cJ 10 nd (kC (bg fD (bO yU pv7 (b_ (j0 T) T.aF gQ)) au (bD _)) (aU T.pw) au)) (aj (bj (fG (um T) T.cy b4 (i5 (aI (vZ T) (va cC VX zV adS)) pv8)))))) (aa (cJ 5 nd pv7) (aj (cJ 6 nd (bO eJ VX au)))))))))))));obtain⟨dx,h1⟩:=S.tu;obtain⟨dt,h2⟩:=ht;obtain⟨do_,h3⟩:=O.at_;obtain⟨⟨dy,h4⟩,h5⟩:=S.se;generalize hgo:bB.flatten.take t.size=go at QG kk;have hL:go.length=min t.size bB.flatten.length:=by rw[<-hgo,bf]
 generalize hPC:xc x t.tag (cF bB.flatten.length t.size) go go.length 0 0=PC at kk;exists I,tr,C.Turn,dx,_,I,h1,T.cy,T.bX,f.eA;nomatch I,oa,do_,I,h3,rfl,oa,o,bB,rfl,O.at_,O.x6.rows,O.As,λH1 s1=>⟨_,rfl,ta,C.Task,dt,_,_,rfl,s1 _ _ h2,T.bh,T.fe,t.m4,_,_,rfl,?_⟩
 have eL:(if(t.size:Int)<((pI bB:Nat):Int)then(t.size:Int)else((pI bB:Nat):Int))=((go.length:Nat):Int):=by rw[ny,hL];split<;>lia
 rw[eL];let W:Nat->L2.St->Hp->Prop:=λm σ H'=>∃(b k:Nat)(v7 v8 v9 v10:Option V)(CH:List Nat),σ=[some (.ref tr),some (.ref ta),some (.ref oa),some (.ref f.aW),some (.int (go.length:Nat)),some (.int (b:Nat)),some (.int (k:Nat)),v7,v8,v9,v10]/\m=go.length-b/\gH [f.eZ,f.aW] H H'/\ ((b<go.length/\(∃fu,go.length-b<=fu/\fH C H' tr f s st CH/\CH++xc x t.tag (cF bB.flatten.length t.size) go fu b k=sb++PC))\/(b=go.length/\fH C H' tr f s.counted st CH/\CH=sb++PC/\sb.length+PC.length<=f.most));exists W,⟨go.length-0,0,0,none,none,none,none,sb,rfl,rfl,gH.same s1,.inl ⟨QG,go.length,(),S.same s1,by rw[hPC]⟩⟩;rintro m σ H' ⟨b,k,v7,v8,v9,v10,CH,rfl,rfl,B,kx⟩;exists I,I,J,I;refine gG (λhc=>?_) (λhc=>?_);rotate_left
 .have hc:¬(b:Int)<((go.length:Nat):Int):=hc;rcases kx with⟨h,_⟩|⟨_,S',e,hle⟩
  .lia
  .subst e;exact kk.ok hle H' S' B
 have hc:(b:Int)<((go.length:Nat):Int):=hc;rcases kx with⟨hbL,fu,hfu,S',eS⟩|⟨h,_⟩;rotate_left
 .lia
 exists fun σ' GV=>∃m',m'<go.length-b/\W m' σ' GV,fun σ' GV h=>h;have nf:∀a∈[f.eZ,f.aW],∀o u,H a≠some (.gm o u):=λa ha o u e=>by
  rcases ak.mp ha with rfl|ha
  .rw[S.sn]at e;cases e
  .rw[aO.mp ha,h4]at e;cases e
 have sI:H' ta=some (.ins C.Task dt t.fs):=B _ _ h2 (by simp only[ak,ao,or_false,not_or];nomatch bV h2 S.sn nofun,ox h2 h4 (MP T));have UH:H' oa=some (.ins C.Outcome do_ o.fs):=B _ _ h3 (by simp only[ak,ao,or_false,not_or];nomatch bV h3 S.sn nofun,ox h3 h4 (aaU T));have O':Ll C H' oa o bB:=⟨⟨do_,UH⟩,O.x6.pD B nf,O.zS,O.As,O.small,O.oct⟩;have ePE:uo st b go.length=pEnd x.burst x.theirs b go.length:=by unfold uo pEnd;rw[R.bu,R.th]
 have xb:0<x.burst:=by rw[R.bu];exact V1
 have xt:0<x.theirs:=by rw[R.th];exact ht0
 obtain⟨ge,gl⟩:=Bj (len:=go.length) xb xt hbL;have RA:aD bB.flatten b (pEnd x.burst x.theirs b go.length-b)=aD go b (pEnd x.burst x.theirs b go.length-b):=by
  have X2:∀m,b+m<=t.size->aD bB.flatten b m=aD go b m:=λm hm=>by unfold aD;rw[<-hgo,Hy,qN,dM ()]
  exact X2 _ ()
 have CV:fU (aD go b (pEnd x.burst x.theirs b go.length-b)):=by rw[<-RA];exact O.oct.part _ _
 have yc:(aD go b (pEnd x.burst x.theirs b go.length-b)).length=pEnd x.burst x.theirs b go.length-b:=by unfold aD;rw[bf,cO];lia
 have wF:(aD go b (pEnd x.burst x.theirs b go.length-b)).length<=1000000:=by
  rw[yc];have h9:pEnd x.burst x.theirs b go.length<=(b/x.burst+1)*x.burst:=by unfold pEnd;lia
  have h8:b/x.burst*x.burst<=b:=Tj _ _;have h7:x.burst<=262144:=by rw[R.bu];exact hb9
  rw[SO,FR]at h9;lia
 obtain⟨fu,rfl⟩:∃g,fu=g+1:=⟨fu-1,()⟩;have se':=S'.se;obtain⟨Rk,UA⟩:=S'.tu;exists I,I,I,f.aW,s,st,b,go.length,rfl,se',V1,hb9;rw[ePE];generalize he:pEnd x.burst x.theirs b go.length=e at ge gl RA CV yc wF;nomatch I,oa,do_,I,UH,rfl,I,I,oa,o,bB,b,e,rfl,⟨do_,UH⟩,O'.x6.rows,O.zS,ge,(),O.small,λH2 p hp v_ s2=>?_
 rw[RA]at v_;exists I,I,rfl,I;refine gG (λhl=>?_) (λhl=>?_)
 .
  have hl:V.int (e:Int)=V.int ((go.length:Nat):Int):=hl;have J7:e=go.length:=by have:=V.int.inj hl;lia
  have eP:=Je (s:=x) (itt:=t.tag) (x:=cF bB.flatten.length t.size) (d:=go) (f:=fu) (k:=k) xb xt hbL (by rw[he];exact J7);have eO:=last_eq (b:=aD go b (e-b)) R.hs R.ds R.ct R.cm t.tag k b bB.flatten.length t.size;rw[yc,J7]at eO;rw[<-eO,<-J7]at eP;rw[eP]at eS;nomatch I,I,I,J,ta,t,k,b,129,rfl,⟨dt,s2 _ _ sI⟩,λH3 q hq Ht s3=>?_
  nomatch I,I,oa,do_,I,s3 _ _ (s2 _ _ UH),rfl,oa,o,bB,rfl,⟨do_,s3 _ _ (s2 _ _ UH)⟩,((O'.x6.same s2).same s3).rows,O.As,λH4 s4=>⟨_,rfl,ta,C.Task,dt,_,_,rfl,s4 _ _ (s3 _ _ (s2 _ _ sI)),T.bh,T.fe,t.m4,q,rf t.tag k b 129,pI bB,t.size,rfl,s4 _ _ Ht,FA _ _ _ _,?_⟩
  rw[ny];have Zh:=s2.trans (s3.trans s4);have N_:H' q=none:=s2.free hq;have s5:=a_.nQ Zh N_ (.lst (nV (jL (rf t.tag k b 129) bB.flatten.length t.size)));have Zi:p≠q:=ai v_ hq;exists I,tr,Rk,I,s5 _ _ UA,rfl,I,I;nomatch tr,q,p,f,s,st,_,aD go b (e-b),CH,rfl,S'.same s5,ae,Oq _ _ _ _ _,Oo,.inl (by rw[aG Zi];exact s4 _ _ (s3 _ _ v_)),CV,wF,aL (ai S'.sn N_),aL (ai S'.sn hp),Zi,λAF GV B0=>?_,λhle GV S'' B0=>?_
  .have V5:=B0.drop s5 N_;refine kk.bad ?_ GV (B.trans V5);have:=congrArg hU eS;rw[az,az]at this;unfold AG at AF;lia
  .have V5:=B0.drop s5 N_;exists I,I,J;nomatch go.length-e,(),e,k+1,_,_,_,J,B.trans V5,.inr ⟨J7,S'',eS,?_⟩
   have:=congrArg hU eS;rw[az,az]at this;unfold AG at hle;lia
 .
  have hl:¬V.int (e:Int)=V.int ((go.length:Nat):Int):=hl;have J7:e≠go.length:=λz=>hl (by rw[z]);have eP:=Lf (s:=x) (itt:=t.tag) (x:=cF bB.flatten.length t.size) (d:=go) (f:=fu) (k:=k) xb xt hbL (by rw[he];exact J7);rw[he]at eP;obtain⟨⟨yK,h4'⟩,h5'⟩:=S'.se;exists I,I,f.aW,yK,I,s2 _ _ h4',rfl,f.aW,I,⟨s,st,⟨⟨yK,s2 _ _ h4'⟩,s2 _ _ h5'⟩,rfl⟩,J,(by show(0:Int)<(st.burst:Int);lia),rfl,I;refine ifC ?_;obtain⟨mk,emk,aeb,hmk⟩:∃mk:Nat,(if decide (V.int ((e:Int)%(st.burst:Int))=V.int 0)=true then V.int 128 else V.int 0)=V.int (mk:Int)/\mk=(if e%x.burst=0 then 0x80 else 0)/\mk<256:=by
   have e1:(e:Int)%(st.burst:Int)=((e%st.burst:Nat):Int):=();rw[e1,R.bu];by_cases hz:e%st.burst=0
   .nomatch 128,by rw[hz];rfl,by rw[iP hz],#[]
   .nomatch 0,?_,by rw[iN hz],#[]
    rw[decide_eq_false (λq=>hz (by have:=V.int.inj q;lia))];rfl
  have eO:=XW (b:=aD go b (e-b)) R.hs R.ds R.cm t.tag k b mk;rw[yc]at eO;rw[<-aeb,<-eO]at eP;rw[eP,<-dW]at eS;show nJ 10 (if decide (V.int ((e:Int)%(st.burst:Int))=V.int 0)=true then V.int 128 else V.int 0) _ _ _;rw[emk];nomatch I,tr,Rk,I,s2 _ _ UA,rfl,I,I,I,I,ta,t,k,b,mk,rfl,⟨dt,s2 _ _ sI⟩,λH3 q hq Ht s3=>⟨_,rfl,?_⟩
  have Pg:=s2.trans s3;have N_:H' q=none:=s2.free hq;have Zi:p≠q:=ai v_ hq;have S3:=S'.same Pg;nomatch tr,q,p,f,s,st,_,aD go b (e-b),CH,rfl,S3,Ht,FA _ _ _ _,Om hmk,.inl (s3 _ _ v_),CV,wF,aL (ai S'.sn N_),aL (ai S'.sn hp),Zi,λAF GV V5=>?_,λhle GV aec V5=>?_
  .refine kk.bad ?_ GV (B.trans λc o hc nc=>V5 c o (Pg c o hc) (ai hc N_) (λz=>nc (by rw[z];simp)));have:=congrArg hU eS;rw[az,az,az]at this;lia
  .exists I,I,J;nomatch go.length-e,(),e,k+1,_,_,_,J,B.trans λc o hc nc=>V5 c o (Pg c o hc) (ai hc N_) (λz=>nc (by rw[z];simp)),.inl ⟨(),fu,(),S3.ad_ Ht aec V5,eS⟩
def toldOf(x:aJ)(t:cf)(y:jQ):List Nat:=match y.wrong with
 |some w=>(iL x t.tag 2 (cF 0 (wantedOf t)) t.asked (aY 2 18++dT w.1 w.2.1 w.2.2)).1
 |none=>if bit t.marks 6=true/\0<(y.data.take t.size).length then xc x t.tag (cF y.data.length t.size) (y.data.take t.size) (y.data.take t.size).length 0 0 else(iL x t.tag 0 (cF (if bit t.marks 5=true then(match y.wrote with|some w=>w.2.length|none=>0)else y.data.length) (wantedOf t)) t.asked []).1
inductive UI(C:Cl)(vs:List V)(H:Hp)(Q:VK)(E:XK):Prop
 |mk(tr ta oa f s st sb t x o bB y)(_:vs=[.ref tr,.ref ta,.ref oa])(_:fH C H tr f s st sb)(_:jo C H ta t)(_:zu s st x)(_:K_ C H oa y o bB)(_:bB.length<100000)(_:bB.flatten.length<=4194304)(_:fU bB.flatten)(_:(∀w,y.wrong=some w->w.1<256/\w.2.1<256/\w.2.2<256))(_:(0<st.burst/\st.burst<=262144/\0<st.theirs))(_:Told C H Q E tr f st sb (toldOf x t y) s.counted)
def X3:T.QM.E P w aR C.dF 7 (UI C):=by
 refine T.QM.wY ?_;kd_p
 obtain⟨tr,ta,oa,f,s,st,sb,t,x,o,bB,y,rfl,S,ht,R,O,Qa,Ph,aed,hw,hb,k⟩:=h;replace k:=k.q;exists _,(aj (bH (i_ (xi (aT fF rfl))) (aj (bj (aI (GS T) (mh b4 cC (aT fF rfl))))) (aj (bH (nZ (dA (b_ (rV T) T.bh cC)) (lF (bg o7 (bZ (kJ rfl) (by rfl) T.vV qx (i5 (b_ (kN T) T.g9 fF) (aT cC rfl))) au (bD _)))).pt (aj (bj (aI (Jk T) (mh b4 cC fF)))) (aj (bj (aI (Lm T) (mh b4 cC fF))))))));obtain⟨do_,h3⟩:=O.at_;obtain⟨dt,h2⟩:=ht;have Pj:=O.sense;exists I,oa,C.Outcome,do_,_,I,h3,T.g9,T.m3,o.MM,I;cases ew:y.wrong with
 |some w'=>
  rw[ew]at Pj;obtain⟨sa,es,hf⟩:=Pj;refine gM (λ_=>?_) (λq=>by rw[es]at q;cases q);exists I,I,I,oa,C.Outcome,do_,_,I,h3,T.g9,T.m3,o.MM,tr,ta,sa,f,s,st,sb,t,x,w',(by rw[es];rfl),S,⟨dt,h2⟩,R,hf,hw w' ew;have e:toldOf x t y=(iL x t.tag 2 (cF 0 (wantedOf t)) t.asked (aY 2 18++dT w'.1 w'.2.1 w'.2.2)).1:=by unfold toldOf;rw[ew]
  rw[e]at k;exact k
 |none=>
  rw[ew]at Pj;have Pj:o.sense=V.eY:=Pj;refine gM (λq=>by rw[Pj]at q;cases q) (λ_=>?_);have OR:Ll C H oa o bB:=⟨O.at_,O.x6,O.zS,Qa,Ph,aed⟩;have eD:bB.flatten=y.data:=O.data;have eN:toldOf x t y=if bit t.marks 6=true/\0<(y.data.take t.size).length then xc x t.tag (cF y.data.length t.size) (y.data.take t.size) (y.data.take t.size).length 0 0 else(iL x t.tag 0 (cF (if bit t.marks 5=true then(match y.wrote with|some w=>w.2.length|none=>0)else y.data.length) (wantedOf t)) t.asked []).1:=by unfold toldOf;rw[ew]
  have aaX:∀H1,a_ H H1->¬(bit t.marks 6=true/\0<(y.data.take t.size).length)->Ai C [.ref tr,.ref ta,.ref oa] H1 (λ_ H'=>Q .eY H') E:=λH1 s1 hn=>by rw[eN,iN hn]at k;exists tr,ta,oa,f,s,st,sb,t,x,o,bB,rfl,S.same s1,⟨dt,s1 _ _ h2⟩,R,OR.same s1;rw[eD,O.wrote];nomatch λh H' B=>k.bad h H' λc u hc nc=>B c u (s1 c u hc) nc,λh H' S' B=>k.ok h H' S' λc u hc nc=>B c u (s1 c u hc) nc
  exists I,ta,dt,I,h2,rfl,ta,I,⟨t,⟨dt,h2⟩,rfl⟩,I;refine gM (λhr6=>?_) (λhr6=>?_)
  .nomatch I,oa,do_,I,h3,rfl,oa,o,bB,rfl,O.at_,O.x6.rows,Qa,λH1 s1=>⟨_,rfl,ta,C.Task,dt,_,_,rfl,s1 _ _ h2,T.bh,T.fe,t.m4,_,_,rfl,_,_,rfl,rfl,_,rfl,?_⟩
   have eL:(if(t.size:Int)<((pI bB:Nat):Int)then(t.size:Int)else((pI bB:Nat):Int))=(((y.data.take t.size).length:Nat):Int):=by rw[ny,eD,bf];split<;>omega
   refine gG (λq=>?_) (λq=>?_)
   .have q:(0:Int)<(if(t.size:Int)<((pI bB:Nat):Int)then(t.size:Int)else((pI bB:Nat):Int)):=q;rw[eL]at q;have q1:0<(y.data.take t.size).length:=by omega
    rw[eN,iP ⟨hr6,q1⟩]at k;exists I,I,I,tr,ta,oa,f,s,st,sb,t,x,o,bB,rfl,S.same s1,⟨dt,s1 _ _ h2⟩,R,OR.same s1,hb,by rw[eD];exact q1
    rw[eD];nomatch λh H' B=>k.bad h H' λc u hc nc=>B c u (s1 c u hc) nc,λh H' S' B=>k.ok h H' S' λc u hc nc=>B c u (s1 c u hc) nc
   .have q:¬(0:Int)<(if(t.size:Int)<((pI bB:Nat):Int)then(t.size:Int)else((pI bB:Nat):Int)):=q;rw[eL]at q;exists I,I,I;unfold kK;exact aaX H1 s1 (λz=>q (by omega))
  .exists I,I,I;unfold kK;exact aaX H (a_.refl H) (λz=>by rw[hr6]at z;cases z.1)
inductive Kd where
 |uq|set|seen|tasks
 |task(n:Nat)
 |data(n:Nat)
 deriving DecidableEq
inductive kT where
 |mC|eZ|rh
 |own(i:Nat)(k:Kd)
 deriving DecidableEq
structure dG where
 a:aB
 f:cf
 lun:List Nat
 cdb:List Nat
 got:List Nat
structure fS where
 a:aB
 s:aV
 st:cb
 seen:List bL
 held:List Nat
 ts:List dG
def g_(l:List bL):List (Key×V):=l.map λk=>(.inr k,.bl true)
def cp(ts:List dG):List (Key×V):=ts.map λt=>(.inl (t.f.tag:Int),.ref t.a)
structure TaskR0(C:Cl)(H:Hp)(bP:aB->kT)(i:Nat)(t:dG):Prop where
 cm:pK C H t.a t.f t.lun t.cdb t.got
 la:bP t.a= .own i (.task t.f.tag)
 ld:bP t.f.ad= .own i (.data t.f.tag)
 ol:fU t.lun
 oc:fU t.cdb
 og:fU t.got
 tg:t.f.tag<4294967296
 gs:t.got.length<=65536
structure oI(C:Cl)(H:Hp)(bP:aB->kT)(i:Nat)(t:dG):Prop extends TaskR0 C H bP i t where
 wr:bit t.f.marks 5=true
 rd:bit t.f.marks 6=false
 sz:t.f.size<=65536
 gl:t.got.length<=t.f.limit
 ll:t.f.limit<=t.f.size
structure ux(st:cb):Prop where
 b0:0<st.burst
 b9:st.burst<=262144
 t0:0<st.theirs
 f9:st.first<=65536
structure lj(C:Cl)(H:Hp)(bP:aB->kT)(i:Nat)(S:fS):Prop where
 at_:qw C H S.a S.s
 kZ:H S.s.ja=some (.dK S.st.kv)
 lr:H S.s.gV=some (.dK (g_ S.seen))
 ij:H S.s.cD=some (.dK (cp S.ts))
 uz:fK H S.s.held (nV S.held)
 nW:∀t∈S.ts,oI C H bP i t
 nd:(S.ts.map λt=>t.f.tag).Nodup
 As:S.ts.length<=8
 la:bP S.a= .own i .uq
 oQ:bP S.s.ja= .own i .set
 lT:bP S.s.gV= .own i .seen
 kF:bP S.s.cD= .own i .tasks
 ok:ux S.st
 sm:S.seen.length<=64
 oy:S.s.last<4294967295
 oz:S.s.cmd<4294967296
 pL:S.s.count<4294967296
structure Act where
 f:jg
 df:jt
 wr:List sH
 S:fS
 sb:List Nat
structure hG(C:Cl)(H:Hp)(bP:aB->kT)(i:Nat)(tr:aB)(A:Act):Prop where
 tu:Q5 C H tr A.f
 FC:bP tr= .mC
 sn:H A.f.eZ=some (.lst (nV A.sb))
 uA:bP A.f.eZ= .eZ
 mo:A.f.most<=4194304
 le:A.sb.length<=A.f.most
 dk:jH C H A.f.disk A.df A.wr
 CW:bP A.f.disk= .mC
 yL:bP A.df.written= .rh
 od:∀p,bM A.wr p<256
 ss:lj C H bP i A.S
 sa:A.f.aW=A.S.a
def Keeps(i:Nat)(bP cQ:aB->kT)(H H':Hp):Prop:=∀c o,H c=some o->(bP c= .mC\/∃j k,bP c= .own j k/\j≠i)->H' c=some o/\cQ c=bP c
def sJ(bP:aB->kT)(H H':Hp):Prop:=∀c o,H c=some o->bP c= .mC->H' c=some o
theorem Keeps.trans(x:Keeps i l l1 H H1)(y:Keeps i l1 l2 H1 H2):Keeps i l l2 H H2:=λc o h hl=>by obtain⟨h1,e1⟩:=x c o h hl;obtain⟨h2,e2⟩:=y c o h1 (by rw[e1];exact hl);nomatch h2,e2.trans e1
def Keeps.same(s:a_ H H1):Keeps i l l H H1:=λc o h _=>⟨s c o h,rfl⟩
def Keeps.FD(x:Keeps i l l1 H H1)(y:sJ l1 H1 H2):sJ l H H2:=λc o h hl=>by obtain⟨h1,e1⟩:=x c o h (.inl hl);exact y c o h1 (e1.trans hl)
def sJ.X4(B:gH l H H')(hl:∀a∈l,bP a≠ .mC):sJ bP H H':=λc o h e=>B c o h λm=>hl c m e
def Keeps.X4(B:gH l H H')(hl:∀a∈l,bP a= .eZ\/bP a= .rh\/∃k,bP a= .own i k):Keeps i bP bP H H':=λc o h e=>⟨B c o h λm=>by
 rcases hl c m with q|q|⟨k,q⟩
 .rcases e with e|⟨j,k',e,_⟩<;>(rw[q]at e;cases e)
 .rcases e with e|⟨j,k',e,_⟩<;>(rw[q]at e;cases e)
 .rcases e with e|⟨j,k',e,n⟩
  .rw[q]at e;cases e
  .rw[q]at e;injection e with e1;exact n e1.symm,rfl⟩
def c_{bP:aB->kT}{a b:aB}{x y:kT}(h:bP a=x)(h':bP b=y)(n:x≠y):a≠b:=λe=>n (by rw[<-h,<-h',e])
def gH.iZ(B:gH l H H')(n:∀a∈l,∀o u,H a≠some (.gm o u)):js H H':=λb o u e=>B b _ e λm=>n b m o u e
def jH.pD(D:jH C H a f wr)(B:gH l H H')(kf:js H H')(n1:a∉l)(n2:f.written∉l):jH C H' a f wr:=by obtain⟨dx,h1⟩:=D.at_;nomatch⟨dx,B _ _ h1 n1⟩,B _ _ D.rh n2,kf.gm D.blank,λx hx=>⟨(D.row x hx).1,(D.row x hx).2.1,kf.gm (D.row x hx).2.2⟩,D.nd
def pK.pD(M:pK C H ta t fW dC got)(B:gH l H H')(kf:js H H')(n1:ta∉l)(n2:t.ad∉l):pK C H' ta t fW dC got:=by obtain⟨dx,h1⟩:=M.at_;nomatch⟨dx,B _ _ h1 n1⟩,kf.gm M.vd,kf.gm M.oT,B _ _ M.mF n2,M.ll,M.lc
theorem TaskR0.same(R:TaskR0 C H bP i t)(s:a_ H H'):TaskR0 C H' bP i t:=⟨R.cm.same s,R.la,R.ld,R.ol,R.oc,R.og,R.tg,R.gs⟩
theorem oI.same(R:oI C H bP i t)(s:a_ H H'):oI C H' bP i t:=⟨R.toTaskR0.same s,R.wr,R.rd,R.sz,R.gl,R.ll⟩
theorem lj.same(R:lj C H bP i S)(s:a_ H H'):lj C H' bP i S:=by obtain⟨dx,h1⟩:=R.at_;nomatch⟨dx,s _ _ h1⟩,s _ _ R.kZ,s _ _ R.lr,s _ _ R.ij,fK.same R.uz s,λt ht=>(R.nW t ht).same s,R.nd,R.As,R.la,R.oQ,R.lT,R.kF,R.ok,R.sm,R.oy,R.oz,R.pL
theorem hG.same(R:hG C H bP i tr A)(s:a_ H H'):hG C H' bP i tr A:=by obtain⟨dx,h1⟩:=R.tu;nomatch⟨dx,s _ _ h1⟩,R.FC,s _ _ R.sn,R.uA,R.mo,R.le,R.dk.same s,R.CW,R.yL,R.od,R.ss.same s,R.sa
def hG.sending(R:hG C H bP i tr A):fH C H tr A.f A.S.s A.S.st A.sb:=⟨R.tu,⟨by rw[R.sa];exact R.ss.at_,R.ss.kZ⟩,R.sn,R.mo⟩
def GW(s s':aV):Prop:=s'.held=s.held/\s'.ja=s.ja/\s'.gV=s.gV/\s'.cD=s.cD/\s'.line=s.line
structure Nums(s:aV):Prop where
 oy:s.last<4294967295
 oz:s.cmd<4294967296
 pL:s.count<4294967296
def hG.step(R:hG C H bP i tr A)(B:gH [A.f.eZ,A.S.a,A.df.written] H H')(sn:H' A.f.eZ=some (.lst (nV CH)))(se:qw C H' A.S.a s')(ad:GW A.S.s s')(nu:Nums s') (le:CH.length<=A.f.most) (D:jH C H' A.f.disk A.df wr') (od:∀p,bM wr' p<256):hG C H' bP i tr {A with S:={A.S with s:=s'},wr:=wr',sb:=CH}/\Keeps i bP bP H H':=by
 obtain⟨dx,h1⟩:=R.tu;obtain⟨dy,h2⟩:=R.ss.at_;obtain⟨e1,e2,e3,e4,e5⟩:=ad;have nf:∀a∈[A.f.eZ,A.S.a,A.df.written],∀o u,H a≠some (.gm o u):=λa ha o u e=>by
  simp only[ak,ao,or_false]at ha;rcases ha with rfl|rfl|rfl
  .rw[R.sn]at e;cases e
  .rw[h2]at e;cases e
  .rw[R.dk.rh]at e;cases e
 have kf:=B.iZ nf;have ni:∀c x,bP c=x->x≠ .eZ->x≠ .own i .uq->x≠ .rh->c∉[A.f.eZ,A.S.a,A.df.written]:=λc x h n1 n2 n3 m=>by
  simp only[ak,ao,or_false]at m;rcases m with rfl|rfl|rfl
  .exact n1 (h.symm.trans R.uA)
  .exact n2 (h.symm.trans R.ss.la)
  .exact n3 (h.symm.trans R.yL)
 nomatch⟨⟨dx,B _ _ h1 (ni _ _ R.FC #[] nofun #[])⟩,R.FC,sn,R.uA,R.mo,le,D,R.CW,R.yL,od,?_,R.sa⟩,Keeps.X4 B λa ha=>?_
 .nomatch se,?_,?_,?_,?_,λt ht=>?_,R.ss.nd,R.ss.As,R.ss.la,?_,?_,?_,R.ss.ok,R.ss.sm,nu.oy,nu.oz,nu.pL
  .show H' s'.ja=_;rw[e2];exact B _ _ R.ss.kZ (ni _ _ R.ss.oQ nofun nofun nofun)
  .show H' s'.gV=_;rw[e3];exact B _ _ R.ss.lr (ni _ _ R.ss.lT nofun nofun nofun)
  .show H' s'.cD=_;rw[e4];exact B _ _ R.ss.ij (ni _ _ R.ss.kF nofun nofun nofun)
  .show fK H' s'.held _;rw[e1];exact kf.gm R.ss.uz
  .have q:=R.ss.nW t ht;nomatch⟨q.cm.pD B kf (ni _ _ q.la nofun nofun nofun) (ni _ _ q.ld nofun nofun nofun),q.la,q.ld,q.ol,q.oc,q.og,q.tg,q.gs⟩,q.wr,q.rd,q.sz,q.gl,q.ll
  .show bP s'.ja=_;rw[e2];exact R.ss.oQ
  .show bP s'.gV=_;rw[e3];exact R.ss.lT
  .show bP s'.cD=_;rw[e4];exact R.ss.kF
 .simp only [ak,ao,or_false]at ha;rcases ha with rfl|rfl|rfl
  .exact .inl R.uA
  .exact .inr (.inr ⟨_,R.ss.la⟩)
  .exact .inr (.inl R.yL)
def dG.abs(t:dG):Ap:=⟨t.f.tag,t.lun,t.cdb,t.f.size,t.got,t.f.number,t.f.limit,t.f.pieces,t.f.asked⟩
def RB:Option Nat->Nat
 |none=>4
 |some n=>n
structure SRel0(S:fS)(x:aJ):Prop where
 stage:x.stage=RB S.s.stage
 Em:∀n,S.s.stage=some n->n<2\/n=3
 named:x.named=S.seen.map TL.tl/\S.seen.Nodup
 heads:x.heads=S.st.heads
 datas:x.datas=S.st.datas
 asks:x.asks=S.st.asks
 with_:x.with_=S.st.with_
 theirs:x.theirs=S.st.theirs
 burst:x.burst=S.st.burst
 first:x.first=if S.s.stage=some 3 then min S.st.first S.st.burst else S.st.first
 stat:x.stat=S.s.count
 cmd:x.cmd=S.s.cmd
 next:x.next=iw S.s.last
 told:x.told=S.s.anew
structure ji(S:fS)(buf:List Nat)(x:aJ):Prop extends SRel0 S x where
 tasks:x.tasks.Perm (S.ts.map dG.abs)
 rY:x.buf=buf
def SRel0.X5(R:SRel0 S x)(h:S.s.stage=some 3):zu S.s S.st x:=⟨h,R.heads,R.datas,R.stat,R.cmd,R.burst,R.theirs⟩
structure lU(C:Cl)(H:Hp)(Q:VK)(E:XK)(bP:aB->kT)(i:Nat)(tr:aB)(A:Act)(buf:List Nat)(out:List Nat)(y:Option aJ)(d:jR):Prop where
 bad:A.f.most<A.sb.length+out.length->∀H',sJ bP H H'->E (.ref C.dF) none H'
 ok:A.sb.length+out.length<=A.f.most->∀H' cQ A',hG C H' cQ i tr A'->A'.f=A.f->A'.sb=A.sb++out->bM A'.wr=d->A'.S.held=A.S.held->A'.S.s.line=A.S.s.line->
  (match y with|some x=>A'.S.s.closed=false/\ji A'.S buf x|none=>A'.S.s.closed=true)->Keeps i bP cQ H H'->Q .eY H'
def lU.q(k:lU C H Q E bP i tr A gi out y d):lU C H (λ_ H'=>Q .eY H') E bP i tr A gi out y d:=⟨k.bad,k.ok⟩
structure CY(ve:List Nat)(x:jQ):Prop where
 len:x.data.length<=1048576
 oct:fU x.data
 wrong:∀w,x.wrong=some w->w.1<256/\w.2.1<256/\w.2.2<256
 wrote:∀w,x.wrote=some w->w.2=ve
 ex:∀w,x.wrong=some w->x.wrote=none
def lu(h1:k<256)(h2:a<256):CY ve (fY k a 0):=⟨(by show 0<=_;lia),(λz hz=>nomatch hz),(λw e=>by cases e;nomatch h1,h2,by show 0<256;decide),(λw e=>nomatch e),(λ_ _=>rfl)⟩
def pE(h1:b.length<=1048576)(h2:fU b):CY ve (fA b):=⟨h1,h2,(λw e=>nomatch e),(λw e=>nomatch e),(λ_ _=>rfl)⟩
theorem fU.take(h:fU b)(n:Nat):fU (b.take n):=λz hz=>h z (o5 hz)
def zv(h1:k<256)(h2:a<256)(h3:q<256):fU (dT k a q):=λz hz=>by unfold dT at hz;simp only[ak,ao,or_false]at hz;omega
def CZ(hd:∀p,d p<256)(told:Bool)(fW dC ve:List Nat):CY ve (gE d told fW dC ve):=by
 rw[CT];have hi:Ql73.INQUIRY.length=36:=by decide+kernel
 have hoi:fU Bz:=by unfold fU;decide+kernel
 have hoj:fU (0x7F::Ql73.INQUIRY.drop 1):=by unfold fU;decide+kernel
 split
 .unfold GL;split
  .exact lu #[] #[]
  .refine pE ?_ (fU.take ?_ _)
   .rw[bf];split<;>simp only[aN,cO,hi]<;>lia
   .split
    .exact hoi
    .exact hoj
 split
 .unfold GN;split
  .exact lu #[] #[]
  .refine pE ?_ (fU.take (by unfold fU;decide) _);rw[bf];simp only[az,aN,bN,dQ];lia
 split
 .unfold GO;refine pE ?_ (fU.take ?_ _)
  .rw[bf];split
   .show min _ 18<=_;lia
   .split
    .show min _ 18<=_;lia
    .show min _ 18<=_;lia
  .split
   .exact zv #[] #[] #[]
   .split
    .exact zv #[] #[] #[]
    .exact zv #[] #[] #[]
 split
 .exact lu #[] #[]
 split
 .exact lu #[] #[]
 split
 .exact pE #[] (λz hz=>nomatch hz)
 split
 .exact pE #[] (by unfold fU;decide)
 split
 .have aaY:∀lX n,¬2048<lX+n->CY ve (fA (jS d lX n)):=λlX n h=>by
   refine pE ?_ λz hz=>?_
   .unfold jS;rw[aK,iK];lia
   .unfold jS at hz;obtain⟨i,_,rfl⟩:=cG.mp hz;exact hd _
  unfold Ei;split
  .split
   .exact lu #[] #[]
   .split
    .exact lu #[] #[]
    .rename_i h;exact aaY _ _ h
  .split
   .split
    .exact lu #[] #[]
    .split
     .exact lu #[] #[]
     .nomatch(by show 0<=_;lia),(λz hz=>nomatch hz),(λw e=>nomatch e),(λw e=>by cases e;rfl),(λw e=>nomatch e)
   .split
    .exact lu #[] #[]
    .exact pE #[] (λz hz=>nomatch hz)
 .exact lu #[] #[]
def Ot(hd:∀p,d p<256)(hc:fU ve)(h:CY ve x):∀p,after d x p<256:=λp=>by
 unfold after;cases e:x.wrote with
 |none=>exact hd p
 |some w=>
  show mE d w.1 w.2 p<256;unfold mE;split
  .rw[h.wrote w e,bK];cases q:ve[p-512*w.1]? with
   |none=>show 0<256;decide
   |some v=>exact hc v (iC q)
  .exact hd p
def oJ(x:aJ)(fW dC:List Nat):aJ:=if qH fW dC=true then{x with told:=false}else x
def Ou(hrw:¬(bit t.marks 6=true/\bit t.marks 5=true))(hex:∀w,(gE d x.told fW dC got).wrong=some w->(gE d x.told fW dC got).wrote=none): mK d x t.tag fW dC got (bit t.marks 6) (bit t.marks 5) t.size t.asked=⟨toldOf (oJ x fW dC) t (gE d x.told fW dC got),lK (oJ x fW dC),after d (gE d x.told fW dC got)⟩:=by
 unfold mK;generalize gE d x.told fW dC got=y at hex;obtain⟨data,wrote,wrong⟩:=y;have w6:bit t.marks 6=true->wantedOf t=t.size:=λh=>by unfold wantedOf;rw[iP (.inl h)]
 have w5:bit t.marks 5=true->wantedOf t=t.size:=λh=>by unfold wantedOf;rw[iP (.inr h)]
 cases wrong with
 |some w'=>
  have hwr:wrote=none:=hex w' rfl;subst hwr;have e1:(if bit t.marks 6=true\/bit t.marks 5=true then cF 0 t.size else⟨0,0⟩)=cF 0 (wantedOf t):=by
   unfold wantedOf;split
   .rfl
   .rw[zp]
  show Ql73.Went.mk (iL (oJ x fW dC) t.tag 2 (if bit t.marks 6=true\/bit t.marks 5=true then cF 0 t.size else⟨0,0⟩) t.asked (aY 2 18++dT w'.1 w'.2.1 w'.2.2)).1 (iL (oJ x fW dC) t.tag 2 (if bit t.marks 6=true\/bit t.marks 5=true then cF 0 t.size else⟨0,0⟩) t.asked (aY 2 18++dT w'.1 w'.2.1 w'.2.2)).2 d=_;rw[e1];rfl
 |none=>
  have Zg:(if qH fW dC=true then{x with told:=false}else x)=oJ x fW dC:=rfl;dsimp only;rw[Zg];generalize oJ x fW dC=x1;unfold toldOf after;dsimp only;by_cases h6:bit t.marks 6=true
  .have h5:¬bit t.marks 5=true:=λh=>hrw ⟨h6,h⟩;rw[iP h6];by_cases hg:data.take t.size=[]
   .rw[iP hg,iN (by rw[hg];simp),iN h5,w6 h6];rfl
   .rw[iN hg,iP ⟨h6,yN.mpr hg⟩];rfl
  .rw[iN h6,iN (show ¬(bit t.marks 6=true/\0<(data.take t.size).length)from λz=>h6 z.1)];by_cases h5:bit t.marks 5=true
   .rw[iP h5,iP h5,w5 h5];rfl
   .have e1:wantedOf t=0:=by
     unfold wantedOf;rw[iN];rintro(z|z)
     .exact h6 z
     .exact h5 z
    rw[iN h5,iN h5,e1];rfl
def Ln(b:m7 bB)(h:bB.flatten.length<=1048576):bB.length<100000:=by
 rcases b with b|⟨r,rfl,_⟩
 .rw[Jb b]at h;lia
 .show 1<100000;decide
inductive Ov(C:Cl)(vs:List V)(H:Hp)(Q:VK)(E:XK):Prop
 |mk(tr ta bP i A t fW dC got x gi)(_:vs=[.ref tr,.ref ta])(_:hG C H bP i tr A)(_:pK C H ta t fW dC got)(_:fU dC)(_:fU got)(_:got.length<=65536)(_:¬(bit t.marks 6=true/\bit t.marks 5=true))(_:A.S.s.stage=some 3)(_:A.S.s.closed=false)(_:ji A.S gi x)(_:lU C H Q E bP i tr A gi (mK (bM A.wr) x t.tag fW dC got (bit t.marks 6) (bit t.marks 5) t.size t.asked).out (some (mK (bM A.wr) x t.tag fW dC got (bit t.marks 6) (bit t.marks 5) t.size t.asked).s) (mK (bM A.wr) x t.tag fW dC got (bit t.marks 6) (bit t.marks 5) t.size t.asked).disk)
def Jl:T.ID.E P w aR C.dF 8 (Ov C):=by
 refine T.ID.wY ?_;kd_p
 obtain⟨tr,ta,bP,i,A,t,fW,dC,got,x,gi,rfl,R,M,oc,og,hgl,hrw,kx,mB,SR,k⟩:=h;exists _,(aj (bj (aI (X3 T) (mh b4 cC (aI (GR T) (mh cC (aT b4 rfl) (aT b4 rfl)))))));have aeg:=CZ R.od x.told fW dC got;rw[Ou hrw aeg.ex]at k;replace k:=k.q;obtain⟨dx,h1⟩:=R.tu;obtain⟨dy,h2⟩:=R.ss.at_;obtain⟨dz,h3⟩:=R.dk.at_;obtain⟨dt,h4⟩:=M.at_;have m8:=R.sa;exists I,I,I,I,tr,C.Turn,dx,_,I,h1,T.cy,T.bX,A.f.eA,I,tr,C.Turn,dx,_,I,h1,T.cy,T.rP,A.f.CF;nomatch ta,A.f.aW,A.f.disk,t,fW,dC,got,A.df,A.wr,A.S.s,dy,rfl,M,oc,hgl,R.dk,by rw[m8];exact h2,by rw[m8];exact ox h4 h2 (MP T),by rw[m8];exact aL (ox h3 h2 (aaV T)),λH1 p fo bB wr' hp O DO D1 ed B1=>?_
 rw[m8]at DO B1;have gI:=CZ R.od A.S.s.anew fW dC got;have aaZ:x.told=A.S.s.anew:=SR.told;rw[aaZ]at k;generalize hy:gE (bM A.wr) A.S.s.anew fW dC got=y at O ed gI k;generalize GC:({A.S.s with anew:=A.S.s.anew&& !Ql73.says fW dC}:aV)=s' at DO;have ls:bP A.f.eZ≠bP A.S.a:=by rw[R.uA,R.ss.la];intro z;cases z
 have nl:∀c:aB,c≠A.S.a->c≠A.df.written->c∉[A.S.a,A.df.written]:=λc n1 n2 m=>by
  simp only[ak,ao,or_false]at m;rcases m with m|m
  .exact n1 m
  .exact n2 m
 have UJ:H1 A.f.eZ=some (.lst (nV A.sb)):=B1 _ _ R.sn (nl _ (bV R.sn h2 nofun) (bV R.sn R.dk.rh nofun));have aeh:H1 tr=some (.ins C.Turn dx A.f.fs):=B1 _ _ h1 (nl _ (ox h1 h2 (V4 T)) (bV h1 R.dk.rh nofun));have aei:H1 ta=some (.ins C.Task dt t.fs):=B1 _ _ h4 (nl _ (ox h4 h2 (MP T)) (bV h4 R.dk.rh nofun));have aa0:H1 A.S.s.ja=some (.dK A.S.st.kv):=B1 _ _ R.ss.kZ (nl _ (bV R.ss.kZ h2 nofun) (c_ R.ss.oQ R.yL nofun));have es:s'.ja=A.S.s.ja:=by rw[<-GC]
 have S1:fH C H1 tr A.f s' A.S.st A.sb:=⟨⟨dx,aeh⟩,⟨⟨dy,by rw[m8];exact DO⟩,by rw[es];exact aa0⟩,UJ,R.mo⟩;have hwk:s'.stage=some 3:=by rw[<-GC];exact kx
 have W1:zu s' A.S.st (oJ x fW dC):=by
  unfold oJ;have e1:s'.count=A.S.s.count:=by rw[<-GC]
  have e2:s'.cmd=A.S.s.cmd:=by rw[<-GC]
  split
  .nomatch hwk,SR.heads,SR.datas,SR.stat.trans e1.symm,SR.cmd.trans e2.symm,SR.burst,SR.theirs
  .nomatch hwk,SR.heads,SR.datas,SR.stat.trans e1.symm,SR.cmd.trans e2.symm,SR.burst,SR.theirs
 have NK:bB.flatten.length<=1048576:=by rw[O.data];exact gI.len
 nomatch tr,ta,p,A.f,s',A.S.st,A.sb,t,oJ x fW dC,fo,bB,y,rfl,S1,⟨dt,aei⟩,W1,O,Ln O.zS NK,(),by rw[O.data];exact gI.oct,gI.wrong,⟨R.ss.ok.b0,R.ss.ok.b9,R.ss.ok.t0⟩,λAF H' B'=>?_,λhle H' S' B'=>?_
 .refine k.bad AF H' λc o hc hl=>B' c o (B1 c o hc ?_) ?_
  .exact nl _ (c_ hl R.ss.la nofun) (c_ hl R.yL nofun)
  .rw[m8];intro m;simp only[ak,ao,or_false]at m;rcases m with m|m
   .exact c_ hl R.uA nofun m
   .exact c_ hl R.ss.la nofun m
 .have BB:gH [A.f.eZ,A.S.a,A.df.written] H H':=λc o hc nc=>by simp only[ak,ao,or_false,not_or]at nc;exact B' c o (B1 c o hc (nl _ nc.2.1 nc.2.2)) (by rw[m8];simp only[ak,ao,or_false,not_or];nomatch nc.1,nc.2.1)
  have n2:∀c:aB,c≠A.f.eZ->c≠A.S.a->c∉[A.f.eZ,A.f.aW]:=λc a b m=>by
   rw[m8]at m;simp only[ak,ao,or_false]at m;rcases m with m|m
   .exact a m
   .exact b m
  have kf':js H1 H':=B'.iZ λa ha o u e=>by
   rw[m8]at ha;simp only[ak,ao,or_false]at ha;rcases ha with rfl|rfl
   .rw[UJ]at e;cases e
   .rw[DO]at e;cases e
  have D':jH C H' A.f.disk A.df wr':=D1.pD B' kf' (n2 _ (c_ R.CW R.uA nofun) (c_ R.CW R.ss.la nofun)) (n2 _ (c_ R.yL R.uA nofun) (c_ R.yL R.ss.la nofun));have se':qw C H' A.S.a s'.counted:=by have:=S'.se.se;rw[m8]at this;exact this
  obtain⟨R',kp⟩:=R.step BB S'.sn se' ⟨by rw[<-GC];rfl,by rw[<-GC];rfl,by rw[<-GC];rfl,by rw[<-GC];rfl,by rw[<-GC];rfl⟩ ⟨by rw[<-GC];exact R.ss.oy,by rw[<-GC];exact R.ss.oz,by rw[<-GC];exact lC _ #[]⟩ (by rw[az];exact hle) D' (by rw[ed];exact Ot R.od og gI);refine k.ok hle H' bP _ R' rfl rfl ed rfl (by rw[<-GC];rfl) ⟨by rw[<-GC];exact mB,?_⟩ kp;have eX:∀g:aJ->Prop,(g {x with told:=false}/\qH fW dC=true->g (oJ x fW dC))/\(g x/\qH fW dC=false->g (oJ x fW dC)):=λg=>by
   unfold oJ;constructor
   .rintro⟨h,e⟩;rw[iP e];exact h
   .rintro⟨h,e⟩;rw[iN (by rw[e];decide)];exact h
  subst GC;have q0:=SR.toSRel0;have V6:(x.stat+1)%xd=(A.S.s.count+1)%4294967296:=by rw[SR.stat];rfl
  cases hsy:qH fW dC with
  |true=>
   have e:oJ x fW dC={x with told:=false}:=by unfold oJ;rw[iP hsy]
   rw[e];nomatch⟨q0.stage,q0.Em,q0.named,q0.heads,q0.datas,q0.asks,q0.with_,q0.theirs,q0.burst,q0.first,V6,q0.cmd,q0.next,by show false=(A.S.s.anew&& !true);simp⟩,SR.tasks,SR.rY
  |false=>
   have e:oJ x fW dC=x:=by unfold oJ;rw[iN (by rw[hsy];decide)]
   rw[e];nomatch⟨q0.stage,q0.Em,q0.named,q0.heads,q0.datas,q0.asks,q0.with_,q0.theirs,q0.burst,q0.first,V6,q0.cmd,q0.next,by show x.told=(A.S.s.anew&& !false);rw[q0.told];simp⟩,SR.tasks,SR.rY
def RC(x k:Nat):decide (V.int (cj (x:Int) ((2^k:Nat):Int))=V.int 0)= !bit x k:=by have:=wz x k;rw[<-this,Bool.not_not]
def wb:T.vK.D P w aR 1 (qf λH a v=>∃t,jo C H a t/\v= .bl (!bit t.marks 7)):=by
 refine T.vK.ok ?_;kd_p
 obtain⟨a,v,rfl,⟨t,⟨dx,h1⟩,rfl⟩,k⟩:=h;exists _,(aj (aP (gL fD (bO jJ (aT b4 rfl) (aU T.ml)) au (bD _))));exists I,a,C.Task,dx,_,I,h1,T.bh,T.j4,t.Bg,J,rfl;have e:=RC t.marks 7;exact e▸k
def RD(a b:Nat):(if(b:Int)<(a:Int)then(b:Int)else(a:Int))=((min a b:Nat):Int):=by split<;>lia
def gb(st:cb)(m size n:Nat):Bool:=n !=0&&((!bit m 5)||((!st.with_)||decide (min (min st.first st.burst) size<n)))
def gC(st:cb)(m size n:Nat):Bool:=(!bit m 7)&&((!bit m 5)||(st.asks||decide (min (min st.first st.burst) size<=n)))
inductive RE(C:Cl)(g:cb->Nat->Nat->Nat->Bool)(vs:List V)(H:Hp)(Q:VK)(kn:XK):Prop
 |mk(sa ta s st t got)(_:vs=[.ref sa,.ref ta])(_:ki C H sa s st)(_:jo C H ta t)(_:H t.ad=some (.lst (nV got)))(_:Q (.bl (g st t.marks t.size got.length)) H)
def zw:T.qW.D P w aR 3 (RE C gb):=by
 refine T.qW.ok ?_;kd_p
 obtain⟨sa,ta,s,st,t,got,rfl,S,⟨dt,h2⟩,h3,k⟩:=h;exists _,(aa (cJ 2 nd (bZ cV (by rfl) T.gT fQ (fN (aT cC rfl)))) (aa (bH (bg fD fF au (bD _)) (aj (aP kP)) aZ) (aa (bH (kR (iH (dA (b_ (jr T) T.bh cC))) (j6 (iH (dA (b_ (oq T) T.aF b4))))).pt (aj (aP kP)) aZ) (aj (aP (gL o7 fF (bZ (kJ rfl) (by rfl) T.vV qx (i5 (b_ (j_ T) T.aF b4) (aT cC rfl))) (bD _)))))));obtain⟨⟨dy,h1⟩,h4⟩:=S;have S:ki C H sa s st:=⟨⟨dy,h1⟩,h4⟩;exists I,ta,C.Task,dt,_,I,h2,T.bh,T.gu,t.CC,_,got.length,rfl,.inl ⟨nV got,fT.of h3,by rw[bA]⟩;exists I,rfl,I;refine gG (λq=>?_) (λq=>?_)
 .have q:V.int ((got.length:Nat):Int)=V.int 0:=q;have q1:got.length=0:=by have:=V.int.inj q;lia
  have e:gb st t.marks t.size got.length=false:=by unfold gb;rw[q1];rfl
  rw[e]at k;exact k
 have q:¬V.int ((got.length:Nat):Int)=V.int 0:=q;have q1:(got.length !=0)=true:=by rw[bne_iff_ne];exact λz=>q (by rw[z];rfl)
 exists I,ta,dt,I,h2,rfl,ta,I,⟨t,⟨dt,h2⟩,rfl⟩,I;refine gM (λa=>?_) (λa=>?_)
 .have e:gb st t.marks t.size got.length=true:=by unfold gb;rw[q1,a];rfl
  rw[e]at k;exact k
 exists I,sa,dy,I,h1,rfl,sa,I,⟨s,st,S,rfl⟩,I;refine gM (λb=>?_) (λb=>?_)
 .have e:gb st t.marks t.size got.length=true:=by unfold gb;rw[q1,a,b];rfl
  rw[e]at k;exact k
 exists I,I,sa,dy,I,h1,rfl,sa,I,⟨s,st,S,rfl⟩,I,ta,C.Task,dt,_,I,h2,T.bh,T.fe,t.m4,_,I,J;have e:gb st t.marks t.size got.length=decide ((if(t.size:Int)<((min st.first st.burst:Nat):Int)then(t.size:Int)else((min st.first st.burst:Nat):Int))<((got.length:Nat):Int)):=by unfold gb;rw[q1,a,b,RD];show decide _=decide _;apply decide_eq_decide.mpr;lia
 rw[e]at k;exact k
def yd:T.p8.D P w aR 3 (RE C gC):=by
 refine T.p8.ok ?_;kd_p
 obtain⟨sa,ta,s,st,t,got,rfl,S,⟨dt,h2⟩,h3,k⟩:=h;exists _,(aa (bH (iH (dA (aI (wb T) (fN cC)))) (aj (aP kP)) aZ) (aa (bH (kR (iH (dA (b_ (jr T) T.bh cC))) (j6 (dA (b_ (vb T) T.aF b4)))).pt (aj (aP kP)) aZ) (aj (aP (gL HJ (bZ cV (by rfl) T.gT fQ (fN (aT cC rfl))) (bZ (kJ rfl) (by rfl) T.vV qx (i5 (b_ (j_ T) T.aF b4) (aT cC rfl))) (bD _))))));obtain⟨⟨dy,h1⟩,h4⟩:=S;have S:ki C H sa s st:=⟨⟨dy,h1⟩,h4⟩;exists I,ta,I,⟨t,⟨dt,h2⟩,rfl⟩,I;refine gM (λq=>?_) (λq=>?_)
 .have e:gC st t.marks t.size got.length=false:=by
   unfold gC;have:bit t.marks 7=true:=by simpa using q
   rw[this];rfl
  rw[e]at k;exact k
 have q1:bit t.marks 7=false:=by simpa using q
 exists I,ta,dt,I,h2,rfl,ta,I,⟨t,⟨dt,h2⟩,rfl⟩,I;refine gM (λa=>?_) (λa=>?_)
 .have e:gC st t.marks t.size got.length=true:=by unfold gC;rw[q1,a];rfl
  rw[e]at k;exact k
 exists I,sa,dy,I,h1,rfl,sa,I,⟨s,st,S,rfl⟩,I;refine gM (λb=>?_) (λb=>?_)
 .have e:gC st t.marks t.size got.length=true:=by unfold gC;rw[q1,a,b];rfl
  rw[e]at k;exact k
 exists I,ta,C.Task,dt,_,I,h2,T.bh,T.gu,t.CC,_,got.length,rfl,.inl ⟨nV got,fT.of h3,by rw[bA]⟩,I,sa,dy,I,h1,rfl,sa,I,⟨s,st,S,rfl⟩,I,ta,C.Task,dt,_,I,h2,T.bh,T.fe,t.m4,_,I,J;have e:gC st t.marks t.size got.length=decide ((if(t.size:Int)<((min st.first st.burst:Nat):Int)then(t.size:Int)else((min st.first st.burst:Nat):Int))<=((got.length:Nat):Int)):=by unfold gC;rw[q1,a,b,RD];show decide _=decide _;apply decide_eq_decide.mpr;lia
 rw[e]at k;exact k
def m9(ts:List dG)(n:Nat):jl (cp ts) (.inl (n:Int))=(ts.find? λt=>t.f.tag==n).map λt=>V.ref t.a:=by
 unfold jl cp;induction ts with
 |nil=>rfl
 |cons x r ih=>
  rw[bp,dv,dv];by_cases h:x.f.tag=n
  .have h1:decide ((eQ (x.f.tag:Int):Key)=eQ (n:Int))=true:=decide_eq_true (by rw[h]);have h2:(x.f.tag==n)=true:=beq_iff_eq.mpr h;rw[h1,h2];rfl
  .have h1:decide ((eQ (x.f.tag:Int):Key)=eQ (n:Int))=false:=decide_eq_false (λq=>h (nE (qK q)));have h2:(x.f.tag==n)=false:=beq_eq_false_iff_ne.mpr h;rw[h1,h2];exact ih
def kU(ts:List dG)(n:Nat):Bool:=ts.any λt=>t.f.tag==n
def C0(ts:List dG)(n:Nat):((ts.find? λt=>t.f.tag==n).map λt=>V.ref t.a).isSome=kU ts n:=by
 unfold kU;induction ts with
 |nil=>rfl
 |cons x r ih=>
  rw[dv,fg];cases h:(x.f.tag==n)with
  |true=>rfl
  |false=>exact ih
def ye(used:Bool)(st:cb)(m size n:Nat):Nat:=if used=true then 4 else if(bit m 6&&bit m 5)=true then 9 else if(gb st m size n||gC st m size n)=true then 9 else if(bit m 5&&decide (65536<size))=true then 9 else 0
inductive AN(C:Cl)(vs:List V)(H:Hp)(Q:VK)(kn:XK):Prop
 |mk(sa ta s st ts t got)(_:vs=[.ref sa,.ref ta])(_:ki C H sa s st)(_:H s.cD=some (.dK (cp ts)))(_:jo C H ta t)(_:H t.ad=some (.lst (nV got)))(_:Q (.int (ye (kU ts t.tag) st t.marks t.size got.length:Nat)) H)
def C1:T.ua.D P w aR 4 (AN C):=by
 refine T.ua.ok ?_;kd_p
 obtain⟨sa,ta,s,st,ts,t,got,rfl,S,h5,⟨dt,h2⟩,h3,k⟩:=h;have hu:=lS hr;exists _,(aa (bH (i_ (Qk hu (aT cC rfl) (aT b4 rfl))) (aj (aP (aU T.Gq))) aZ) (aa (bH (nZ (dA (b_ (rV T) T.bh cC)) (lF (dA (b_ (jr T) T.bh cC)))).pt (aj (aP (aU T.qu))) aZ) (aa (bH (kR (dA (aI (zw T) (i5 b4 cC))) (j6 (dA (aI (yd T) (i5 b4 cC))))).pt (aj (aP (aU T.qu))) aZ) (aa (bH (nZ (dA (b_ (jr T) T.bh cC)) (lF (bg o7 (aT cC rfl) (aU T.Cs) (bD _)))).pt (aj (aP (aU T.qu))) aZ) (aj (aP au))))));obtain⟨⟨dy,h1⟩,h4⟩:=S;have S:ki C H sa s st:=⟨⟨dy,h1⟩,h4⟩;exists I,ta,C.Task,dt,_,I,h2,T.bh,T.jc,t.CB,I,sa,C.Session,dy,_,I,h1,T.aF,T.dR,s.mr,s.cD,I,lM.k (k:=eQ (t.tag:Int)) h5,I;rw[m9,C0];refine gM (λa=>?_) (λa=>?_)
 .have e:ye (kU ts t.tag) st t.marks t.size got.length=4:=by unfold ye;rw[iP a]
  rw[e]at k;exact k
 have e0:ye (kU ts t.tag) st t.marks t.size got.length=if(bit t.marks 6&&bit t.marks 5)=true then 9 else if(gb st t.marks t.size got.length||gC st t.marks t.size got.length)=true then 9 else if(bit t.marks 5&&decide (65536<t.size))=true then 9 else 0:=by unfold ye;rw[iN (by rw[a];decide)]
 rw[e0]at k;exists I,ta,dt,I,h2,rfl,ta,I,⟨t,⟨dt,h2⟩,rfl⟩,I;refine CP (λz=>⟨_,rfl,ta,dt,_,rfl,h2,rfl,ta,_,rfl,⟨t,⟨dt,h2⟩,rfl⟩,_,rfl,z⟩) ?_;refine Jj (λb c=>?_) (λhA=>?_)
 .rw[iP (by rw[b,c];rfl)]at k;exact k
 have hA:(bit t.marks 6&&bit t.marks 5)=false:=by
  cases h6:bit t.marks 6 with
  |false=>rfl
  |true=>cases h5:bit t.marks 5 with
   |false=>rfl
   |true=>exact absurd ⟨h6,h5⟩ hA
 rw[iN (by rw[hA];decide)]at k;exists I,I,sa,ta,s,st,t,got,rfl,S,⟨dt,h2⟩,h3,I;refine gM (λb=>?_) (λb=>?_)
 .rw[iP (by rw[b];rfl)]at k;exact fI k
 exists I,I,sa,ta,s,st,t,got,rfl,S,⟨dt,h2⟩,h3,I;refine gM (λc=>?_) (λc=>?_)
 .rw[iP (by rw[b,c];rfl)]at k;exact k
 rw[iN (by rw[b,c];decide)]at k;exists I,ta,dt,I,h2,rfl,ta,I,⟨t,⟨dt,h2⟩,rfl⟩,I;refine gM (λd=>?_) (λd=>?_)
 .exists I,ta,C.Task,dt,_,I,h2,T.bh,T.fe,t.m4,J,I;refine gG (λe=>?_) (λe=>?_)
  .have e:(65536:Int)<(t.size:Int):=e;rw[iP (by rw[d,decide_eq_true ()];rfl)]at k;exact k
  .have e:¬(65536:Int)<(t.size:Int):=e;rw[iN (by rw[decide_eq_false ()];simp)]at k;exact k
 .rw[iN (by rw[d];simp)]at k;exact k
def hJ(t:cf)(n:Nat)(h b:List Nat):Bool:=if ax h 20 4≠t.number then true else if ax h 36 4≠t.pieces\/ax h 40 4≠n then true else if b.length=0\/t.limit<n+b.length then true else if n+b.length=t.limit then !bit (h.getD 1 0) 7 else bit (h.getD 1 0) 7&&decide (t.number≠4294967295)
inductive En(C:Cl)(vs:List V)(H:Hp)(Q:VK)(kn:XK):Prop
 |mk(ta ha da t got h b)(_:vs=[.ref ta,.ref ha,.ref da])(_:jo C H ta t)(_:H t.ad=some (.lst (nV got)))(_:fK H ha (nV h))(_:fK H da (nV b))(_:h.length=48)(_:got.length<=t.limit)(_:∀H',a_ H H'->Q (.bl (hJ t got.length h b)) H')
def GX:T.xQ.D P w aR 2 (En C):=by
 refine T.xQ.ok ?_;kd_p
 obtain⟨ta,ha,da,t,got,h,b,rfl,⟨dt,h2⟩,h3,fh,fb,hl,hgl,k⟩:=h;exists _,(aa (cJ 3 nd (gL k_ (bO jJ (fE cX cC au (λ_ _=>rfl)) (aU T.ml)) au (bD _))) (aa (cJ 4 nd (bO md (aT b4 rfl) (bZ cV (by rfl) T.gT fQ (fN (aT b4 rfl))))) (aa (bH (bg k_ (aI (dY T) (mh cC au au)) (aT b4 rfl) (bD _)) (aj (aP kP)) aZ) (aa (bH (kR (bg k_ (aI (dY T) (mh cC au au)) (aT b4 rfl) (bD _)) (j6 (bg k_ (aI (dY T) (mh cC au au)) (bZ cV (by rfl) T.gT fQ (fN (aT b4 rfl))) (bD _)))).pt (aj (aP kP)) aZ) (aa (bH (kR (bg fD (bZ cV (by rfl) T.gT fQ (fN fF)) au (bD _)) (j6 (bg o7 (bZ cV (by rfl) T.gT fQ (fN fF)) kS (bD _)))).pt (aj (aP kP)) aZ) (aa (bH (bg fD (bZ cV (by rfl) T.gT fQ (fN fF)) kS (bD _)) (aj (aP (PD gQ))) aZ) (aj (aP (Kk gQ (FY (gL k_ (aT b4 rfl) (aU T.nP) (bD _))))))))))));have neN:∀(a c:Nat)(q:(!decide (V.int (a:Int)=V.int (c:Int)))=true),a≠c:=λa c q z=>by rw[z,decide_eq_true rfl]at q;cases q
 have eqN:∀(a c:Nat)(q:(!decide (V.int (a:Int)=V.int (c:Int)))=false),a=c:=λa c q=>by
  have q2:decide (V.int (a:Int)=V.int (c:Int))=true:=by simpa using q
  have:=V.int.inj (of_decide_eq_true q2);lia
 exists I,ha,_,J,fh.sq,cM (gv (i:=1) ()),J,rfl;have e7:=wz (h.getD 1 0) 7;show nJ 3 (V.bl (!decide (V.int (cj ((h.getD 1 0:Nat):Int) ((2^7:Nat):Int))=V.int 0))) _ _ _;rw[e7];exists I,ta,C.Task,dt,_,I,h2,T.bh,T.lh,t.ML,I,ta,C.Task,dt,_,I,h2,T.bh,T.gu,t.CC,_,got.length,rfl,.inl ⟨nV got,fT.of h3,by rw[bA]⟩,J;nomatch I,ha,h,20,4,rfl,fh.sq,λH1 s1=>⟨_,rfl,ta,C.Task,dt,_,_,rfl,s1 _ _ h2,T.bh,T.i0,t.x3,rfl,_,rfl,?_⟩
 refine gM (λq=>?_) (λq=>?_)
 .have q1:=neN _ _ q;have e:hJ t got.length h b=true:=by unfold hJ;rw[iP q1]
  rw[e]at k;exact k H1 s1
 have q1:=eqN _ _ q;have RF:=fK.same fh s1;nomatch I,ha,h,36,4,rfl,RF.sq,λH2 s2=>⟨_,rfl,ta,C.Task,dt,_,_,rfl,s2 _ _ (s1 _ _ h2),T.bh,T.i3,t.CD,rfl,_,rfl,?_⟩
 have qJ:=s1.trans s2;refine gM (λa=>?_) (λa=>?_)
 .have a1:=neN _ _ a;have e:hJ t got.length h b=true:=by unfold hJ;rw[iN (λz=>z q1),iP (.inl a1)]
  rw[e]at k;exact fI (k H2 qJ)
 have a1:=eqN _ _ a;have fh2:=fK.same RF s2;nomatch I,ha,h,40,4,rfl,fh2.sq,λH3 s3=>⟨_,rfl,ta,C.Task,dt,_,_,rfl,s3 _ _ (qJ _ _ h2),T.bh,T.gu,t.CC,_,got.length,rfl,.inl ⟨nV got,fT.of (s3 _ _ (qJ _ _ h3)),by rw[bA]⟩,rfl,_,rfl,?_⟩
 have C2:=qJ.trans s3;refine gM (λc=>?_) (λc=>?_)
 .have c1:=neN _ _ c;have e:hJ t got.length h b=true:=by unfold hJ;rw[iN (λz=>z q1),iP (.inr c1)]
  rw[e]at k;exact k H3 C2
 have c1:=eqN _ _ c;have fb3:=fK.same fb C2;have e0:hJ t got.length h b=if b.length=0\/t.limit<got.length+b.length then true else if got.length+b.length=t.limit then !bit (h.getD 1 0) 7 else bit (h.getD 1 0) 7&&decide (t.number≠4294967295):=by unfold hJ;rw[iN (λz=>z q1),iN (λz=>z.elim (λz=>z a1) λz=>z c1)]
 rw[e0]at k;exists I,_,b.length,rfl,.inl ⟨nV b,fb3.sq,by rw[bA]⟩,rfl,I;refine gG (λd=>?_) (λd=>?_)
 .have d:V.int ((b.length:Nat):Int)=V.int 0:=d;rw[iP (.inl (by have:=V.int.inj d;lia))]at k;exact fI (k H3 C2)
 have d:¬V.int ((b.length:Nat):Int)=V.int 0:=d;exists I,_,b.length,rfl,.inl ⟨nV b,fb3.sq,by rw[bA]⟩,I,J,I;refine gG (λg=>?_) (λg=>?_)
 .have g:(t.limit:Int)-((got.length:Nat):Int)<((b.length:Nat):Int):=g;rw[iP (.inr ())]at k;exact k H3 C2
 have g:¬(t.limit:Int)-((got.length:Nat):Int)<((b.length:Nat):Int):=g;rw[iN (by rintro(z|z);exact d (by rw[z];rfl);lia)]at k
 exists I,_,b.length,rfl,.inl ⟨nV b,fb3.sq,by rw[bA]⟩,I,rfl,I;refine gG (λu=>?_) (λu=>?_)
 .have u:V.int ((b.length:Nat):Int)=V.int ((t.limit:Int)-((got.length:Nat):Int)):=u;rw[iP (by have:=V.int.inj u;lia)]at k;nomatch I,I,k H3 C2
 .have u:¬V.int ((b.length:Nat):Int)=V.int ((t.limit:Int)-((got.length:Nat):Int)):=u;rw[iN (λz=>u (by congr 1;lia))]at k;exists I,I;refine gM (λv=>?_) (λv=>?_)
  .rw[v]at k;exists I,ta,C.Task,dt,_,I,C2 _ _ h2,T.bh,T.i0,t.x3,rfl;have e:(!decide (V.int (t.number:Int)=V.int 4294967295))=(true&&decide (t.number≠4294967295)):=by
    by_cases z:t.number=4294967295
    .rw[z];rfl
    .rw[decide_eq_false (λq=>z (by have:=V.int.inj q;lia)),decide_eq_true z];rfl
   exact e▸k H3 C2
  .rw[v]at k;exact k H3 C2
def kr(ts:List dG)(t':dG):List dG:=ts.map λy=>if y.f.tag=t'.f.tag then t' else y
def Ow(ts:List dG)(t':dG):(kr ts t').map (λt=>t.f.tag)=ts.map λt=>t.f.tag:=by
 unfold kr;rw[cY];apply gr;intro y _;show(if y.f.tag=t'.f.tag then t' else y).f.tag=y.f.tag;split
 .rename_i e;exact e.symm
 .rfl
def RG(ts:List dG)(t':dG):(kr ts t').length=ts.length:=by unfold kr;rw[aK]
def MQ{ts:List dG}(nd:(ts.map λt=>t.f.tag).Nodup){t y:dG}(ht:t∈ts)(hy:y∈ts)(e:y.f.tag=t.f.tag):y=t:=by
 induction ts with
 |nil=>cases ht
 |cons z r ih=>
  rw[bp,cU]at nd;rcases ak.mp ht with rfl|VP
  .rcases ak.mp hy with rfl|Zj
   .rfl
   .exact absurd (cG.mpr ⟨y,Zj,e⟩) nd.1
  .rcases ak.mp hy with rfl|Zj
   .exact absurd (cG.mpr ⟨t,VP,e.symm⟩) nd.1
   .exact ih nd.2 VP Zj
def UK(nd:(ts.map λt=>t.f.tag).Nodup)(ht:t∈ts)(ea:t'.a=t.a)(et:t'.f.tag=t.f.tag):cp (kr ts t')=cp ts:=by
 unfold cp kr;rw[cY];apply gr;intro y hy;show((eQ (((if y.f.tag=t'.f.tag then t' else y).f.tag:Nat):Int):Key),V.ref (if y.f.tag=t'.f.tag then t' else y).a)=_;split
 .rename_i e;have:=MQ nd ht hy (e.trans et);subst this;rw[et,ea]
 .rfl
def RH(h:y∈kr ts t'):y=t'\/(y∈ts/\y.f.tag≠t'.f.tag):=by
 unfold kr at h;obtain⟨z,hz,rfl⟩:=cG.mp h;by_cases e:z.f.tag=t'.f.tag
 .rw[iP e];exact .inl rfl
 .rw[iN e];exact .inr ⟨hz,e⟩
def Ox(nd:(ts.map λt=>t.f.tag).Nodup)(ht:t∈ts)(et:t'.f.tag=t.f.tag):((ts.filter λy=>y.f.tag !=t.f.tag)++[t']).Perm (kr ts t'):=by
 induction ts with
 |nil=>cases ht
 |cons z r ih=>
  rw[bp,cU]at nd;by_cases e:z.f.tag=t.f.tag
  .have hr:∀y∈r,y.f.tag≠t.f.tag:=λy hy q=>nd.1 (cG.mpr ⟨y,hy,q.trans e.symm⟩);have e1:(r.filter λy=>y.f.tag !=t.f.tag)=r:=jO.mpr λy hy=>bne_iff_ne.mpr (hr y hy);have e2:kr r t'=r:=by
    unfold kr;conv=>rhs;rw[<-Px r]
    apply gr;intro y hy;rw[iN (by rw[et];exact hr y hy)];rfl
   have e3:kr (z::r) t'=t'::kr r t':=by unfold kr;rw[bp,iP (e.trans et.symm)]
   rw[i8,iN (by simp[e]),e1,e3,e2];exact List.perm_append_comm.trans (SS _)
  .have Zk:t∈r:=by
    rcases ak.mp ht with rfl|h
    .exact absurd rfl e
    .exact h
   have e3:kr (z::r) t'=z::kr r t':=by unfold kr;rw[bp,iN (by rw[et];exact e)]
   rw[i8,iP (by simp[e]),e3,cP];exact(ih nd.2 Zk).cons z
def V7(ts:List dG)(n:Nat):BP (cp ts) (.inl (n:Int))=cp (ts.filter λy=>y.f.tag !=n):=by
 unfold BP cp;rw[FT];congr 1;apply List.filter_congr;intro y _;show decide ((eQ (y.f.tag:Int):Key)≠eQ (n:Int))=(y.f.tag !=n);by_cases h:y.f.tag=n
 .rw[decide_eq_false (λq=>q (by rw[h])),h];simp
 .have hq:(eQ (y.f.tag:Int):Key)≠eQ (n:Int):=λq=>h (nE (qK q));rw[decide_eq_true hq];exact(bne_iff_ne.mpr h).symm
def hG.stepT(R:hG C H bP i tr A)(ht:t∈A.S.ts)(B:gH [A.f.eZ,A.S.a,t.a,t.f.ad] H H')(sn:H' A.f.eZ=some (.lst (nV CH)))(se:qw C H' A.S.a s')(ad:GW A.S.s s')(nu:Nums s')(le:CH.length<=A.f.most) (ea:t'.a=t.a) (et:t'.f.tag=t.f.tag) (ed:t'.f.ad=t.f.ad) (Rt:oI C H' bP i t'):hG C H' bP i tr {A with S:={A.S with s:=s',ts:=kr A.S.ts t'},sb:=CH}/\Keeps i bP bP H H':=by
 obtain⟨dx,h1⟩:=R.tu;obtain⟨dy,h2⟩:=R.ss.at_;obtain⟨e1,e2,e3,e4,e5⟩:=ad;have qt:=R.ss.nW t ht;obtain⟨dt,h3⟩:=qt.cm.at_;have nf:∀a∈[A.f.eZ,A.S.a,t.a,t.f.ad],∀o u,H a≠some (.gm o u):=λa ha o u e=>by
  simp only[ak,ao,or_false]at ha;rcases ha with rfl|rfl|rfl|rfl
  .rw[R.sn]at e;cases e
  .rw[h2]at e;cases e
  .rw[h3]at e;cases e
  .rw[qt.cm.mF]at e;cases e
 have kf:=B.iZ nf;have ni:∀c x,bP c=x->x≠ .eZ->x≠ .own i .uq->x≠ .own i (.task t.f.tag)->x≠ .own i (.data t.f.tag)->c∉[A.f.eZ,A.S.a,t.a,t.f.ad]:=λc x h n1 n2 n3 n4 m=>by
  simp only[ak,ao,or_false]at m;rcases m with rfl|rfl|rfl|rfl
  .exact n1 (h.symm.trans R.uA)
  .exact n2 (h.symm.trans R.ss.la)
  .exact n3 (h.symm.trans qt.la)
  .exact n4 (h.symm.trans qt.ld)
 nomatch⟨⟨dx,B _ _ h1 (ni _ _ R.FC nofun nofun nofun nofun)⟩,R.FC,sn,R.uA,R.mo,le,R.dk.pD B kf (ni _ _ R.CW nofun nofun nofun nofun) (ni _ _ R.yL nofun nofun nofun nofun),R.CW,R.yL,R.od,?_,R.sa⟩,Keeps.X4 B λa ha=>?_
 .nomatch se,?_,?_,?_,?_,λy hy=>?_,?_,?_,R.ss.la,?_,?_,?_,R.ss.ok,R.ss.sm,nu.oy,nu.oz,nu.pL
  .show H' s'.ja=_;rw[e2];exact B _ _ R.ss.kZ (ni _ _ R.ss.oQ nofun nofun nofun nofun)
  .show H' s'.gV=_;rw[e3];exact B _ _ R.ss.lr (ni _ _ R.ss.lT nofun nofun nofun nofun)
  .show H' s'.cD=some (.dK (cp (kr A.S.ts t')));rw[e4,UK R.ss.nd ht ea et];exact B _ _ R.ss.ij (ni _ _ R.ss.kF nofun nofun nofun nofun)
  .show fK H' s'.held _;rw[e1];exact kf.gm R.ss.uz
  .rcases RH hy with rfl|⟨hy,hn⟩
   .exact Rt
   .have q:=R.ss.nW y hy;rw[et]at hn;nomatch⟨q.cm.pD B kf (ni _ _ q.la nofun nofun (by intro z;injection z with _ z;injection z with z;exact hn z) nofun) (ni _ _ q.ld nofun nofun nofun (by intro z;injection z with _ z;injection z with z;exact hn z)),q.la,q.ld,q.ol,q.oc,q.og,q.tg,q.gs⟩,q.wr,q.rd,q.sz,q.gl,q.ll
  .show((kr A.S.ts t').map λt=>t.f.tag).Nodup;rw[Ow];exact R.ss.nd
  .show(kr A.S.ts t').length<=8;rw[RG];exact R.ss.As
  .show bP s'.ja=_;rw[e2];exact R.ss.oQ
  .show bP s'.gV=_;rw[e3];exact R.ss.lT
  .show bP s'.cD=_;rw[e4];exact R.ss.kF
 .simp only [ak,ao,or_false]at ha;rcases ha with rfl|rfl|rfl|rfl
  .exact .inl R.uA
  .exact .inr (.inr ⟨_,R.ss.la⟩)
  .exact .inr (.inr ⟨_,qt.la⟩)
  .exact .inr (.inr ⟨_,qt.ld⟩)
def zx(x:aJ)(t:dG):List Nat:=Ql73.sealed x (cw ([(0,[0x31,0x80]),(8,t.lun),(16,aY 4 t.f.tag),(20,aY 4 x.next),(24,aY 4 x.stat),(36,aY 4 t.f.asked),(40,aY 4 t.got.length),(44,aY 4 (min x.burst (t.f.size-t.got.length)))]++Ql73.counts x)) []
def wG(x:aJ)(t:dG):dG:={t with f:={t.f with number:=x.next,limit:=t.got.length+min x.burst (t.f.size-t.got.length),pieces:=0,asked:=t.f.asked+1}}
inductive X6(C:Cl)(vs:List V)(H:Hp)(Q:VK)(E:XK):Prop
 |mk(tr bP i A t x)(_:vs=[.ref tr,.ref t.a])(_:hG C H bP i tr A)(_:t∈A.S.ts)(_:A.S.s.stage=some 3)(_:SRel0 A.S x)(_:t.got.length<t.f.size)(_:(A.f.most<A.sb.length+(zx x t).length->∀H',sJ bP H H'->E (.ref C.dF) none H'))(_:(A.sb.length+(zx x t).length<=A.f.most->∀H',hG C H' bP i tr {A with S:={A.S with s:={A.S.s with last:=iw A.S.s.last},ts:=kr A.S.ts (wG x t)},sb:=A.sb++zx x t}->Keeps i bP bP H H'->Q .eY H'))
def Lo(h:n<4294967295):iw n<4294967295:=by unfold iw;split<;>lia
def aa2:T.VY.E P w aR C.dF 6 (X6 C):=by
 refine T.VY.wY ?_;kd_p
 obtain⟨tr,bP,i,A,t,x,rfl,R,ht,kx,SR,oB,kE,kQ⟩:=h;exists _,(aa (cJ 2 nd (aT b4 rfl)) (aa (cJ 3 nd (bZ cV (by rfl) T.gT fQ (fN (aT cC rfl)))) (aa (cJ 4 nd (bZ (kJ rfl) (by rfl) T.vV qx (i5 (b_ (j0 T) T.aF fF) (bO md (aT cC rfl) gQ)))) (aa (bj (fG (qg T) T.bh cC (i5 (b_ (ui T) T.aF fF) (bO eJ gQ kS)))) (aa (cJ 5 nd (aI (jf T) (i5 (aU T.Uq) (aU T.ml)))) (aa (bj (aI (kM T) (mh zV au (aT cC rfl)))) (aa (bj (aI (cH T) (va zV au au (aT cC rfl)))) (aa (bj (aI (cH T) (va zV au au (aT cC rfl)))) (aa (bj (aI (cH T) (va zV au au (aT cC rfl)))) (aa (bj (aI (cH T) (va zV au au gQ))) (aa (bj (aI (cH T) (va zV au au kS))) (aa (bj (fG (sW T) T.cy b4 (fN zV))) (aj (ck cC (bO eJ (aT cC rfl) au) rfl))))))))))))));have qt:=R.ss.nW t ht;obtain⟨dx,h1⟩:=R.tu;obtain⟨dy,sI⟩:=R.ss.at_;obtain⟨dt,h3⟩:=qt.cm.at_;have m8:=R.sa;have h2:H A.f.aW=some (.ins C.Session dy A.S.s.fs):=by rw[m8];exact sI
 have h4:=qt.cm.mF;have Jm:=R.ss.kZ;have Rc:t.a≠A.f.aW:=ox h3 h2 (MP T);obtain⟨n,hn⟩:∃n,min x.burst (t.f.size-t.got.length)=n:=⟨_,rfl⟩;obtain⟨num,X7⟩:∃num,x.next=num:=⟨_,rfl⟩;have enum:num=iw A.S.s.last:=by rw[<-X7];exact SR.next
 exists I,tr,C.Turn,dx,_,I,h1,T.cy,T.bX,A.f.eA;exists I,t.a,C.Task,dt,_,I,h3,T.bh,T.gu,t.f.CC,_,t.got.length,rfl,.inl ⟨nV t.got,fT.of h4,by rw[bA]⟩;exists I,A.f.aW,dy,I,h2,rfl,A.f.aW,I,⟨A.S.s,A.S.st,⟨⟨dy,h2⟩,Jm⟩,rfl⟩,I,t.a,C.Task,dt,_,I,h3,T.bh,T.fe,t.f.m4,I,J,_,I;have eN:(if(t.f.size:Int)-((t.got.length:Nat):Int)<(A.S.st.burst:Int)then(t.f.size:Int)-((t.got.length:Nat):Int)else(A.S.st.burst:Int))=((n:Nat):Int):=by rw[<-hn,SR.burst];split<;>lia
 rw[eN];exists I,t.a,dt,I,h3,rfl,I,A.f.aW,dy,I,h2,rfl,A.f.aW,A.S.s,dy,rfl,h2,I,I,J;have e1:upd H A.f.aW (.ins C.Session dy (aV.fs {A.S.s with last:=iw A.S.s.last})) t.a=some (.ins C.Task dt t.f.fs):=by rw[aG Rc];exact h3
 exists t.a,t.f,dt,iw A.S.s.last,t.got.length+n,rfl,e1;rw[<-enum];generalize Pk:upd (upd H A.f.aW (.ins C.Session dy (aV.fs {A.S.s with last:=num}))) t.a (.ins C.Task dt (cf.fs {t.f with number:=num,limit:=t.got.length+n,pieces:=0}))=H2;have k2:∀c o,H c=some o->c≠A.f.aW->c≠t.a->H2 c=some o:=λc o hc n1 n2=>by rw[<-Pk,aG n2,aG n1];exact hc
 have g2s:H2 A.f.aW=some (.ins C.Session dy (aV.fs {A.S.s with last:=num})):=by rw[<-Pk,aG (aL Rc)];exact ae
 have X8:H2 t.a=some (.ins C.Task dt (cf.fs {t.f with number:=num,limit:=t.got.length+n,pieces:=0})):=by rw[<-Pk];exact ae
 have tk:∀o:HO,HO.ins C.Task dt t.f.fs≠o->True:=λ_ _=>trivial;have nkT:∀(c:aB)(o:HO),H c=some o->o≠ .ins C.Task dt t.f.fs->o≠ .ins C.Session dy A.S.s.fs->H2 c=some o:=λc o hc n1 n2=>k2 c o hc (bV hc h2 n2) (bV hc h3 n1);have aa3:H2 tr=some (.ins C.Turn dx A.f.fs):=k2 _ _ h1 (ox h1 h2 (V4 T)) (c_ R.FC qt.la nofun);have Oy:H2 A.f.eZ=some (.lst (nV A.sb)):=nkT _ _ R.sn nofun nofun;have aa4:H2 A.S.s.ja=some (.dK A.S.st.kv):=nkT _ _ Jm nofun nofun;have f2:∀b xs,fK H b xs->fK H2 b xs:=λb xs⟨o,e⟩=>⟨o,nkT _ _ e nofun nofun⟩;have S2:fH C H2 tr A.f {A.S.s with last:=num} A.S.st A.sb:=⟨⟨dx,aa3⟩,⟨⟨dy,g2s⟩,aa4⟩,Oy,R.mo⟩;nomatch 49,128,rfl,λH3 p hp Lk s3=>?_
 have UL:H p=none:=by
  cases e:H p with
  |none=>rfl
  |some o=>
   by_cases c1:p=A.f.aW
   .rw[c1,g2s]at hp;cases hp
   .by_cases c2:p=t.a
    .rw[c2,X8]at hp;cases hp
    .have:=k2 p o e c1 c2;rw[hp]at this;cases this
 have g3t:=s3 _ _ X8;have ll:=qt.cm.ll;nomatch I,I,t.a,C.Task,dt,_,I,g3t,T.bh,T.lg,cf.Xz _,p,t.f.aw,_,t.lun,8,rfl,Lk,(fK.same (f2 _ _ qt.cm.vd) s3).sq,?_,by rw[bU,ll];decide,λH4 UM B4=>?_
 .obtain⟨o,e⟩:=fK.same (f2 _ _ qt.cm.vd) s3;exact bV e Lk nofun
 have npt:t.a≠p:=ai X8 hp;have g4t:H4 t.a=some (.ins C.Task dt (cf.fs {t.f with number:=num,limit:=t.got.length+n,pieces:=0})):=B4 _ _ g3t npt;have l1:(put (cw [(0,[49,128])]) 8 t.lun).length=48:=by rw[iA (by rw[bU,ll];decide),bU]
 exists I,I,t.a,C.Task,dt,_,I,g4t,T.bh,T.jc,cf.CB _,p,_,16,4,t.f.tag,rfl,UM,by rw[l1];decide,#[]
 have l2:=e9 l1 (p:=16) (n:=4) (v:=t.f.tag) #[];have u4:∀o,upd H4 p o t.a=some (.ins C.Task dt (cf.fs {t.f with number:=num,limit:=t.got.length+n,pieces:=0})):=λo=>by rw[aG npt];exact g4t
 exists I,I,t.a,C.Task,dt,_,I,u4 _,T.bh,T.i0,cf.x3 _,p,_,20,4,num,rfl,ae,by rw[l2];decide,#[]
 rw[bS];have l3:=e9 l2 (p:=20) (n:=4) (v:=num) #[];exists I,I,t.a,C.Task,dt,_,I,u4 _,T.bh,T.jn,cf.Bh _,p,_,36,4,t.f.asked,rfl,ae,by rw[l3];decide,#[]
 rw[bS];have l4:=e9 l3 (p:=36) (n:=4) (v:=t.f.asked) #[];exists I,I,p,_,40,4,t.got.length,rfl,ae,by rw[l4];decide,#[]
 rw[bS];have l5:=e9 l4 (p:=40) (n:=4) (v:=t.got.length) #[];exists I,I,p,_,44,4,n,rfl,ae,by rw[l5];decide,#[]
 rw[bS];have l6:=e9 l5 (p:=44) (n:=4) (v:=n) #[];generalize Bl:put (put (put (put (put (put (cw [(0,[49,128])]) 8 t.lun) 16 (aY 4 t.f.tag)) 20 (aY 4 num)) 36 (aY 4 t.f.asked)) 40 (aY 4 t.got.length)) 44 (aY 4 n)=hb at l6;have oh:fU hb:=by rw[<-Bl];refine(((((fU.put (pC ?_) qt.ol _).put (dE _ _) _).put (dE _ _) _).put (dE _ _) _).put (dE _ _) _).put (dE _ _) _;intro y hy;rw[aO.mp hy];intro z hz;simp only[ak,ao,or_false]at hz;lia
 generalize hH5:upd H4 p (.lst (nV hb))=H5;have k5:∀c o,H2 c=some o->H5 c=some o:=λc o hc=>by have V8:=ai hc hp;rw[<-hH5,aG V8];exact B4 _ _ (s3 _ _ hc) V8
 have S5:fH C H5 tr A.f {A.S.s with last:=num} A.S.st A.sb:=S2.same k5;have hp5:H5 p=some (.lst (nV hb)):=by rw[<-hH5];exact ae
 have eo:AG hb [] {A.S.s with last:=num} A.S.st=zx x t:=by have q:=XX (s:=x) (SR.X5 kx).hs (SR.X5 kx).ds SR.stat SR.cmd ll t.f.tag num t.f.asked t.got.length n;unfold zx;rw[hn,X7,<-q,<-Bl];rfl
 nomatch I,tr,dx,I,k5 _ _ aa3,rfl,I,tr,p,A.f,_,A.S.st,hb,A.sb,rfl,S5,hp5,l6,oh,aL (ai Oy hp),λAF H' B'=>?_,λhle H6 hs6 B6=>?_
 .rw[eo]at AF;refine kE AF H' λc o hc hl=>B' c o (k5 _ _ (k2 c o hc (by rw[m8];exact c_ hl R.ss.la nofun) (c_ hl qt.la nofun))) ?_;simp only[ak,ao,or_false,not_or];nomatch ai hc UL,c_ hl R.uA nofun
 .rw[eo]at hs6 hle;have k6:∀c o,H2 c=some o->c≠A.f.eZ->H6 c=some o:=λc o hc n1=>B6 c o (k5 c o hc) (by simp only[ak,ao,or_false,not_or];nomatch ai hc hp,n1);have g6t:=k6 _ _ X8 (bV X8 Oy nofun);exists I,t.a,C.Task,dt,_,I,g6t,T.bh,T.jn,cf.Bh _,J,I,t.a,C.Task,dt,I,g6t,T.bh,T.jn,cf.len _;have ef:fm ("asked":bL) (V.int ((t.f.asked:Int)+1)) (cf.fs {t.f with number:=num,limit:=t.got.length+n,pieces:=0})=cf.fs (wG x t).f:=by unfold wG;rw[hn,X7];rfl
  rw[ef];have k7:∀c o,H2 c=some o->c≠A.f.eZ->c≠t.a->upd H6 t.a (.ins C.Task dt (cf.fs (wG x t).f)) c=some o:=λc o hc n1 n2=>by rw[aG n2];exact k6 c o hc n1
  have BB:gH [A.f.eZ,A.S.a,t.a,t.f.ad] H (upd H6 t.a (.ins C.Task dt (cf.fs (wG x t).f))):=λc o hc nc=>by simp only[ak,ao,or_false,not_or]at nc;exact k7 c o (k2 c o hc (by rw[m8];exact nc.2.1) nc.2.2.1) nc.1 nc.2.2.1
  have nst:A.f.eZ≠t.a:=bV Oy X8 nofun;have f7:∀b xs,fK H b xs->fK (upd H6 t.a (.ins C.Task dt (cf.fs (wG x t).f))) b xs:=λb xs hf=>by obtain⟨o,e⟩:=f2 b xs hf;nomatch o,k7 _ _ e (bV e Oy nofun) (bV e X8 nofun)
  have aen:upd H6 t.a (.ins C.Task dt (cf.fs (wG x t).f)) t.f.ad=some (.lst (nV t.got)):=k7 _ _ (nkT _ _ h4 nofun nofun) (c_ qt.ld R.uA nofun) (c_ qt.ld qt.la nofun);have Rt:oI C (upd H6 t.a (.ins C.Task dt (cf.fs (wG x t).f))) bP i (wG x t):=by
   exists⟨⟨⟨dt,ae⟩,f7 _ _ qt.cm.vd,f7 _ _ qt.cm.oT,aen,qt.cm.ll,qt.cm.lc⟩,qt.la,qt.ld,qt.ol,qt.oc,qt.og,qt.tg,qt.gs⟩,qt.wr,qt.rd,qt.sz,?_
   .show t.got.length<=t.got.length+_;lia
   .show t.got.length+min x.burst (t.f.size-t.got.length)<=t.f.size;lia
  have se7:qw C (upd H6 t.a (.ins C.Task dt (cf.fs (wG x t).f))) A.S.a {A.S.s with last:=num}:=⟨dy,by rw[<-m8];exact k7 _ _ g2s (bV g2s Oy nofun) (aL Rc)⟩;obtain⟨R7,kp⟩:=R.stepT (t':=wG x t) ht BB (by rw[aG nst];exact hs6) se7 ⟨rfl,rfl,rfl,rfl,rfl⟩ ⟨by rw[enum];exact Lo R.ss.oy,R.ss.oz,R.ss.pL⟩ (by rw[az];exact hle) rfl rfl rfl Rt;rw[enum]at R7;exact kQ hle _ R7 kp
def hG.RI(R:hG C H bP i tr A)(sub:∀t∈ts',oI C H bP i t)(nd:(ts'.map λt=>t.f.tag).Nodup)(As:ts'.length<=8): hG C (upd H A.S.s.cD (.dK (cp ts'))) bP i tr {A with S:={A.S with ts:=ts'}}/\Keeps i bP bP H (upd H A.S.s.cD (.dK (cp ts'))):=by
 have B:gH [A.S.s.cD] H (upd H A.S.s.cD (.dK (cp ts'))):=λc o hc nc=>by simp only[ak,ao,or_false]at nc;rw[aG nc];exact hc
 have kf:=B.iZ λa ha o u e=>by rw[aO.mp ha,R.ss.ij]at e;cases e
 have ni:∀c x,bP c=x->x≠ .own i .tasks->c∉[A.S.s.cD]:=λc x h n m=>by rw[aO.mp m]at h;exact n (h.symm.trans R.ss.kF)
 obtain⟨dx,h1⟩:=R.tu;obtain⟨dy,h2⟩:=R.ss.at_;nomatch⟨⟨dx,B _ _ h1 (ni _ _ R.FC nofun)⟩,R.FC,B _ _ R.sn (ni _ _ R.uA nofun),R.uA,R.mo,R.le,R.dk.pD B kf (ni _ _ R.CW nofun) (ni _ _ R.yL nofun),R.CW,R.yL,R.od,?_,R.sa⟩,Keeps.X4 B λa ha=>?_
 .nomatch⟨dy,B _ _ h2 (ni _ _ R.ss.la nofun)⟩,B _ _ R.ss.kZ (ni _ _ R.ss.oQ nofun),B _ _ R.ss.lr (ni _ _ R.ss.lT nofun),ae,kf.gm R.ss.uz,λy hy=>?_,nd,As,R.ss.la,R.ss.oQ,R.ss.lT,R.ss.kF,R.ss.ok,R.ss.sm,R.ss.oy,R.ss.oz,R.ss.pL
  have q:=sub y hy;nomatch⟨q.cm.pD B kf (ni _ _ q.la nofun) (ni _ _ q.ld nofun),q.la,q.ld,q.ol,q.oc,q.og,q.tg,q.gs⟩,q.wr,q.rd,q.sz,q.gl,q.ll
 .rw[aO.mp ha];exact .inr (.inr ⟨_,R.ss.kF⟩)
def lU.from(k:lU C H Q E bP i tr A gi out y d)(kp:Keeps i bP pM H H1)(ef:A1.f=A.f)(es:A1.sb=A.sb)(eh:A1.S.held=A.S.held)(el:A1.S.s.line=A.S.s.line):lU C H1 Q E pM i tr A1 gi out y d where
 bad:=λh H' ko=>k.bad (by rw[ef,es]at h;exact h) H' (kp.FD ko)
 ok:=λh H' cQ A' R' e1 e2 e3 e4 e5 m V9=>k.ok (by rw[ef,es]at h;exact h) H' cQ A' R' (e1.trans ef) (by rw[e2,es]) e3 (e4.trans eh) (e5.trans el) m (kp.trans V9)
def RJ(h:t.got.length≠t.f.size):iM d x t.abs=⟨zx x t,{x with tasks:=iz x.tasks t.f.tag++[(wG x t).abs],next:=x.next%(xd-2)+1},d⟩:=by unfold iM;rw[iN (show ¬hU t.abs.got=t.abs.length from h)];rfl
def RK{d:jR}{x:aJ}{t:dG}(h:t.got.length=t.f.size):iM d x t.abs=mK d {x with tasks:=iz x.tasks t.f.tag} t.f.tag t.lun t.cdb t.got false true t.f.size t.f.asked:=by unfold iM;rw[iP (show hU t.abs.got=t.abs.length from h)];rfl
def Oz(h:n<4294967295):iw (iw n)=iw n%(xd-2)+1:=by
 show _=_%4294967294+1;unfold iw;split
 .rfl
 .split<;>lia
inductive RL(C:Cl)(vs:List V)(H:Hp)(Q:VK)(E:XK):Prop
 |mk(tr bP i A t x)(_:vs=[.ref tr,.ref t.a])(_:hG C H bP i tr A)(_:t∈A.S.ts)(_:A.S.s.stage=some 3)(_:A.S.s.closed=false)(_:SRel0 A.S x)(_:(iz x.tasks t.f.tag).Perm ((A.S.ts.filter λy=>y.f.tag !=t.f.tag).map dG.abs))(_:lU C H Q E bP i tr A x.buf (iM (bM A.wr) x t.abs).out (some (iM (bM A.wr) x t.abs).s) (iM (bM A.wr) x t.abs).disk)
def MR:T.ME.E P w aR C.dF 9 (RL C):=by
 refine T.ME.wY ?_;kd_p
 obtain⟨tr,bP,i,A,t,x,rfl,R,ht,kx,mB,SR,hpm,k⟩:=h;replace k:=k.q;exists _,(aj (bH (bg tH (bZ cV (by rfl) T.gT fQ (fN (aT cC rfl))) (aT cC rfl) (bD _)) (aj (bj (aI (aa2 T) (i5 b4 cC)))) (aa (bj (HZ (aT (aT b4 rfl) rfl) (aT cC rfl) ⟨rfl,rfl,rfl,rfl⟩)) (aj (bj (aI (Jl T) (i5 b4 cC)))))));have qt:=R.ss.nW t ht;obtain⟨dx,h1⟩:=R.tu;obtain⟨dy,sI⟩:=R.ss.at_;obtain⟨dt,h3⟩:=qt.cm.at_;have m8:=R.sa;have h2:H A.f.aW=some (.ins C.Session dy A.S.s.fs):=by rw[m8];exact sI
 have hle:t.got.length<=t.f.size:=cZ qt.gl qt.ll;exists I,t.a,C.Task,dt,_,I,h3,T.bh,T.gu,t.f.CC,_,t.got.length,rfl,.inl ⟨nV t.got,fT.of qt.cm.mF,by rw[bA]⟩,I,t.a,C.Task,dt,_,I,h3,T.bh,T.fe,t.f.m4,J,I;refine gG (λq=>?_) (λq=>?_)
 .have q:((t.got.length:Nat):Int)<(t.f.size:Int):=q;rw[RJ ()]at k;nomatch I,I,tr,bP,i,A,t,x,rfl,R,ht,kx,SR,(),k.bad,λh H' R' kp=>?_
  refine k.ok h H' bP _ R' rfl rfl rfl rfl rfl ⟨mB,⟨⟨SR.stage,SR.Em,SR.named,SR.heads,SR.datas,SR.asks,SR.with_,SR.theirs,SR.burst,SR.first,SR.stat,SR.cmd,?_,SR.told⟩,?_,rfl⟩⟩ kp
  .show x.next%(xd-2)+1=iw (iw A.S.s.last);rw[Oz R.ss.oy,SR.next]
  .show(iz x.tasks t.f.tag++[(wG x t).abs]).Perm ((kr A.S.ts (wG x t)).map dG.abs);have p1:=(Ox R.ss.nd ht (t':=wG x t) rfl).map dG.abs;rw[bW]at p1;exact(hpm.append_right _).trans p1
 .have q:¬((t.got.length:Nat):Int)<(t.f.size:Int):=q;have eg:t.got.length=t.f.size:=();rw[RK eg]at k;have hv:jl (cp A.S.ts) (.inl (t.f.tag:Int))=some (V.ref t.a):=by
   rw[m9];have:(A.S.ts.find? λy=>y.f.tag==t.f.tag)=some t:=by
    cases e:A.S.ts.find? λy=>y.f.tag==t.f.tag with
    |none=>have:=kl.mp e t ht;simp at this
    |some y=>have e1:=kz e;rw[MQ R.ss.nd ht (fw e) (beq_iff_eq.mp e1)]
   rw[this];rfl
  exists I,tr,C.Turn,dx,_,I,h1,T.cy,T.bX,A.f.eA,A.f.aW,C.Session,dy,_,I,h2,T.aF,T.dR,A.S.s.mr,A.S.s.cD,rfl,.inl ⟨_,.inl R.ss.ij⟩,I,t.a,C.Task,dt,_,I,h3,T.bh,T.jc,t.f.CB,_,eQ (t.f.tag:Int),_,R.ss.ij,rfl,hv;rw[V7];have sub:(A.S.ts.filter λy=>y.f.tag !=t.f.tag).Sublist A.S.ts:=SU;obtain⟨R1,Lp⟩:=R.RI (ts':=A.S.ts.filter λy=>y.f.tag !=t.f.tag) (λy hy=>R.ss.nW y (sub.subset hy)) (R.ss.nd.sublist (sub.map _)) (cZ sub.length_le R.ss.As);have na:∀c,bP c≠ .own i .tasks->c≠A.S.s.cD:=λc h z=>h (z▸R.ss.kF);have M1:pK C (upd H A.S.s.cD (.dK (cp (A.S.ts.filter λy=>y.f.tag !=t.f.tag)))) t.a t.f t.lun t.cdb t.got:=by have f1:∀b xs,fK H b xs->fK (upd H A.S.s.cD (.dK (cp (A.S.ts.filter λy=>y.f.tag !=t.f.tag)))) b xs:=λb xs⟨o,e⟩=>⟨o,by rw[aG (bV e R.ss.ij nofun)];exact e⟩;nomatch⟨dt,by rw[aG (bV h3 R.ss.ij nofun)];exact h3⟩,f1 _ _ qt.cm.vd,f1 _ _ qt.cm.oT,by rw[aG (bV qt.cm.mF R.ss.ij nofun)];exact qt.cm.mF,qt.cm.ll,qt.cm.lc
  have SR1:ji {A.S with ts:=A.S.ts.filter λy=>y.f.tag !=t.f.tag} x.buf {x with tasks:=iz x.tasks t.f.tag}:=⟨⟨SR.stage,SR.Em,SR.named,SR.heads,SR.datas,SR.asks,SR.with_,SR.theirs,SR.burst,SR.first,SR.stat,SR.cmd,SR.next,SR.told⟩,hpm,rfl⟩;exists I,I,tr,t.a,bP,i,_,t.f,t.lun,t.cdb,t.got,{x with tasks:=iz x.tasks t.f.tag},x.buf,rfl,R1,M1,qt.oc,qt.og,qt.gs,by rw[qt.rd];simp,kx,mB,SR1
  rw[qt.rd,qt.wr];exact k.from Lp rfl rfl rfl rfl
def Lq(h1:u.itt=t.itt)(h2:u.lun=t.lun)(h3:u.cdb=t.cdb)(h4:u.length=t.length)(h5:u.got=t.got)(h6:u.asked=t.asked):iM d x u=iM d x t:=by unfold iM;rw[h1,h2,h3,h4,h5,h6]
structure aeo(st:cb)(t:dG):Prop where
 wr:bit t.f.marks 5=true
 rd:bit t.f.marks 6=false
 sz:t.f.size<=65536
 gl:t.got.length<=min (min st.first st.burst) t.f.size
 lm:t.f.limit=t.got.length
 as:t.f.asked=0
def zy(st:cb)(t:dG):Ap:=⟨t.f.tag,t.lun,t.cdb,t.f.size,t.got,mJ,min (min st.first st.burst) t.f.size,0,0⟩
def qz(d:jR)(x:aJ)(st:cb)(t:dG):Ql73.Went:=if bit t.f.marks 7=true then iM d x (zy st t)else⟨[],{x with tasks:=x.tasks++[zy st t]},d⟩
inductive vf(C:Cl)(vs:List V)(H:Hp)(Q:VK)(E:XK):Prop
 |mk(tr bP i A t x)(_:vs=[.ref tr,.ref t.a])(_:hG C H bP i tr A)(_:TaskR0 C H bP i t)(_:kU A.S.ts t.f.tag=false)(_:A.S.ts.length<8)(_:aeo A.S.st t)(_:A.S.s.stage=some 3)(_:A.S.s.closed=false)(_:ji A.S x.buf x)(_:lU C H Q E bP i tr A x.buf (qz (bM A.wr) x A.S.st t).out (some (qz (bM A.wr) x A.S.st t).s) (qz (bM A.wr) x A.S.st t).disk)
def rk(h:kU ts n=false):∀y∈ts,y.f.tag≠n:=λy hy e=>by unfold kU at h;have:=Vr.mp h y hy;simp[e]at this
def wH:T.pf.E P w aR C.dF 10 (vf C):=by
 refine T.pf.wY ?_;kd_p
 obtain⟨tr,bP,i,A,t,x,rfl,R,qt,hnu,Qa,N,kx,mB,SR,k⟩:=h;replace k:=k.q;have hu:=lS hr;exists _,(aa (cJ 2 nd (aT b4 rfl)) (aa (ng hu (aT fF rfl) (aT cC rfl) cC rfl) (aj (bH (dA (aI (wb T) (fN cC))) (aj (bj (fG (qg T) T.bh cC (i5 (aU T.nP) (bZ (kJ rfl) (by rfl) T.vV qx (i5 (b_ (j_ T) T.aF fF) (aT cC rfl))))))) (aj (bj (aI (MR T) (i5 b4 cC))))))));obtain⟨dx,h1⟩:=R.tu;obtain⟨dy,sI⟩:=R.ss.at_;obtain⟨dt,h3⟩:=qt.cm.at_;have m8:=R.sa;have h2:H A.f.aW=some (.ins C.Session dy A.S.s.fs):=by rw[m8];exact sI
 have gs:t.got.length<=t.f.size:=by have:=N.gl;lia
 have Rt:oI C H bP i t:=⟨qt,N.wr,N.rd,N.sz,by rw[N.lm];exact bw _,by rw[N.lm];exact gs⟩;have hv:jl (cp A.S.ts) (.inl (t.f.tag:Int))=none:=by
  rw[m9];have:(A.S.ts.find? λy=>y.f.tag==t.f.tag)=none:=kl.mpr λy hy=>by simp[rk hnu y hy]
  rw[this];rfl
 have Xg:putK (cp A.S.ts) (.inl (t.f.tag:Int)) (V.ref t.a)=cp (A.S.ts++[t]):=by rw[xr _ hv];unfold cp;rw[bW];rfl
 have hsz:(cp A.S.ts).length<aH:=by unfold cp;rw[aK,sizeLine_eq];lia
 exists I,tr,C.Turn,dx,_,I,h1,T.cy,T.bX,A.f.eA;exists I,I,A.f.aW,C.Session,dy,_,I,h2,T.aF,T.dR,A.S.s.mr,I,t.a,C.Task,dt,_,I,h3,T.bh,T.jc,t.f.CB,A.S.s.cD,I,u_.k (k:=eQ (t.f.tag:Int)) R.ss.ij hsz;rw[Xg];have nd1:((A.S.ts++[t]).map λt=>t.f.tag).Nodup:=by rw[bW];exact Gd R.ss.nd λhm=>by obtain⟨y,hy,e⟩:=cG.mp hm;exact rk hnu y hy e
 obtain⟨R1,Lp⟩:=R.RI (ts':=A.S.ts++[t]) (λy hy=>by
  rcases du.mp hy with hy|hy
  .exact R.ss.nW y hy
  .rw[aO.mp hy];exact Rt) nd1 (by rw[az];show A.S.ts.length+1<=8;lia)
 generalize Zl:upd H A.S.s.cD (.dK (cp (A.S.ts++[t])))=H1 at R1 Lp;have VP:t∈A.S.ts++[t]:=fM _ (aO.mpr rfl);have g3:H1 t.a=some (.ins C.Task dt t.f.fs):=by rw[<-Zl,aG (bV h3 R.ss.ij nofun)];exact h3
 have g2:H1 A.f.aW=some (.ins C.Session dy A.S.s.fs):=by rw[<-Zl,aG (bV h2 R.ss.ij nofun)];exact h2
 have aep:H1 A.S.s.ja=some (.dK A.S.st.kv):=R1.ss.kZ;have SR0:SRel0 {A.S with ts:=A.S.ts++[t]} x:=⟨SR.stage,SR.Em,SR.named,SR.heads,SR.datas,SR.asks,SR.with_,SR.theirs,SR.burst,SR.first,SR.stat,SR.cmd,SR.next,SR.told⟩;exists I,t.a,I,⟨t.f,⟨dt,g3⟩,rfl⟩,I;refine gM (λq=>?_) (λq=>?_)
 .have q7:bit t.f.marks 7=false:=by simpa using q
  exists I,t.a,dt,I,g3,rfl,I,A.f.aW,dy,I,g2,rfl,A.f.aW,I,⟨A.S.s,A.S.st,⟨⟨dy,g2⟩,aep⟩,rfl⟩,I,t.a,C.Task,dt,_,I,g3,T.bh,T.fe,t.f.m4,_,I;rw[RD];exists t.a,t.f,dt,4294967295,min (min A.S.st.first A.S.st.burst) t.f.size,rfl,g3;have eG:qz (bM A.wr) x A.S.st t=⟨[],{x with tasks:=x.tasks++[zy A.S.st t]},bM A.wr⟩:=by unfold qz;rw[iN (by rw[q7];decide)]
  rw[eG]at k;let t':dG:={t with f:={t.f with number:=4294967295,limit:=min (min A.S.st.first A.S.st.burst) t.f.size,pieces:=0}};have B2:gU t.a H1 (upd H1 t.a (.ins C.Task dt (cf.fs t'.f))):=(gU.refl _ H1).upd _;have f2:∀b xs,fK H1 b xs->fK (upd H1 t.a (.ins C.Task dt (cf.fs t'.f))) b xs:=λb xs⟨o,e⟩=>⟨o,by rw[aG (bV e g3 nofun)];exact e⟩;have qt1:=R1.ss.nW t VP;have Rt':oI C (upd H1 t.a (.ins C.Task dt (cf.fs t'.f))) bP i t':=by
   exists⟨⟨⟨dt,ae⟩,f2 _ _ qt1.cm.vd,f2 _ _ qt1.cm.oT,?_,qt1.cm.ll,qt1.cm.lc⟩,qt.la,qt.ld,qt.ol,qt.oc,qt.og,qt.tg,qt.gs⟩,N.wr,N.rd,N.sz,N.gl
   .show upd H1 t.a _ t.f.ad=_;rw[aG (c_ qt.ld qt.la nofun)];exact qt1.cm.mF
   .show min (min A.S.st.first A.S.st.burst) t.f.size<=t.f.size;lia
  have nst:t.a≠A.f.eZ:=c_ qt.la R.uA nofun;have nss:t.a≠A.S.a:=c_ qt.la R.ss.la nofun;obtain⟨R2,kp2⟩:=R1.stepT (t':=t') VP (λc o hc nc=>B2 c o hc λz=>nc (by rw[z];simp)) (by rw[aG (aL nst)];exact R1.sn) (by obtain⟨dz,hz⟩:=R1.ss.at_;nomatch dz,by rw[aG (aL nss)];exact hz) ⟨rfl,rfl,rfl,rfl,rfl⟩ ⟨R.ss.oy,R.ss.oz,R.ss.pL⟩ R.le rfl rfl rfl Rt';have ets:kr (A.S.ts++[t]) t'=A.S.ts++[t']:=by
   unfold kr;rw[bW];congr 1
   .conv=>rhs;rw[<-Px A.S.ts]
    apply gr;intro y hy;rw[iN (rk hnu y hy)];rfl
   .show[if t.f.tag=t.f.tag then t' else t]=[t'];rw[iP rfl]
  have eab:t'.abs=zy A.S.st t:=by show Ql73.Task_.mk _ _ _ _ _ _ _ _ t.f.asked=_;rw[N.as];rfl
  have ags:=N.gl;refine k.ok ?_ _ bP _ R2 rfl (by show A.sb=A.sb++[];simp) rfl rfl rfl ⟨mB,⟨⟨SR.stage,SR.Em,SR.named,SR.heads,SR.datas,SR.asks,SR.with_,SR.theirs,SR.burst,SR.first,SR.stat,SR.cmd,SR.next,SR.told⟩,?_,rfl⟩⟩ (Lp.trans kp2)
  .exact R.le
  .show(x.tasks++[zy A.S.st t]).Perm ((kr (A.S.ts++[t]) t').map dG.abs);rw[ets,bW,<-eab];exact SR.tasks.append_right _
 .have q7:bit t.f.marks 7=true:=by simpa using q
  have eG:qz (bM A.wr) x A.S.st t=iM (bM A.wr) x t.abs:=by unfold qz;rw[iP q7];exact Lq rfl rfl rfl rfl rfl N.as.symm
  rw[eG]at k;nomatch I,I,tr,bP,i,_,t,x,rfl,R1,VP,kx,mB,SR0,?_,k.from Lp rfl rfl rfl rfl
  have e1:((A.S.ts++[t]).filter λy=>y.f.tag !=t.f.tag)=A.S.ts:=by rw[List.filter_append,jO.mpr λy hy=>bne_iff_ne.mpr (rk hnu y hy)];simp
  have e2:iz x.tasks t.f.tag=x.tasks:=by unfold iz;refine jO.mpr λy hy=>bne_iff_ne.mpr ?_;obtain⟨z,hz,rfl⟩:=cG.mp (SR.tasks.subset hy);exact rk hnu z hz
  show(iz x.tasks t.f.tag).Perm (((A.S.ts++[t]).filter λy=>y.f.tag !=t.f.tag).map dG.abs);rw[e1,e2];exact SR.tasks
def uB(R:hG C H bP i tr A)(kb:A.f.most<A.sb.length+out.length->∀H',sJ bP H H'->E (.ref C.dF) none H') (ko:A.sb.length+out.length<=A.f.most->∀H',hG C H' bP i tr {A with S:={A.S with s:=A.S.s.counted},sb:=A.sb++out}->Keeps i bP bP H H'->Q .eY H'):Told C H Q E tr A.f A.S.st A.sb out A.S.s.counted:=by
 obtain⟨dy,h2⟩:=R.ss.at_;have m8:=R.sa;nomatch λh H' B=>kb h H' (sJ.X4 B λa ha=>?_),λh H' S B=>?_
 .rw[m8]at ha;simp only[ak,ao,or_false]at ha;rcases ha with rfl|rfl
  .rw[R.uA];intro z;cases z
  .rw[R.ss.la];intro z;cases z
 .have B3:gH [A.f.eZ,A.S.a,A.df.written] H H':=B.mono λa ha=>by
   rw[m8]at ha;simp only[ak,ao,or_false]at ha ⊢;rcases ha with rfl|rfl
   .exact .inl rfl
   .exact .inr (.inl rfl)
  have n2:∀c:aB,c≠A.f.eZ->c≠A.S.a->c∉[A.f.eZ,A.f.aW]:=λc a b m=>by
   rw[m8]at m;simp only[ak,ao,or_false]at m;rcases m with m|m
   .exact a m
   .exact b m
  have kf:js H H':=B.iZ λa ha o u e=>by
   rw[m8]at ha;simp only[ak,ao,or_false]at ha;rcases ha with rfl|rfl
   .rw[R.sn]at e;cases e
   .rw[h2]at e;cases e
  have D':jH C H' A.f.disk A.df A.wr:=R.dk.pD B kf (n2 _ (c_ R.CW R.uA nofun) (c_ R.CW R.ss.la nofun)) (n2 _ (c_ R.yL R.uA nofun) (c_ R.yL R.ss.la nofun));have se':qw C H' A.S.a A.S.s.counted:=by have:=S.se.se;rw[m8]at this;exact this
  obtain⟨R',kp⟩:=R.step B3 S.sn se' ⟨rfl,rfl,rfl,rfl,rfl⟩ ⟨R.ss.oy,R.ss.oz,lC _ #[]⟩ (by rw[az];exact h) D' R.od;exact ko h H' R' kp
theorem SRel0.counted(R:SRel0 S x):SRel0 {S with s:=S.s.counted} (lK x):=⟨R.stage,R.Em,R.named,R.heads,R.datas,R.asks,R.with_,R.theirs,R.burst,R.first,by show(x.stat+1)%xd=_;rw[R.stat];rfl,R.cmd,R.next,R.told⟩
theorem ji.counted(R:ji S gi x):ji {S with s:=S.s.counted} gi (lK x):=⟨R.toSRel0.counted,R.tasks,R.rY⟩
def zA(R:hG C H bP i tr A)(mB:A.S.s.closed=false)(SR:ji A.S gi x)(k:lU C H Q E bP i tr A gi out (some (lK x)) (bM A.wr)):Told C H Q E tr A.f A.S.st A.sb out A.S.s.counted:=uB R k.bad λh H' R' kp=>k.ok h H' bP _ R' rfl rfl rfl rfl rfl ⟨mB,SR.counted⟩ kp
def C3(d:jR)(x:aJ)(st:cb)(t:dG):Ql73.Went:=if bit t.f.marks 5=false then mK d x t.f.tag t.lun t.cdb [] (bit t.f.marks 6) false t.f.size 0 else if 8<=x.tasks.length then⟨(iL x t.f.tag 0x28 (cF 0 t.f.size) 0 []).1,(iL x t.f.tag 0x28 (cF 0 t.f.size) 0 []).2,d⟩else qz d x st t
structure X9(st:cb)(ts:List dG)(t:dG):Prop where
 nu:kU ts t.f.tag=false
 RM:¬(bit t.f.marks 6=true/\bit t.f.marks 5=true)
 own:gb st t.f.marks t.f.size t.got.length=false
 fol:gC st t.f.marks t.f.size t.got.length=false
 sz:bit t.f.marks 5=true->t.f.size<=65536
 lm:t.f.limit=t.got.length
 as:t.f.asked=0
inductive Eo(C:Cl)(vs:List V)(H:Hp)(Q:VK)(E:XK):Prop
 |mk(tr bP i A t x)(_:vs=[.ref tr,.ref t.a])(_:hG C H bP i tr A)(_:TaskR0 C H bP i t)(_:X9 A.S.st A.S.ts t)(_:A.S.s.stage=some 3)(_:A.S.s.closed=false)(_:ji A.S x.buf x)(_:lU C H Q E bP i tr A x.buf (C3 (bM A.wr) x A.S.st t).out (some (C3 (bM A.wr) x A.S.st t).s) (C3 (bM A.wr) x A.S.st t).disk)
def GY:T.xP.E P w aR C.dF 11 (Eo C):=by
 refine T.xP.wY ?_;kd_p
 obtain⟨tr,bP,i,A,t,x,rfl,R,qt,F,kx,mB,SR,k⟩:=h;replace k:=k.q;exists _,(aj (bH (iH (dA (b_ (jr T) T.bh cC))) (aj (bj (aI (Jl T) (i5 b4 cC)))) (aj (bH (bg HJ (bZ za (by rfl) T.gT fQ (fN (aT (aT b4 rfl) rfl))) (aU T.Cr) (bD _)) (aj (bj (aI (CU T) (i5 b4 cC)))) (aj (bj (aI (wH T) (i5 b4 cC))))))));obtain⟨dx,h1⟩:=R.tu;obtain⟨dy,sI⟩:=R.ss.at_;obtain⟨dt,h3⟩:=qt.cm.at_;have m8:=R.sa;have h2:H A.f.aW=some (.ins C.Session dy A.S.s.fs):=by rw[m8];exact sI
 exists I,t.a,dt,I,h3,rfl,t.a,I,⟨t.f,⟨dt,h3⟩,rfl⟩,I;refine gM (λq=>?_) (λq=>?_)
 .have q5:bit t.f.marks 5=false:=by simpa using q
  have hg:t.got=[]:=by
   have:=F.own;unfold gb at this;rw[q5]at this;have h0:t.got.length=0:=by simpa using this
   exact jT.mp h0
  have eG:C3 (bM A.wr) x A.S.st t=mK (bM A.wr) x t.f.tag t.lun t.cdb t.got (bit t.f.marks 6) (bit t.f.marks 5) t.f.size t.f.asked:=by unfold C3;rw[iP q5,hg,q5,F.as]
  rw[eG]at k;nomatch I,I,tr,t.a,bP,i,A,t.f,t.lun,t.cdb,t.got,x,x.buf,rfl,R,qt.cm,qt.oc,qt.og,qt.gs,F.RM,kx,mB,SR,k
 have q5:bit t.f.marks 5=true:=by simpa using q
 have hlen:x.tasks.length=A.S.ts.length:=by rw[SR.tasks.length_eq,aK]
 exists I,tr,C.Turn,dx,_,I,h1,T.cy,T.bX,A.f.eA,A.f.aW,C.Session,dy,_,I,h2,T.aF,T.dR,A.S.s.mr,A.S.s.cD,I,R.ss.ij,J,I;have N9:(cp A.S.ts).length=A.S.ts.length:=by unfold cp;rw[aK]
 rw[N9];refine gG (λr=>?_) (λr=>?_)
 .have r:(8:Int)<=((A.S.ts.length:Nat):Int):=r;have eG:C3 (bM A.wr) x A.S.st t=⟨(iL x t.f.tag 0x28 (cF 0 t.f.size) 0 []).1,(iL x t.f.tag 0x28 (cF 0 t.f.size) 0 []).2,bM A.wr⟩:=by unfold C3;rw[iN (by rw[q5];decide),iP ()]
  rw[eG]at k;exists I,I,tr,t.a,A.f,A.S.s,A.S.st,A.sb,t.f,x,rfl,R.sending,⟨dt,h3⟩,SR.toSRel0.X5 kx;rw[F.as];exact zA R mB SR k
 .have r:¬(8:Int)<=((A.S.ts.length:Nat):Int):=r;have eG:C3 (bM A.wr) x A.S.st t=qz (bM A.wr) x A.S.st t:=by unfold C3;rw[iN (by rw[q5];decide),iN ()]
  rw[eG]at k;nomatch I,I,tr,bP,i,A,t,x,rfl,R,qt,F.nu,(),⟨q5,?_,F.sz q5,?_,F.lm,F.as⟩,kx,mB,SR,k
  .cases h:bit t.f.marks 6 with
   |false=>rfl
   |true=>exact absurd ⟨h,q5⟩ F.RM
  .have:=F.own;unfold gb at this;rw[q5]at this;by_cases h0:t.got.length=0
   .lia
   .rw[show(t.got.length !=0)=true from bne_iff_ne.mpr h0]at this;simp only[Ki,Bool.not_true,gc,iD,decide_eq_false_iff_not]at this;lia
inductive OA(C:Cl)(vs:List V)(H:Hp)(Q:VK)(E:XK):Prop
 |mk(tr ha bP i A h why x)(_:vs=[.ref tr,.ref ha,.int (why:Nat)])(_:hG C H bP i tr A)(_:fK H ha (nV h))(_:h.length=48)(_:fU h)(_:why<256)(_:A.S.s.stage=some 3)(_:A.S.s.closed=false)(_:ji A.S x.buf x)(_:lU C H Q E bP i tr A x.buf (nF x h why).1 (some (nF x h why).2) (bM A.wr))
def Jn:T.IE.E P w aR C.dF 6 (OA C):=by
 refine T.IE.wY ?_;kd_p
 obtain⟨tr,ha,bP,i,A,h,why,x,rfl,R,fh,hl,oh,hw,kx,mB,SR,k⟩:=h;exists _,(aa (cJ 3 nd (aI (jf T) (i5 (aU T.KY) (aU T.Be)))) (aa (j8 fF (j7 gQ au set_list)) (aa (bj (aI (cH T) (va gQ au au (aU T.nP)))) (aj (bj (fG (dO T) T.cy b4 (i5 gQ cC)))))));obtain⟨dx,h1⟩:=R.tu;nomatch 63,128,rfl,λH1 p hp rD s1=>?_
 exists I,I,p,_,_,2,rfl,rfl,rD,(by unfold F5;rw[bA,bU];rfl);rw[qv];have l1:((cw [(0,[63,128])]).set 2 why).length=48:=by rw[br,bU]
 exists I,p,_,16,4,4294967295,rfl,ae,by rw[l1];decide,#[]
 rw[bS];have s2:=a_.nQ s1 hp (.lst (nV (put ((cw [(0,[63,128])]).set 2 why) 16 (aY 4 4294967295))));obtain⟨oo,eo⟩:=fh;exists I,tr,dx,I,s2 _ _ h1,rfl,I,I;have W:=SR.toSRel0.X5 kx;refine iI (out:=(nF x h why).1) (b:=h) R.sending s2 hp ae (e9 l1 #[]) (fU.put ?_ (dE _ _) _) (.inr ⟨oo,s2 _ _ eo⟩) oh () (bV eo R.sn nofun) (ai eo hp) (Oa W.hs W.ds W.ct W.cm h why) (zA R mB SR k.q);intro z hz;rcases lQ hz with hz|rfl
 .have:fU (cw [(0,[63,128])]):=by unfold fU;decide
  exact this z hz
 .exact hw
def hG.MS(R:hG C H bP i tr A)(h:∀c o,H c=some o->cQ c=bP c):hG C H cQ i tr A:=by
 obtain⟨dx,h1⟩:=R.tu;obtain⟨dy,h2⟩:=R.ss.at_;obtain⟨dz,h3⟩:=R.dk.at_;nomatch R.tu,(h _ _ h1).trans R.FC,R.sn,(h _ _ R.sn).trans R.uA,R.mo,R.le,R.dk,(h _ _ h3).trans R.CW,(h _ _ R.dk.rh).trans R.yL,R.od,?_,R.sa
 nomatch R.ss.at_,R.ss.kZ,R.ss.lr,R.ss.ij,R.ss.uz,λt ht=>?_,R.ss.nd,R.ss.As,(h _ _ h2).trans R.ss.la,(h _ _ R.ss.kZ).trans R.ss.oQ,(h _ _ R.ss.lr).trans R.ss.lT,(h _ _ R.ss.ij).trans R.ss.kF,R.ss.ok,R.ss.sm,R.ss.oy,R.ss.oz,R.ss.pL
 have q:=R.ss.nW t ht;obtain⟨dt,h4⟩:=q.cm.at_;nomatch⟨q.cm,(h _ _ h4).trans q.la,(h _ _ q.cm.mF).trans q.ld,q.ol,q.oc,q.og,q.tg,q.gs⟩,q.wr,q.rd,q.sz,q.gl,q.ll
def yg(h:m<256):decide (128<=m)=bit m 7:=by
 unfold bit;by_cases q:128<=m
 .rw[decide_eq_true q];have:m/2^7%2=1:=by show m/128%2=1;lia
  rw[this];rfl
 .rw[decide_eq_false q];have:m/2^7%2=0:=by show m/128%2=0;lia
  rw[this];rfl
def FF(SR:ji S gi x)(n:Nat):(x.tasks.any λt=>t.itt==n)=kU S.ts n:=by have:(x.tasks.any λt=>t.itt==n)=((S.ts.map dG.abs).any λt=>t.itt==n):=SR.tasks.any_eq;rw[this,nB];rfl
def Lr(SR:ji S x.buf x)(kx:S.s.stage=some 3)(oh:fU h)(t:dG)(e1:t.f.marks=h.getD 1 0)(e2:t.f.tag=ax h 16 4)(e3:t.f.size=ax h 20 4)(e4:t.lun=aD h 8 8)(e5:t.cdb=aD h 32 16)(e6:t.got=b)(hm:h.getD 1 0<256): lL d x h b=if ye (kU S.ts t.f.tag) S.st t.f.marks t.f.size t.got.length=0 then C3 d x S.st t else⟨(nF x h (ye (kU S.ts t.f.tag) S.st t.f.marks t.f.size t.got.length)).1,(nF x h (ye (kU S.ts t.f.tag) S.st t.f.marks t.f.size t.got.length)).2,d⟩:=by
 have hf:x.first=min S.st.first S.st.burst:=by rw[SR.first,iP kx]
 have b6:(h.getD 1 0/64%2==1)=bit t.f.marks 6:=by rw[e1];rfl
 have b5:(h.getD 1 0/32%2==1)=bit t.f.marks 5:=by rw[e1];rfl
 have b7:decide (128<=h.getD 1 0)=bit t.f.marks 7:=by rw[e1];exact yg hm
 unfold lL;simp only[b6,b5,b7,<-e2,<-e3,<-e4,<-e5,<-e6,FF SR];unfold ye;cases hu:kU S.ts t.f.tag with
 |true=>simp
 |false=>
  have V_:((bit t.f.marks 6=true/\bit t.f.marks 5=true)\/(t.got≠[]/\¬(bit t.f.marks 5=true/\x.with_=true/\t.got.length<=min x.first t.f.size))\/(bit t.f.marks 7=false/\¬(bit t.f.marks 5=true/\x.asks=false/\t.got.length<min x.first t.f.size))\/(bit t.f.marks 5=true/\Ql73.MOST<t.f.size))↔ ((bit t.f.marks 6&&bit t.f.marks 5)=true\/(gb S.st t.f.marks t.f.size t.got.length||gC S.st t.f.marks t.f.size t.got.length)=true\/(bit t.f.marks 5&&decide (65536<t.f.size))=true):=by
   rw[SR.with_,SR.asks,hf];generalize hu':min (min S.st.first S.st.burst) t.f.size=u;have q1:(bit t.f.marks 6=true/\bit t.f.marks 5=true)↔(bit t.f.marks 6&&bit t.f.marks 5)=true:=by rw[cz]
   have q2:(t.got≠[]/\¬(bit t.f.marks 5=true/\S.st.with_=true/\t.got.length<=u))↔gb S.st t.f.marks t.f.size t.got.length=true:=by
    unfold gb;rw[hu'];by_cases hg:t.got=[]
    .rw[hg];simp
    .have hl:t.got.length≠0:=λz=>hg (jT.mp z);rw[bne_iff_ne.mpr hl];cases bit t.f.marks 5<;>cases S.st.with_<;>simp[hg]
   have q3:(bit t.f.marks 7=false/\¬(bit t.f.marks 5=true/\S.st.asks=false/\t.got.length<u))↔gC S.st t.f.marks t.f.size t.got.length=true:=by unfold gC;rw[hu'];cases bit t.f.marks 7<;>cases bit t.f.marks 5<;>cases S.st.asks<;>simp
   have q4:(bit t.f.marks 5=true/\Ql73.MOST<t.f.size)↔(bit t.f.marks 5&&decide (65536<t.f.size))=true:=by rw[cz,decide_eq_true_eq];rfl
   rw[q1,q2,q3,q4,ky];constructor
   .rintro(z|z|z|z)
    .exact .inl z
    .exact .inr (.inl (.inl z))
    .exact .inr (.inl (.inr z))
    .exact .inr (.inr z)
   .rintro(z|(z|z)|z)
    .exact .inl z
    .exact .inr (.inl z)
    .exact .inr (.inr (.inl z))
    .exact .inr (.inr (.inr z))
  by_cases hc:((bit t.f.marks 6&&bit t.f.marks 5)=true\/(gb S.st t.f.marks t.f.size t.got.length||gC S.st t.f.marks t.f.size t.got.length)=true\/(bit t.f.marks 5&&decide (65536<t.f.size))=true)
  .have h9:(if(bit t.f.marks 6&&bit t.f.marks 5)=true then 9 else if(gb S.st t.f.marks t.f.size t.got.length||gC S.st t.f.marks t.f.size t.got.length)=true then 9 else if(bit t.f.marks 5&&decide (65536<t.f.size))=true then 9 else 0)=9:=by
    rcases hc with h|h|h
    .rw[iP h]
    .rw[iP h];split<;>rfl
    .rw[iP h];split<;>(try split)<;>rfl
   simp only[mD,if_false];rw[iP (V_.mpr hc),h9];rfl
  .have h0:(if(bit t.f.marks 6&&bit t.f.marks 5)=true then 9 else if(gb S.st t.f.marks t.f.size t.got.length||gC S.st t.f.marks t.f.size t.got.length)=true then 9 else if(bit t.f.marks 5&&decide (65536<t.f.size))=true then 9 else 0)=0:=by rw[iN (λz=>hc (.inl z)),iN (λz=>hc (.inr (.inl z))),iN (λz=>hc (.inr (.inr z)))]
   simp only[mD,if_false];rw[iN (λz=>hc (V_.mp z)),h0,iP rfl];unfold C3;cases h5:bit t.f.marks 5 with
   |false=>simp
   |true=>
    simp only[Bool.true_eq_false,if_false];have e8:Ql73.TASKS=8:=rfl;rw[e8];split
    .rfl
    .unfold qz zy;rw[<-hf]
def uC(oh:fU h)(i:Nat):h.getD i 0<256:=by
 rw[bK];cases e:h[i]? with
 |none=>show 0<256;decide
 |some v=>exact oh v (iC e)
inductive AO(C:Cl)(vs:List V)(H:Hp)(Q:VK)(E:XK):Prop
 |mk(tr ha da bP i A h b x)(_:vs=[.ref tr,.ref ha,.ref da])(_:hG C H bP i tr A)(_:fK H ha (nV h))(_:fK H da (nV b))(_:h.length=48)(_:fU h)(_:fU b)(_:b.length<=8192)(_:A.S.s.stage=some 3)(_:A.S.s.closed=false)(_:ji A.S x.buf x)(_:lU C H Q E bP i tr A x.buf (lL (bM A.wr) x h b).out (some (lL (bM A.wr) x h b).s) (lL (bM A.wr) x h b).disk)
def C4:T.ub.E P w aR C.dF 12 (AO C):=by
 refine T.ub.wY ?_;kd_p
 obtain⟨tr,ha,da,bP,i,A,h,b,x,rfl,R,fh,fb,hl,oh,ob,GD,kx,mB,SR,k⟩:=h;replace k:=k.q;exists _,(aa (cJ 3 nd (nj (Q_ T) (i5 cC fF))) (aa (cJ 4 nd (aI (C1 T) (i5 (aT b4 rfl) gQ))) (aj (bH (bg fD kS au (bD _)) (aj (bj (aI (GY T) (i5 b4 gQ)))) (aj (bj (aI (Jn T) (mh b4 cC kS))))))));nomatch I,I,λta dt yM S7 sU=>?_
 have sM:=j5 yM S7 (.own ta) (.ins C.Task dt []);have nh:ha≠ta:=by obtain⟨o,e⟩:=fh;exact ai e yM
 have nd_:da≠ta:=by obtain⟨o,e⟩:=fb;exact ai e yM
 nomatch ta,dt,ha,da,h,b,rfl,ae,nh,nd_,(fK.same fh sM).sq,(fK.same fb sM).sq,(),λH1 aw ah ad e1 e2 e3 e4 n1 n2 n3 B1=>⟨rfl,?_⟩
 have s1:a_ H H1:=λc o hc=>B1 c o (sM c o hc) (ai hc yM);have X_:H ad=none:=sM.free n1;have nta:ta≠ad:=by intro z;rw[z,e4]at e1;cases e1
 let t:dG:=⟨ta,GA h b aw ah ad,aD h 8 8,aD h 32 16,b⟩;let pM:aB->kT:=λc=>if c=ta then .own i (.task t.f.tag)else if c=ad then .own i (.data t.f.tag)else bP c;have OB:∀c o,H c=some o->pM c=bP c:=λc o hc=>by show(if c=ta then _ else if c=ad then _ else _)=_;rw[iN (ai hc yM),iN (ai hc X_)]
 have R1:hG C H1 pM i tr A:=(R.MS OB).same s1;have Lp:Keeps i bP pM H H1:=λc o hc _=>⟨s1 c o hc,OB c o hc⟩;have qt:TaskR0 C H1 pM i t:=by
  nomatch⟨⟨dt,e1⟩,e2,e3,e4,f_ hl #[],f_ hl #[]⟩,?_,?_,oh.part _ _,oh.part _ _,ob,zt oh 16,by show b.length<=65536;lia
  .show(if ta=ta then _ else _)=_;rw[iP rfl]
  .show(if ad=ta then _ else if ad=ad then _ else _)=_;rw[iN (aL nta),iP rfl]
 have k1:=k.from Lp (A1:=A) rfl rfl rfl rfl;have GZ:=Lr (d:=bM A.wr) SR kx oh t rfl rfl rfl rfl rfl rfl (uC oh 1);obtain⟨dx,h1⟩:=R1.tu;obtain⟨dy,sI⟩:=R1.ss.at_;have h2:H1 A.f.aW=some (.ins C.Session dy A.S.s.fs):=by rw[R.sa];exact sI
 exists I,tr,C.Turn,dx,_,I,h1,T.cy,T.bX,A.f.eA,I,A.f.aW,ta,A.S.s,A.S.st,A.S.ts,t.f,b,rfl,⟨⟨dy,h2⟩,R1.ss.kZ⟩,R1.ss.ij,⟨dt,e1⟩,e4;generalize hN:ye (kU A.S.ts t.f.tag) A.S.st t.f.marks t.f.size b.length=N;have hN':ye (kU A.S.ts t.f.tag) A.S.st t.f.marks t.f.size t.got.length=N:=hN;rw[hN']at GZ;exists I,rfl,I;refine gG (λq=>?_) (λq=>?_)
 .have q:V.int (N:Int)=V.int 0:=q;have q0:N=0:=by have:=V.int.inj q;lia
  rw[iP q0]at GZ;rw[GZ]at k1;subst q0;have hu:kU A.S.ts t.f.tag=false:=by
   cases e:kU A.S.ts t.f.tag with
   |false=>rfl
   |true=>unfold ye at hN;rw[e,iP rfl]at hN;cases hN
  unfold ye at hN;rw[hu,iN #[]]at hN;have c1:¬(bit t.f.marks 6&&bit t.f.marks 5)=true:=λz=>by rw[iP z]at hN;cases hN
  rw[iN c1]at hN;have c2:¬(gb A.S.st t.f.marks t.f.size b.length||gC A.S.st t.f.marks t.f.size b.length)=true:=λz=>by rw[iP z]at hN;cases hN
  rw[iN c2]at hN;have c3:¬(bit t.f.marks 5&&decide (65536<t.f.size))=true:=λz=>by rw[iP z]at hN;cases hN
  have c2':(gb A.S.st t.f.marks t.f.size b.length||gC A.S.st t.f.marks t.f.size b.length)=false:=by simpa using c2
  rw[iD]at c2';nomatch I,I,tr,pM,i,A,t,x,rfl,R1,qt,⟨hu,λz=>c1 (by rw[z.1,z.2];rfl),c2'.1,c2'.2,λz=>?_,rfl,rfl⟩,kx,mB,SR,k1
  apply oZ;intro q;exact c3 (by rw[z,decide_eq_true q];rfl)
 .have q:¬V.int (N:Int)=V.int 0:=q;have q0:N≠0:=λz=>q (by rw[z];rfl);rw[iN q0]at GZ;rw[GZ]at k1;nomatch I,I,I,tr,ha,pM,i,A,h,N,x,rfl,R1,fK.same fh s1,hl,oh,?_,kx,mB,SR,k1
  rw[<-hN];unfold ye;split
  .decide
  .split
   .decide
   .split
    .decide
    .split<;>decide
def find_perm{l m:List Ap}(h:l.Perm m)(nd:(m.map λt=>t.itt).Nodup)(n:Nat):(l.find? λt=>t.itt==n)=m.find? λt=>t.itt==n:=by
 have uniq:∀y∈m,∀z∈m,y.itt=z.itt->y=z:=by
  clear h;induction m with
  |nil=>intro y hy;cases hy
  |cons a r ih=>
   rw[bp,cU]at nd;intro y hy z hz e;rcases ak.mp hy with rfl|Zj
   .rcases ak.mp hz with rfl|hz1
    .rfl
    .exact absurd (cG.mpr ⟨z,hz1,e.symm⟩) nd.1
   .rcases ak.mp hz with rfl|hz1
    .exact absurd (cG.mpr ⟨y,Zj,e⟩) nd.1
    .exact ih nd.2 y Zj z hz1 e
 cases e:m.find? λt=>t.itt==n with
 |none=>rw[kl];intro y hy;exact kl.mp e y (h.subset hy)
 |some y=>
  cases e2:l.find? λt=>t.itt==n with
  |none=>have:=kl.mp e2 y (h.symm.subset (fw e));exact absurd (kz e) (by simpa using this)
  |some z=>have h1:=kz e;have h2:=kz e2;replace h1:=beq_iff_eq.mp h1;replace h2:=beq_iff_eq.mp h2;rw[uniq z (h.subset (fw e2)) y (fw e) (h2.trans h1.symm)]
def wI(d:jR)(x:aJ)(h b:List Nat):List Nat×Option aJ×jR:=match DP d x h b with
 |none=>([],none,d)
 |some g=>(g.out,some g.s,g.disk)
def lY(t:dG)(b:List Nat):dG:={t with got:=t.got++b,f:={t.f with pieces:=t.f.pieces+1}}
def UN(oh:fU h)(hf:(x.tasks.find? λt=>t.itt==ax h 16 4)=some t.abs): DP d x h b=if hJ t.f t.got.length h b=true then none else if bit (h.getD 1 0) 7=true then some (iM d x (lY t b).abs)else some ⟨[],{x with tasks:=x.tasks.map λy=>if y.itt=t.f.tag then(lY t b).abs else y},d⟩:=by
 have b7:=yg (uC oh 1);unfold DP;rw[hf];simp only[b7];have hlen:(t.got++b).length=t.got.length+b.length:=az;have hc:(ax h 20 4≠t.abs.ttt\/ax h 36 4≠t.abs.pieces\/ax h 40 4≠t.abs.got.length\/b=[]\/t.abs.till<(t.abs.got++b).length\/((t.abs.got++b).length=t.abs.till/\bit (h.getD 1 0) 7=false)\/(t.abs.ttt≠mJ/\(t.abs.got++b).length<t.abs.till/\bit (h.getD 1 0) 7=true))↔hJ t.f t.got.length h b=true:=by
  show(ax h 20 4≠t.f.number\/ax h 36 4≠t.f.pieces\/ax h 40 4≠t.got.length\/b=[]\/t.f.limit<(t.got++b).length\/((t.got++b).length=t.f.limit/\bit (h.getD 1 0) 7=false)\/(t.f.number≠4294967295/\(t.got++b).length<t.f.limit/\bit (h.getD 1 0) 7=true))↔_;unfold hJ;rw[hlen];have hb:(b=[])↔b.length=0:=jT.symm;rw[hb];by_cases c1:ax h 20 4=t.f.number
  .by_cases c2:ax h 36 4=t.f.pieces
   .by_cases c3:ax h 40 4=t.got.length
    .by_cases c4:b.length=0
     .simp[c1,c2,c3,c4]
     .by_cases c5:t.f.limit<t.got.length+b.length
      .simp[c1,c2,c3,c4,c5]
      .by_cases c6:t.got.length+b.length=t.f.limit
       .simp[c1,c2,c3,c4,c5,c6]
       .have c7:t.got.length+b.length<t.f.limit:=();cases hq:bit (h.getD 1 0) 7<;>simp[c1,c2,c3,c4,c5,c6,c7]
    .simp[c1,c2,c3]
   .simp[c1,c2]
  .simp[c1]
 by_cases q:hJ t.f t.got.length h b=true
 .rw[iP (hc.mpr q),iP q]
 .rw[iN (λz=>q (hc.mp z)),iN q];rfl
inductive G0(C:Cl)(vs:List V)(H:Hp)(Q:VK)(E:XK):Prop
 |mk(tr ha da bP i A h b x)(_:vs=[.ref tr,.ref ha,.ref da])(_:hG C H bP i tr A)(_:fK H ha (nV h))(_:fK H da (nV b))(_:h.length=48)(_:fU h)(_:fU b)(_:b.length<=8192)(_:A.S.s.stage=some 3)(_:A.S.s.closed=false)(_:ji A.S x.buf x)(_:lU C H Q E bP i tr A x.buf (wI (bM A.wr) x h b).1 (wI (bM A.wr) x h b).2.1 (wI (bM A.wr) x h b).2.2)
def Jo:T.Aa.E P w aR C.dF 10 (G0 C):=by
 refine T.Aa.wY ?_;kd_p
 obtain⟨tr,ha,da,bP,i,A,h,b,x,rfl,R,fh,fb,hl,oh,ob,GD,kx,mB,SR,k⟩:=h;replace k:=k.q;have hu:=lS hr;exists _,(aa (cJ 3 nd (aT b4 rfl)) (aa (cJ 4 nd (Qp hu (aT gQ rfl) (aI (dY T) (mh cC au au)) ⟨rfl,rfl,rfl,rfl⟩)) (aa (bH (i_ (mX kS)) (aj A7) aZ) (aa (bH (dA (aI (GX T) (mh kS cC fF))) (aa (bj (b_ (lG T) T.aF gQ)) (aj A7)) aZ) (aa (bj (tJ dg gx gy lN (aT kS rfl) (fN fF))) (aa (ck kS (bO eJ (aT kS rfl) au) rfl) (aj (bH (bg k_ (bO jJ (fE cX cC au (λ_ _=>rfl)) (aU T.ml)) au (bD _)) (aj (bj (aI (MR T) (i5 b4 kS)))) aZ))))))));obtain⟨dx,h1⟩:=R.tu;obtain⟨dy,sI⟩:=R.ss.at_;have m8:=R.sa;have h2:H A.f.aW=some (.ins C.Session dy A.S.s.fs):=by rw[m8];exact sI
 exists I,tr,C.Turn,dx,_,I,h1,T.cy,T.bX,A.f.eA;nomatch I,A.f.aW,C.Session,dy,_,I,h2,T.aF,T.dR,A.S.s.mr,A.S.s.cD,rfl,.inl ⟨_,.inl R.ss.ij⟩,I,ha,h,16,4,rfl,fh.sq,λH1 s1=>⟨_,lM.k (k:=eQ ((ax h 16 4:Nat):Int)) (s1 _ _ R.ss.ij),?_⟩
 rw[m9];have R1:=R.same s1;have Lp:Keeps i bP bP H H1:=Keeps.same s1;have k1:=k.from Lp (A1:=A) rfl rfl rfl rfl;have ndA:((A.S.ts.map dG.abs).map λt=>t.itt).Nodup:=by rw[cY];exact R.ss.nd
 have Jp:=find_perm SR.tasks ndA (ax h 16 4);have hfm:((A.S.ts.map dG.abs).find? λt=>t.itt==ax h 16 4)=(A.S.ts.find? λt=>t.f.tag==ax h 16 4).map dG.abs:=by rw[List.find?_map];rfl
 rw[hfm]at Jp;have Ya:=s1 _ _ h2;cases ef:A.S.ts.find? λt=>t.f.tag==ax h 16 4 with
 |none=>
  rw[ef]at Jp;nomatch I,I,fI ?_
  have eD:wI (bM A.wr) x h b=([],some x,bM A.wr):=by unfold wI DP;rw[Jp];rfl
  rw[eD]at k1;exact k1.ok R.le H1 bP A R1 rfl (by simp) rfl rfl rfl ⟨mB,SR⟩ (Keeps.same (a_.refl _))
 |some t=>
  rw[ef]at Jp;have ht:t∈A.S.ts:=fw ef;have aa8:=kz ef;have aiY:t.f.tag=ax h 16 4:=beq_iff_eq.mp aa8;have qt:=R1.ss.nW t ht;obtain⟨dt,h3⟩:=qt.cm.at_;have wq:=UN (d:=bM A.wr) (b:=b) oh Jp;nomatch I,I,gY ?_
  nomatch I,I,I,t.a,ha,da,t.f,t.got,h,b,rfl,⟨dt,h3⟩,qt.cm.mF,fK.same fh s1,fK.same fb s1,hl,qt.gl,λH2 s2=>⟨_,rfl,?_⟩
  have qJ:=s1.trans s2;have R2:=R.same qJ;have k2:=k.from (Keeps.same qJ) (A1:=A) rfl rfl rfl rfl;refine gM (λq=>?_) (λq=>?_)
  .rw[iP q]at wq;have eD:wI (bM A.wr) x h b=([],none,bM A.wr):=by unfold wI;rw[wq]
   rw[eD]at k2;exists I,A.f.aW,dy,I,qJ _ _ h2,rfl,A.f.aW,A.S.s,dy,rfl,qJ _ _ h2;obtain⟨R3,UO⟩:=R2.step (H':=upd H2 A.f.aW (.ins C.Session dy (aV.fs {A.S.s with closed:=true}))) (s':={A.S.s with closed:=true}) (wr':=A.wr) (CH:=A.sb) (λc o hc nc=>by
     simp only[ak,ao,or_false,not_or]at nc;rw[aG (by rw[m8];exact nc.2.1)];exact hc) (by rw[aG (bV R2.sn (qJ _ _ h2) nofun)];exact R2.sn) ⟨dy,by rw[<-m8];exact ae⟩ ⟨rfl,rfl,rfl,rfl,rfl⟩ ⟨R.ss.oy,R.ss.oz,R.ss.pL⟩ R.le (by
     have B:gH [A.f.aW] H2 (upd H2 A.f.aW (.ins C.Session dy (aV.fs {A.S.s with closed:=true}))):=λc o hc nc=>by rw[aG (λz=>nc (by rw[z];simp))];exact hc
     refine R2.dk.pD B (B.iZ λa ha o u e=>?_) ?_ ?_
     .rw[aO.mp ha,qJ _ _ h2]at e;cases e
     .rw[aO,m8];exact c_ R.CW R.ss.la nofun
     .rw[aO,m8];exact c_ R.yL R.ss.la nofun) R.od
   exact k2.ok R.le _ bP _ R3 rfl (by simp) rfl rfl rfl rfl UO
  have q1:¬hJ t.f t.got.length h b=true:=by rw[q];decide
  rw[iN q1]at wq;have Xm:t.got.length+b.length<=t.f.limit:=by
   apply oZ;intro z;apply q1;unfold hJ;split
   .rfl
   .split
    .rfl
    .rw[iP (.inr z)]
  have qt2:=R2.ss.nW t ht;have UH:=s2 _ _ h3;have nad:t.a≠t.f.ad:=c_ qt.la qt.ld nofun;have sz:t.got.length+b.length<=65536:=by have h1:=qt.ll;have h2:=qt.sz;lia
  exists I,t.a,C.Task,dt,_,I,UH,T.bh,T.gu,t.f.CC,.inl ⟨rfl,_,fT.of qt2.cm.mF⟩,I,t.f.ad,da,J,qt2.cm.mF,(fK.same fb qJ).rd,by rw[bA,bA,sizeLine_eq];lia
  rw[<-jB];have g3:upd H2 t.f.ad (.lst (nV (t.got++b))) t.a=some (.ins C.Task dt t.f.fs):=by rw[aG nad];exact UH
  exists I,t.a,C.Task,dt,_,I,g3,T.bh,T.i3,t.f.CD,J,I,t.a,C.Task,dt,I,g3,T.bh,T.i3,t.f.len;have ef':fm ("pieces":bL) (V.int ((t.f.pieces:Int)+1)) t.f.fs=cf.fs (lY t b).f:=rfl;rw[ef'];generalize Z3:upd (upd H2 t.f.ad (.lst (nV (t.got++b)))) t.a (.ins C.Task dt (cf.fs (lY t b).f))=H3;have B3:gH [A.f.eZ,A.S.a,t.a,t.f.ad] H2 H3:=λc o hc nc=>by simp only[ak,ao,or_false,not_or]at nc;rw[<-Z3,aG nc.2.2.1,aG nc.2.2.2];exact hc
  have k3':∀c o,H2 c=some o->c≠t.a->c≠t.f.ad->H3 c=some o:=λc o hc n1 n2=>by rw[<-Z3,aG n1,aG n2];exact hc
  have f3:∀c xs,fK H2 c xs->fK H3 c xs:=λc xs⟨o,e⟩=>⟨o,k3' _ _ e (bV e UH nofun) (bV e qt2.cm.mF nofun)⟩;have Rt:oI C H3 bP i (lY t b):=by
   nomatch⟨⟨⟨dt,by rw[<-Z3];exact ae⟩,f3 _ _ qt2.cm.vd,f3 _ _ qt2.cm.oT,?_,qt.cm.ll,qt.cm.lc⟩,qt.la,qt.ld,qt.ol,qt.oc,qt.og.append ob,qt.tg,?_⟩,qt.wr,qt.rd,qt.sz,?_,qt.ll
   .show H3 t.f.ad=some (.lst (nV (t.got++b)));rw[<-Z3,aG (aL nad)];exact ae
   .show(t.got++b).length<=65536;rw[az];exact sz
   .show(t.got++b).length<=t.f.limit;rw[az];exact Xm
  obtain⟨R3,UO⟩:=R2.stepT (t':=lY t b) (CH:=A.sb) (s':=A.S.s) ht B3 (k3' _ _ R2.sn (c_ R.uA qt.la nofun) (c_ R.uA qt.ld nofun)) (by obtain⟨dz,hz⟩:=R2.ss.at_;nomatch dz,k3' _ _ hz (c_ R.ss.la qt.la nofun) (c_ R.ss.la qt.ld nofun)) ⟨rfl,rfl,rfl,rfl,rfl⟩ ⟨R.ss.oy,R.ss.oz,R.ss.pL⟩ R.le rfl rfl rfl Rt;have k3:=k2.from UO (A1:={A with S:={A.S with ts:=kr A.S.ts (lY t b)}}) rfl rfl rfl rfl;have fh3:=f3 _ _ (fK.same fh qJ);exists I,ha,_,J,fh3.sq,cM (gv (i:=1) ()),J,rfl,I;have e7:=wz (h.getD 1 0) 7;have SR0:SRel0 {A.S with ts:=kr A.S.ts (lY t b)} x:=⟨SR.stage,SR.Em,SR.named,SR.heads,SR.datas,SR.asks,SR.with_,SR.theirs,SR.burst,SR.first,SR.stat,SR.cmd,SR.next,SR.told⟩;refine gM (λr=>?_) (λr=>?_)
  .have r:bit (h.getD 1 0) 7=true:=e7▸r;rw[iP r]at wq;have eD:wI (bM A.wr) x h b=((iM (bM A.wr) x (lY t b).abs).out,some (iM (bM A.wr) x (lY t b).abs).s,(iM (bM A.wr) x (lY t b).abs).disk):=by unfold wI;rw[wq]
   rw[eD]at k3;nomatch I,I,tr,bP,i,_,lY t b,x,rfl,R3,?_,kx,mB,SR0,?_,k3
   .show lY t b∈kr A.S.ts (lY t b);unfold kr;exact cG.mpr ⟨t,ht,iP rfl⟩
   .show(iz x.tasks t.f.tag).Perm (((kr A.S.ts (lY t b)).filter λy=>y.f.tag !=t.f.tag).map dG.abs);have e1:((kr A.S.ts (lY t b)).filter λy=>y.f.tag !=t.f.tag)=A.S.ts.filter λy=>y.f.tag !=t.f.tag:=by
     unfold kr;generalize A.S.ts=ts;induction ts with
     |nil=>rfl
     |cons z r ih=>
      rw[bp];by_cases e:z.f.tag=t.f.tag
      .have e':z.f.tag=(lY t b).f.tag:=e;rw[iP e',i8,i8,iN (by show ¬((lY t b).f.tag !=t.f.tag)=true;simp[lY]),iN (by simp[e])];exact ih
      .have e':¬z.f.tag=(lY t b).f.tag:=e;rw[iN e',i8,i8,iP (by simp[e]),iP (by simp[e]),ih]
    rw[e1];have p:=SR.tasks.filter (λy=>y.itt !=t.f.tag);rw[FT]at p;exact p
  .have r:bit (h.getD 1 0) 7=false:=e7▸r;rw[iN (by rw[r];decide)]at wq;have eD:wI (bM A.wr) x h b=([],some {x with tasks:=x.tasks.map λy=>if y.itt=t.f.tag then(lY t b).abs else y},bM A.wr):=by unfold wI;rw[wq]
   rw[eD]at k3;refine k3.ok R.le H3 bP _ R3 rfl (by simp) rfl rfl rfl ⟨mB,⟨⟨SR.stage,SR.Em,SR.named,SR.heads,SR.datas,SR.asks,SR.with_,SR.theirs,SR.burst,SR.first,SR.stat,SR.cmd,SR.next,SR.told⟩,?_,rfl⟩⟩ (Keeps.same (a_.refl _));have p:=SR.tasks.map (λy:Ap=>if y.itt=t.f.tag then(lY t b).abs else y);rw[cY]at p;have e1:(kr A.S.ts (lY t b)).map dG.abs=A.S.ts.map ((λy:Ap=>if y.itt=t.f.tag then(lY t b).abs else y)∘ dG.abs):=by
    unfold kr;rw[cY];apply gr;intro y _;show dG.abs (if y.f.tag=(lY t b).f.tag then lY t b else y)=if y.f.tag=t.f.tag then(lY t b).abs else y.abs;by_cases e:y.f.tag=t.f.tag
    .rw[iP e,iP (show y.f.tag=(lY t b).f.tag from e)]
    .rw[iN e,iN (show ¬y.f.tag=(lY t b).f.tag from e)]
   show(x.tasks.map _).Perm ((kr A.S.ts (lY t b)).map dG.abs);rw[e1];exact p
def hG.attr(R:hG C H bP i tr A)(ad:GW A.S.s s')(nu:Nums s'): hG C (upd H A.S.a (.ins C.Session dy s'.fs)) bP i tr {A with S:={A.S with s:=s'}}/\Keeps i bP bP H (upd H A.S.a (.ins C.Session dy s'.fs)):=by
 obtain⟨dz,h2⟩:=R.ss.at_;have B:gH [A.S.a] H (upd H A.S.a (.ins C.Session dy s'.fs)):=λc o hc nc=>by rw[aG (λz=>nc (by rw[z];simp))];exact hc
 have kf:=B.iZ λa ha o u e=>by rw[aO.mp ha,h2]at e;cases e
 exact R.step (wr':=A.wr) (CH:=A.sb) (B.mono λa ha=>by rw[aO.mp ha];simp) (B _ _ R.sn (by rw[aO];exact c_ R.uA R.ss.la nofun)) ⟨dy,ae⟩ ad nu R.le (R.dk.pD B kf (by rw[aO];exact c_ R.CW R.ss.la nofun) (by rw[aO];exact c_ R.yL R.ss.la nofun)) R.od
def oA(h:List Nat)(dw:Nat):Bool:=bit (h.getD 0 0) 6||decide (ax h 24 4=dw)
def ia(h:List Nat)(dw:Nat):Nat:=if bit (h.getD 0 0) 6=true then dw else if ax h 24 4=dw then(dw+1)%4294967296 else dw
inductive Ls(C:Cl)(vs:List V)(H:Hp)(Q:VK)(kn:XK):Prop
 |mk(sa ha s dy h)(_:vs=[.ref sa,.ref ha])(_:H sa=some (.ins C.Session dy (aV.fs s)))(_:fK H ha (nV h))(_:h.length=48)(_:∀H',H' sa=some (.ins C.Session dy (aV.fs {s with cmd:=ia h s.cmd}))->gU sa H H'->Q (.bl (oA h s.cmd)) H')
def OC:T.Fi.D P w aR 2 (Ls C):=by
 refine T.Fi.ok ?_;kd_p
 obtain⟨sa,ha,s,dy,h,rfl,hs,fh,hl,k⟩:=h;exists _,(aa (bH (bg k_ (bO jJ (fE cX cC au (λ_ _=>rfl)) (aU T.NV)) au (bD _)) (aj (aP kP)) aZ) (aa (bH (bg k_ (aI (dY T) (mh cC au au)) (aT b4 rfl) (bD _)) (aj (aP kP)) aZ) (aa (ck b4 (bO yU (bO eJ (aT b4 rfl) au) (aU T.ze)) rfl) (aj (aP kP)))));have e6:=wz (h.getD 0 0) 6;exists I,ha,_,J,fh.sq,cM (gv (i:=0) ()),J,rfl,I;refine gM (λq=>?_) (λq=>?_)
 .have q:bit (h.getD 0 0) 6=true:=e6▸q;have e1:oA h s.cmd=true:=by unfold oA;rw[q];rfl
  have e2:ia h s.cmd=s.cmd:=by unfold ia;rw[iP q]
  rw[e1,e2]at k;exact k H hs (gU.refl _ H)
 have q:bit (h.getD 0 0) 6=false:=e6▸q;nomatch I,ha,h,24,4,rfl,fh.sq,λH1 s1=>⟨_,rfl,sa,C.Session,dy,_,_,rfl,s1 _ _ hs,T.aF,T.cT,s.IX,rfl,_,rfl,?_⟩
 have B1:gU sa H H1:=λc o hc _=>s1 c o hc;refine gM (λr=>?_) (λr=>?_)
 .have r:(!decide (V.int ((ax h 24 4:Nat):Int)=V.int (s.cmd:Int)))=true:=r;have r1:ax h 24 4≠s.cmd:=λz=>by rw[z,decide_eq_true rfl]at r;cases r
  have e1:oA h s.cmd=false:=by unfold oA;rw[q,decide_eq_false r1];rfl
  have e2:ia h s.cmd=s.cmd:=by unfold ia;rw[iN (by rw[q];decide),iN r1]
  rw[e1,e2]at k;exact k H1 (s1 _ _ hs) B1
 .have r:(!decide (V.int ((ax h 24 4:Nat):Int)=V.int (s.cmd:Int)))=false:=r;have r1:ax h 24 4=s.cmd:=by
   have r2:decide (V.int ((ax h 24 4:Nat):Int)=V.int (s.cmd:Int))=true:=by simpa using r
   have:=V.int.inj (of_decide_eq_true r2);lia
  have e1:oA h s.cmd=true:=by unfold oA;rw[decide_eq_true r1,Bool.or_true]
  have e2:ia h s.cmd=(s.cmd+1)%4294967296:=by unfold ia;rw[iN (by rw[q];decide),iP r1]
  rw[e1,e2]at k;exists I,sa,C.Session,dy,_,I,s1 _ _ hs,T.aF,T.cT,s.IX,J,J,(by show(0:Int)<4294967296;decide),I,sa,C.Session,dy,I,s1 _ _ hs,T.aF,T.cT,s.len;exact k _ (ae.trans rfl) (B1.upd _)
def yh(x:aJ)(h b:List Nat):List Nat×aJ:=if ax h 16 4=mJ then([],x)else uY x [(0,[0x20,0x80]),(8,aD h 8 8),(16,aD h 16 4),(20,aY 4 mJ)] (b.take x.theirs)
inductive G1(C:Cl)(vs:List V)(H:Hp)(Q:VK)(E:XK):Prop
 |mk(tr ha da bP i A h b x)(_:vs=[.ref tr,.ref ha,.ref da])(_:hG C H bP i tr A)(_:fK H ha (nV h))(_:fK H da (nV b))(_:h.length=48)(_:fU h)(_:fU b)(_:b.length<=8192)(_:A.S.s.stage=some 3)(_:A.S.s.closed=false)(_:ji A.S x.buf x)(_:lU C H Q E bP i tr A x.buf (yh x h b).1 (some (yh x h b).2) (bM A.wr))
def Jq:T.Ab.E P w aR C.dF 6 (G1 C):=by
 refine T.Ab.wY ?_;kd_p
 obtain⟨tr,ha,da,bP,i,A,h,b,x,rfl,R,fh,fb,hl,oh,ob,GD,kx,mB,SR,k⟩:=h;exists _,(aa (bH (bg fD (aI (dY T) (mh cC au au)) (aU T.nP) (bD _)) (aj A7) aZ) (aa (cJ 3 nd (aI (jf T) (i5 (aU T.D6) (aU T.Be)))) (aa (bj (aI (kM T) (mh gQ au (ej fV cC (cS au) (cS au))))) (aa (bj (aI (cH T) (va gQ au au (aU T.nP)))) (aj (bj (fG (dO T) T.cy b4 (i5 gQ (ej fV fF oP (cS (b_ (mS T) T.aF (aT b4 rfl))))))))))));nomatch I,ha,h,16,4,rfl,fh.sq,λH1 s1=>⟨rfl,_,rfl,?_⟩
 refine gG (λq=>?_) (λq=>?_)
 .have q:V.int ((ax h 16 4:Nat):Int)=V.int 4294967295:=q;have q1:ax h 16 4=mJ:=by have:=V.int.inj q;show _=4294967295;lia
  have eG:yh x h b=([],x):=by unfold yh;rw[iP q1]
  rw[eG]at k;exact k.ok R.le H1 bP A (R.same s1) rfl (by simp) rfl rfl rfl ⟨mB,SR⟩ (Keeps.same s1)
 have q:¬V.int ((ax h 16 4:Nat):Int)=V.int 4294967295:=q;have q1:ax h 16 4≠mJ:=λz=>q (by rw[z];rfl);have eG:yh x h b=uY x [(0,[0x20,0x80]),(8,aD h 8 8),(16,aD h 16 4),(20,aY 4 mJ)] (b.take x.theirs):=by unfold yh;rw[iN q1]
 rw[eG]at k;nomatch 32,128,rfl,λH2 p hp v_ s2=>?_
 have qJ:=s1.trans s2;have UL:H p=none:=s1.free hp;nomatch I,I,I,I,ha,I,(fK.same fh qJ).sq,λq3 Ht=>?_
 have e8:jv (nV h) (some 8) (some 20)=nV (aD h 8 12):=lH h 8 20 #[];rw[e8];have s3:=aS (a_.refl H2) Ht (.lst (nV (aD h 8 12)));have V2:q3≠p:=aL (ai v_ Ht);have l12:=f_ hl (p:=8) (n:=12) #[];nomatch p,q3,_,aD h 8 12,8,rfl,s3 _ _ v_,fT.of ae,V2,by rw[bU,l12];decide,λH4 UM B4=>?_
 have l1:(put (cw [(0,[32,128])]) 8 (aD h 8 12)).length=48:=by rw[iA (by rw[bU,l12];decide),bU]
 exists I,p,_,20,4,4294967295,rfl,UM,by rw[l1];decide,#[]
 generalize Bl:put (put (cw [(0,[32,128])]) 8 (aD h 8 12)) 20 (aY 4 4294967295)=hb;have s5:a_ H (upd H4 p (.lst (nV hb))):=λc o hc=>by have V8:=ai hc UL;rw[aG V8];exact B4 _ _ (s3 _ _ (qJ _ _ hc)) V8
 obtain⟨dx,h1⟩:=R.tu;obtain⟨dy,sI⟩:=R.ss.at_;have h2:H A.f.aW=some (.ins C.Session dy A.S.s.fs):=by rw[R.sa];exact sI
 nomatch I,tr,dx,I,s5 _ _ h1,rfl,I,I,I,tr,C.Turn,dx,_,I,s5 _ _ h1,T.cy,T.bX,A.f.eA,A.f.aW,dy,I,s5 _ _ h2,rfl,A.f.aW,I,⟨A.S.s,A.S.st,⟨⟨dy,s5 _ _ h2⟩,s5 _ _ R.ss.kZ⟩,rfl⟩,I,da,I,(fK.same fb s5).sq,λq6 G3=>?_
 rw[rX];have s6:=aS s5 G3 (.lst (nV (b.take A.S.st.theirs)));have t6:=aS (a_.refl (upd H4 p (.lst (nV hb)))) G3 (.lst (nV (b.take A.S.st.theirs)));have W:=SR.toSRel0.X5 kx;have ep:=UG (s:=x) W.hs W.ds W.ct W.cm hl (b.take A.S.st.theirs);rw[Bl]at ep;have k':=zA R mB SR k;have eth:x.theirs=A.S.st.theirs:=SR.theirs;rw[eth]at k';refine iI (b:=b.take A.S.st.theirs) R.sending s6 UL (t6 _ _ ae) (by rw[<-Bl];exact e9 l1 #[]) ?_ (.inl ae) (ob.take _) (by rw[bf];lia) (aL (ai (s5 _ _ R.sn) G3)) (aL (ai ae G3)) ep k'.q;rw[<-Bl];exact(fU.put (by unfold fU;decide) (oh.part _ _) _).put (dE _ _) _
inductive C5(C:Cl)(vs:List V)(H:Hp)(Q:VK)(kn:XK):Prop
 |mk(sa s dy n ts)(_:vs=[.ref sa,.int (n:Nat)])(_:H sa=some (.ins C.Session dy (aV.fs s)))(_:H s.cD=some (.dK (cp ts)))(_:Q (.int (if kU ts n=true then 0 else 1)) (if kU ts n=true then upd H s.cD (.dK (cp (ts.filter λy=>y.f.tag !=n)))else H))
def Ep:T.vL.D P w aR 1 (C5 C):=by
 refine T.vL.ok ?_;kd_p
 obtain⟨sa,s,dy,n,ts,rfl,hs,ht,k⟩:=h;have hu:=lS hr;exists _,(aa (bH (i_ (EZ hu cC (aT b4 rfl))) (aj (aP au)) aZ) (aa (bj (HZ (aT b4 rfl) cC ⟨rfl,rfl,rfl,rfl⟩)) (aj (aP au))));exists I,I,sa,C.Session,dy,_,I,hs,T.aF,T.dR,s.mr,s.cD,I,lM.k (k:=eQ (n:Int)) ht,I;rw[m9,C0];cases e:kU ts n with
 |false=>rw[e]at k;exact fI k
 |true=>
  rw[e]at k;refine gY ?_;have hv:∃v,jl (cp ts) (.inl (n:Int))=some v:=by have:=C0 ts n;rw[e,<-m9]at this;exact Hv.mp this
  obtain⟨v,hv⟩:=hv;exists I,sa,C.Session,dy,_,I,hs,T.aF,T.dR,s.mr,s.cD,rfl,.inl ⟨_,.inl ht⟩,I,_,eQ (n:Int),v,ht,rfl,hv;rw[V7];exact k
def RN(x:Nat):cj (x:Int) 127=((x%128:Nat):Int):=by have h:=Ie.nM (x:=(x:Int)) 7 ();exact h
def aa_(x:Nat):cj (x:Int) 63=((x%64:Nat):Int):=by have h:=Ie.nM (x:=(x:Int)) 6 ();exact h
def OD(x:aJ)(h:List Nat):List Nat×aJ:=uY x [(0,[0x26,0x80,if h.getD 1 0%128<2 then 0 else 2]),(16,aD h 16 4),(40,aY 2 2)] []
inductive C6(C:Cl)(vs:List V)(H:Hp)(Q:VK)(E:XK):Prop
 |mk(tr ha bP i A h x)(_:vs=[.ref tr,.ref ha])(_:hG C H bP i tr A)(_:fK H ha (nV h))(_:h.length=48)(_:fU h)(_:A.S.s.stage=some 3)(_:A.S.s.closed=false)(_:ji A.S x.buf x)(_:lU C H Q E bP i tr A x.buf (OD x h).1 (if h.getD 1 0%128<2 then none else some (OD x h).2) (bM A.wr))
def Er:T.vN.E P w aR C.dF 6 (C6 C):=by
 refine T.vN.wY ?_;kd_p
 obtain⟨tr,ha,bP,i,A,h,x,rfl,R,fh,hl,oh,kx,mB,SR,k⟩:=h;exists _,(aa (cJ 2 nd (gL iq (bO jJ (fE cX cC au (λ_ _=>rfl)) au) (rJ (i5 au au)) (by with_unfolding_all rfl))) (aa (cJ 3 nd (aI (jf T) (i5 (aU T.AE) (aU T.Be)))) (aa (j8 (kC (dA fF) au au) (j7 gQ au set_list)) (aa (bj (aI (kM T) (mh gQ au (ej fV cC (cS au) (cS au))))) (aa (bj (aI (cH T) (va gQ au au (aU T.Ct)))) (aa (bj (fG (dO T) T.cy b4 (i5 gQ (dN jk)))) (aj (bH (dA fF) (aj (bj (b_ (lG T) T.aF (aT b4 rfl)))) aZ))))))));nomatch I,ha,_,J,fh.sq,cM (gv (i:=1) ()),J,(by show 2<=aH;decide),λtp J8=>?_
 have Yb:=aS (a_.refl H) J8 (.tup [V.int 0,V.int 1]);exists tp,I,.inr (l_.of ae),rfl,rfl;have eI:tI (V.int (cj ((h.getD 1 0:Nat):Int) 127)) [V.int 0,V.int 1]=decide (h.getD 1 0%128<2):=by
  rw[RN];show(((0:Int)==((h.getD 1 0%128:Nat):Int))||(((1:Int)==((h.getD 1 0%128:Nat):Int))||false))=_
  generalize h.getD 1 0%128=f;by_cases a:f=0
  .subst a;rfl
  by_cases b:f=1
  .subst b;rfl
  rw[decide_eq_false (),beq_eq_false_iff_ne.mpr (),beq_eq_false_iff_ne.mpr ()];rfl
 show nJ 2 (V.bl (tI (V.int (cj ((h.getD 1 0:Nat):Int) 127)) [V.int 0,V.int 1])) _ _ _;rw[eI];nomatch 38,128,rfl,λH1 p hp rD s1=>?_
 have s01:=Yb.trans s1;have UL:H p=none:=Yb.free hp;exists I,I;refine ifC ?_;obtain⟨v,ev,ev2,hv⟩:∃v:Nat,(if decide (h.getD 1 0%128<2)=true then V.int 0 else V.int 2)=V.int (v:Int)/\v=(if h.getD 1 0%128<2 then 0 else 2)/\v<256:=by
  by_cases z:h.getD 1 0%128<2
  .nomatch 0,by rw[iP (decide_eq_true z)];rfl,by rw[iP z],#[]
  .nomatch 2,by rw[iN (by rw[decide_eq_false z];decide)];rfl,by rw[iN z],#[]
 rw[ev];exists I,p,_,_,2,rfl,rfl,rD,(by unfold F5;rw[bA,bU];rfl);rw[qv];have l1:((cw [(0,[38,128])]).set 2 v).length=48:=by rw[br,bU]
 have s2:=a_.nQ s01 UL (.lst (nV ((cw [(0,[38,128])]).set 2 v)));nomatch I,I,I,I,ha,I,(fK.same fh s2).sq,λq3 Ht=>?_
 have e8:jv (nV h) (some 16) (some 20)=nV (aD h 16 4):=lH h 16 20 #[];rw[e8];have s3:=aS (a_.refl (upd H1 p (.lst (nV ((cw [(0,[38,128])]).set 2 v))))) Ht (.lst (nV (aD h 16 4)));have V2:q3≠p:=aL (ai ae Ht);have l4:=f_ hl (p:=16) (n:=4) #[];nomatch p,q3,_,aD h 16 4,16,rfl,s3 _ _ ae,fT.of ae,V2,by rw[l1,l4];decide,λH4 UM B4=>?_
 have l2:(put ((cw [(0,[38,128])]).set 2 v) 16 (aD h 16 4)).length=48:=by rw[iA (by rw[l1,l4];decide),l1]
 exists I,p,_,40,2,2,rfl,UM,by rw[l2];decide,#[]
 generalize Bl:put (put ((cw [(0,[38,128])]).set 2 v) 16 (aD h 16 4)) 40 (aY 2 2)=hb;have s5:a_ H (upd H4 p (.lst (nV hb))):=λc o hc=>by have V8:=ai hc UL;rw[aG V8];exact B4 _ _ (s3 _ _ (s2 _ _ hc)) V8
 obtain⟨dx,h1⟩:=R.tu;nomatch I,tr,dx,I,s5 _ _ h1,rfl,I,bQ _,λq6 G3=>?_
 have s6:=aS s5 G3 (.lst []);have t6:=aS (a_.refl (upd H4 p (.lst (nV hb)))) G3 (.lst []);have W:=SR.toSRel0.X5 kx;have ep:=Oc (s:=x) W.hs W.ds W.ct W.cm hl v;rw[Bl]at ep;have eo:(OD x h).1=(uY x [(0,[0x26,0x80,v]),(16,aD h 16 4),(40,aY 2 2)] []).1:=by unfold OD;rw[<-ev2]
 unfold kK;refine iI (b:=[]) R.sending s6 UL (t6 _ _ ae) (by rw[<-Bl];exact e9 l2 #[]) ?_ (.inl ae) (λz hz=>nomatch hz) #[] (aL (ai (s5 _ _ R.sn) G3)) (aL (ai ae G3)) (ep.trans eo.symm) (uB R k.bad λhle H' R' V9=>?_)
 .rw[<-Bl];refine(fU.put (λz hz=>?_) (oh.part _ _) _).put (dE _ _) _;rcases lQ hz with hz|rfl
  .have:fU (cw [(0,[38,128])]):=by unfold fU;decide
   exact this z hz
  .exact hv
 exists I,I;obtain⟨Rk,UA⟩:=R'.tu;obtain⟨yK,sI⟩:=R'.ss.at_;refine gM (λz=>?_) (λz=>?_)
 .have z:h.getD 1 0%128<2:=of_decide_eq_true z;rw[iP z]at k;have g2:H' A.f.aW=some (.ins C.Session yK (aV.fs A.S.s.counted)):=by rw[R.sa];exact sI
  exists I,tr,C.Turn,Rk,_,I,UA,T.cy,T.bX,A.f.eA,A.f.aW,yK,I,g2,rfl,A.f.aW,A.S.s.counted,yK,rfl,g2;obtain⟨R7,RO⟩:=R'.attr (dy:=yK) (s':={A.S.s.counted with closed:=true}) ⟨rfl,rfl,rfl,rfl,rfl⟩ ⟨R'.ss.oy,R'.ss.oz,R'.ss.pL⟩;rw[R.sa];exact k.ok hle _ bP _ R7 rfl rfl rfl rfl rfl rfl (V9.trans RO)
 .have z:¬h.getD 1 0%128<2:=of_decide_eq_false z;rw[iN z]at k;exact k.ok hle H' bP _ R' rfl rfl rfl rfl rfl ⟨mB,SR.counted⟩ V9
def iF:Option fS->V
 |none=>.eY
 |some S=>.ref S.a
structure j1(C:Cl)(H:Hp)(bP:aB->kT)(i:Nat)(tr:aB)(A:Act)(ss:List (Option fS)):Prop where
 act:hG C H bP i tr A
 sl:H A.f.bT=some (.lst (ss.map iF))
 RP:bP A.f.bT= .mC
 me:ss[i]? =some (some A.S)
 ln:A.S.s.line=i
 mC:∀j S,j≠i->ss[j]? =some (some S)->lj C H bP j S/\S.s.closed=false/\S.s.line=j
def Bo:Option fS->Option aJ->Prop
 |none,none=>True
 |some S,some x=>ji S S.held x
 |_,_=>False
structure ly(A:Act)(ss:List (Option fS))(i:Nat)(y:eC):Prop where
 disk:y.disk=bM A.wr
 len:y.lines.length=ss.length
 mC:∀j o x,j≠i->ss[j]? =some o->y.lines[j]? =some x->Bo o x
def mw(bP cQ:aB->kT)(H H':Hp):Prop:=∀c o,H c=some o->bP c= .mC->H' c=some o/\cQ c= .mC
def mw.trans(x:mw l l1 H H1)(y:mw l1 l2 H1 H2):mw l l2 H H2:=λc o h e=>y c o (x c o h e).1 (x c o h e).2
def mw.FD(x:mw l l1 H H1)(y:sJ l1 H1 H2):sJ l H H2:=λc o h e=>y c o (x c o h e).1 (x c o h e).2
def Keeps.q(x:Keeps i l l1 H H1):mw l l1 H H1:=λc o h e=>⟨(x c o h (.inl e)).1,(x c o h (.inl e)).2.trans e⟩
def mw.same(s:a_ H H1):mw l l H H1:=λc o h e=>⟨s c o h,e⟩
structure kG(C:Cl)(H:Hp)(Q:VK)(E:XK)(bP:aB->kT)(i:Nat)(tr:aB)(A:Act)(ss:List (Option fS))(buf out:List Nat)(y:eC):Prop where
 bad:A.f.most<A.sb.length+out.length->∀H',sJ bP H H'->E (.ref C.dF) none H'
 ok:A.sb.length+out.length<=A.f.most->∀H' cQ A' jC,j1 C H' cQ i tr A' jC->A'.f=A.f->A'.sb=A.sb++out->ly A' jC i y->A'.S.held=A.S.held->
  (match y.line i with|some x=>A'.S.s.closed=false/\ji A'.S buf x|none=>A'.S.s.closed=true)->mw bP cQ H H'->Q .eY H'
def lj.keeps(R:lj C H bP j S)(kp:∀c o,H c=some o->(∃k,bP c= .own j k)->H' c=some o/\cQ c=bP c)(kf:js H H'):lj C H' cQ j S:=by
 obtain⟨dx,h1⟩:=R.at_;nomatch⟨dx,(kp _ _ h1 ⟨_,R.la⟩).1⟩,(kp _ _ R.kZ ⟨_,R.oQ⟩).1,(kp _ _ R.lr ⟨_,R.lT⟩).1,(kp _ _ R.ij ⟨_,R.kF⟩).1,kf.gm R.uz,λt ht=>?_,R.nd,R.As,(kp _ _ h1 ⟨_,R.la⟩).2.trans R.la,(kp _ _ R.kZ ⟨_,R.oQ⟩).2.trans R.oQ,(kp _ _ R.lr ⟨_,R.lT⟩).2.trans R.lT,(kp _ _ R.ij ⟨_,R.kF⟩).2.trans R.kF,R.ok,R.sm,R.oy,R.oz,R.pL
 have q:=R.nW t ht;obtain⟨dt,h2⟩:=q.cm.at_;nomatch⟨⟨⟨dt,(kp _ _ h2 ⟨_,q.la⟩).1⟩,kf.gm q.cm.vd,kf.gm q.cm.oT,(kp _ _ q.cm.mF ⟨_,q.ld⟩).1,q.cm.ll,q.cm.lc⟩,(kp _ _ h2 ⟨_,q.la⟩).2.trans q.la,(kp _ _ q.cm.mF ⟨_,q.ld⟩).2.trans q.ld,q.ol,q.oc,q.og,q.tg,q.gs⟩,q.wr,q.rd,q.sz,q.gl,q.ll
def G4{ss:List (Option fS)}{i:Nat}{S S':fS}(h:ss[i]? =some (some S))(e:S'.a=S.a):(ss.set i (some S')).map iF=ss.map iF:=by
 apply fO;intro j;rw[bz,bz,bC];by_cases hj:i=j
 .subst hj;have hi:i<ss.length:=(aE.mp h).1;rw[iP rfl,iP hi,h];show some (V.ref S'.a)=some (V.ref S.a);rw[e]
 .rw[iN hj]
def j1.lift(W:j1 C H bP i tr A ss)(R':hG C H' cQ i tr A')(kp:Keeps i bP cQ H H')(kf:js H H')(ef:A'.f=A.f)(el:A'.S.s.line=A.S.s.line):j1 C H' cQ i tr A' (ss.set i (some A'.S)):=by
 have hi:i<ss.length:=(aE.mp W.me).1;have ea:A'.S.a=A.S.a:=by rw[<-R'.sa,<-W.act.sa,ef]
 have hs:=kp _ _ W.sl (.inl W.RP);nomatch R',by rw[ef,G4 W.me ea];exact hs.1,by rw[ef];exact hs.2.trans W.RP,by rw[bC];rw[iP rfl,iP hi],el.trans W.ln,λj S hj hS=>?_
 rw[bC,iN (aL hj)]at hS;obtain⟨R,c,l⟩:=W.mC j S hj hS;nomatch R.keeps (λc o hc⟨k,hk⟩=>kp c o hc (.inr ⟨j,k,hk,hj⟩)) kf,c,l
def ly.lift(R:ly A ss i y)(ed:bM A'.wr=d):ly A' (ss.set i (some A'.S)) i {y with disk:=d,lines:=y.lines.set i z}:=by
 nomatch ed.symm,by show(y.lines.set i z).length=_;rw[br,br];exact R.len,λj o x hj h1 h2=>?_
 rw[bC,iN (aL hj)]at h1;have h2:(y.lines.set i z)[j]? =some x:=h2;rw[bC,iN (aL hj)]at h2;exact R.mC j o x hj h1 h2
def C7{y:eC}{i:Nat}{z:Option aJ}{d:jR}(h:i<y.lines.length):sY {y with disk:=d,lines:=y.lines.set i z} i=z:=by show(y.lines.set i z).getD i none=z;rw[bK,bC,iP rfl,iP h];rfl
def kG.r(W:j1 C H bP i tr A ss)(SR:ly A ss i y) (k:kG C H Q E bP i tr A ss gi out {y with disk:=d,lines:=y.lines.set i z}):lU C H (λv H'=>js H H'->Q v H') E bP i tr A gi out z d where
 bad:=k.bad
 ok:=λh H' cQ A' R' ef es ed eh el m kp kf=>by
  have hi:i<y.lines.length:=by rw[SR.len];exact(aE.mp W.me).1
  refine k.ok h H' cQ A' _ (W.lift R' kp kf ef el) ef es (SR.lift ed) eh ?_ kp.q;rw[C7 hi];exact m
theorem j1.same(W:j1 C H bP i tr A ss)(s:a_ H H'):j1 C H' bP i tr A ss:=⟨W.act.same s,s _ _ W.sl,W.RP,W.me,W.ln,λj S hj hS=>⟨(W.mC j S hj hS).1.same s,(W.mC j S hj hS).2⟩⟩
theorem j1.MS(W:j1 C H bP i tr A ss)(h:∀c o,H c=some o->cQ c=bP c):j1 C H cQ i tr A ss:=⟨W.act.MS h,W.sl,(h _ _ W.sl).trans W.RP,W.me,W.ln,λj S hj hS=>⟨(W.mC j S hj hS).1.keeps (λc o hc _=>⟨hc,h c o hc⟩) (λ_ _ _ e=>e),(W.mC j S hj hS).2⟩⟩
def C8(S S':fS):Prop:=(S.s.stage=some 3/\∃p,S'={S with s:={S.s with cD:=p,anew:=true},ts:=[]})\/(S.s.stage≠some 3/\S'=S)
def G5:Option fS->Option fS->Prop
 |none,none=>True
 |some S,some S'=>C8 S S'
 |_,_=>False
inductive Es(C:Cl)(vs:List V)(H:Hp)(Q:VK)(kn:XK):Prop
 |mk(la:aB)(bP:aB->kT)(ss:List (Option fS))(_:vs=[.ref la])(_:H la=some (.lst (ss.map iF)))(_:bP la= .mC)(_:(∀j S,ss[j]? =some (some S)->lj C H bP j S))(_:∀(H':Hp)(cQ:aB->kT)(jC:List (Option fS)),jC.length=ss.length->(∀(j:Nat) o o',ss[j]? =some o->jC[j]? =some o'->G5 o o')->(∀j S,jC[j]? =some (some S)->lj C H' cQ j S)->(∀c o,H c=some o->(∀j,bP c≠ .own j .uq)->H' c=some o)->(∀c o,H c=some o->cQ c=bP c)->Q .eY H')
inductive aba(C:Cl)(H:Hp)(la:aB)(bP:aB->kT)(ss:List (Option fS))(i:Nat)(σ:L2.St)(H':Hp):Prop
 |mk(v1:Option V)(cQ:aB->kT)(jC:List (Option fS))(_:σ=[some (.ref la),v1])(_:jC.length=ss.length)(_:(∀(j:Nat) o o',ss[j]? =some o->jC[j]? =some o'->if j<i then G5 o o' else o'=o))(_:(∀j S,jC[j]? =some (some S)->lj C H' cQ j S))(_:(∀c o,H c=some o->(∀j,bP c≠ .own j .uq)->H' c=some o))(_:(∀c o,H c=some o->∃o',H' c=some o')/\(∀c o,H c=some o->cQ c=bP c))
def G6:T.xR.D P w aR 2 (Es C):=by
 refine T.xR.ok ?_;kd_p
 obtain⟨la,bP,ss,rfl,hla,hlo,hss,k⟩:=h;exists _,(aj (mY d9 rfl (kI b4) (Cc 1 nd) (aj (bH (nZ (i_ (xi cC)) (lF (dA (b_ (jh T) T.aF cC)))).pt (aa (bj (b_ (mT T) T.aF cC)) (aj (ck cC kP rfl))) aZ))));nomatch I,la,rfl,⟨_,fT.of hla⟩,ma (K:=K) (a:=la) (xs:=ss.map iF) (aba C H la bP ss) ⟨none,bP,ss,rfl,rfl,λj o o' h1 h2=>by rw[h1]at h2;rw[iN ()];exact(af h2).symm,hss,λc o hc _=>hc,λc o hc=>⟨o,hc⟩,λ_ _ _=>rfl⟩ (λi σ H' _⟨_,_,_,_,_,_,_,g,_⟩=>?_) ?_ ?_
 .exact fT.of (g _ _ hla λj e=>by rw[hlo]at e;cases e)
 .rintro i v σ H' hi ⟨v1,cQ,jC,rfl,hlen,OE,hR,y6,hth,Ta⟩;rw[bz]at hi;cases eo:ss[i]? with
  |none=>rw[eo]at hi;cases hi
  |some o=>
   rw[eo]at hi;obtain rfl:=(af hi).symm;have hi':i<ss.length:=(aE.mp eo).1;have eo':jC[i]? =some o:=by have h1:jC[i]? =some jC[i]:=aX ();have:=OE i o _ eo h1;rw[iN ()]at this;rw[h1,this]
   have yT:G5 o o->aba C H la bP ss (i+1) [some (V.ref la),some (iF o)] H':=λha=>by
    nomatch _,cQ,jC,rfl,hlen,λj o1 o1' h1 h2=>?_,hR,y6,hth,Ta
    by_cases hj:j=i
    .subst hj;rw[eo]at h1;rw[eo']at h2;obtain rfl:=af h1;obtain rfl:=af h2;rw[iP ()];exact ha
    .have:=OE j o1 o1' h1 h2;by_cases hj2:j<i
     .rw[iP hj2]at this;rw[iP ()];exact this
     .rw[iN hj2]at this;rw[iN ()];exact this
   cases o with
   |none=>
    nomatch I,I,gY ?_
    exact gY (yT trivial)
   |some S=>
    have R:=hR i S eo';obtain⟨dy,h1⟩:=R.at_;nomatch I,I,fI ?_
    exists I,S.a,dy,I,h1,rfl,S.a,I,⟨S.s,⟨dy,h1⟩,rfl⟩,I;refine gM (λq=>?_) (λq=>?_)
    .have q:S.s.stage=some 3:=of_decide_eq_true q;nomatch I,S.a,dy,I,h1,rfl,S.a,S.s,dy,rfl,h1,λp hp=>?_
     exists I,S.a,C.Session,dy,I,ae,T.aF,T.gR,aV.len _;rw[aV.K6,bS];have hap:S.a≠p:=ai h1 hp;generalize Pk:upd (upd H' p (.dK [])) S.a (.ins C.Session dy (aV.fs {S.s with cD:=p,anew:=true}))=H2;have k2:∀c o,H' c=some o->c≠S.a->H2 c=some o:=λc o hc n=>by rw[<-Pk,aG n,aG (ai hc hp)];exact hc
     let ks:aB->kT:=λc=>if c=p then .own i .tasks else cQ c;have tS:∀c o,H' c=some o->ks c=cQ c:=λc o hc=>by show(if c=p then _ else _)=_;rw[iN (ai hc hp)]
     have OF:js H' H2:=λc o u e=>k2 _ _ e (bV e h1 nofun);have UL:H p=none:=by
      cases e:H p with
      |none=>rfl
      |some o=>obtain⟨o',e'⟩:=hth p o e;rw[hp]at e';cases e'
     nomatch _,ks,jC.set i (some {S with s:={S.s with cD:=p,anew:=true},ts:=[]}),rfl,by rw[br];exact hlen,λj o1 o1' g1 g2=>?_,λj S1 g=>?_,λc o hc hn=>?_,λc o hc=>?_,λc o hc=>?_
     .rw[bC]at g2;by_cases hj:i=j
      .subst hj;rw[iP rfl,iP ()]at g2;rw[eo]at g1;obtain rfl:=af g1;obtain rfl:=af g2;rw[iP ()];exact .inl ⟨q,p,rfl⟩
      .rw[iN hj]at g2;have:=OE j o1 o1' g1 g2;by_cases hj2:j<i
       .rw[iP hj2]at this;rw[iP ()];exact this
       .rw[iN hj2]at this;rw[iN ()];exact this
     .rw[bC]at g;by_cases hj:i=j
      .subst hj;rw[iP rfl,iP ()]at g;obtain rfl:=af (af g);nomatch⟨dy,by rw[<-Pk];exact ae⟩,k2 _ _ R.kZ (bV R.kZ h1 nofun),k2 _ _ R.lr (bV R.lr h1 nofun),?_,OF.gm R.uz,(λt ht=>nomatch ht),nG,by show 0<=8;decide,(tS _ _ h1).trans R.la,(tS _ _ R.kZ).trans R.oQ,(tS _ _ R.lr).trans R.lT,?_,R.ok,R.sm,R.oy,R.oz,R.pL
       .show H2 p=some (.dK []);rw[<-Pk,aG (aL hap)];exact ae
       .show(if p=p then _ else _)=_;rw[iP rfl]
      .rw[iN hj]at g;refine(hR j S1 g).keeps (λc o hc⟨kk,hk⟩=>⟨k2 c o hc ?_,tS c o hc⟩) OF;exact c_ hk R.la (by intro z;injection z with z1;exact hj z1.symm)
     .refine k2 c o (y6 c o hc hn) λz=>hn i ?_;rw[<-Ta c o hc,z];exact R.la
     .obtain⟨o',e⟩:=hth c o hc;by_cases z:c=S.a
      .nomatch _,by rw[z,<-Pk];exact ae
      .nomatch o',k2 c o' e z
     .obtain⟨o',e⟩:=hth c o hc;exact(tS c o' e).trans (Ta c o hc)
    .have q:¬S.s.stage=some 3:=of_decide_eq_false q;exact yT (.inr ⟨q,rfl⟩)
 .rintro σ H' ⟨v1,cQ,jC,rfl,hlen,OE,hR,y6,hth,Ta⟩;rw[aK]at OE;refine k H' cQ jC hlen (λj o o' h1 h2=>?_) hR y6 Ta;have:=OE j o o' h1 h2;rw[iP (aE.mp h1).1]at this;exact this
def pN(x:aJ)(h:List Nat):Nat×aJ:=if h.getD 1 0%128=1 then(if(x.tasks.any λt=>t.itt==ax h 20 4)=true then(0,{x with tasks:=iz x.tasks (ax h 20 4)})else(1,x)) else if h.getD 1 0%128=2 then(0,{x with tasks:=[]})else if h.getD 1 0%128=5\/h.getD 1 0%128=6 then(0,jE x)else(5,x)
def UP(h:List Nat)(o o':Option fS):Prop:=if h.getD 1 0%128=5\/h.getD 1 0%128=6 then G5 o o' else o'=o
def FG(A:C8 S S')(R:ji S gi x):ji S' gi (jE x):=by
 rcases A with⟨h3,p,rfl⟩|⟨h3,rfl⟩
 .have e:x.stage=3:=by rw[R.stage,h3];rfl
  unfold jE;rw[iP e];nomatch⟨R.stage,R.Em,R.named,R.heads,R.datas,R.asks,R.with_,R.theirs,R.burst,R.first,R.stat,R.cmd,R.next,rfl⟩,To,R.rY
 .have e:x.stage≠3:=by
   rw[R.stage];cases hs:S'.s.stage with
   |none=>show 4≠3;decide
   |some n=>exact λz=>h3 (by rw[hs];exact congrArg some z)
  unfold jE;rw[iN e];exact R
def rZ(A:C8 S S'):S'.a=S.a/\S'.held=S.held/\S'.s.line=S.s.line/\S'.s.stage=S.s.stage/\S'.s.closed=S.s.closed/\S'.st=S.st:=by
 rcases A with⟨_,p,rfl⟩|⟨_,rfl⟩
 .nomatch rfl,rfl,rfl,rfl,rfl,rfl
 .nomatch rfl,rfl,rfl,rfl,rfl,rfl
inductive OG(C:Cl)(vs:List V)(H:Hp)(Q:VK)(kn:XK):Prop
 |mk(tr ha bP i A ss h x gi)(_:vs=[.ref tr,.ref ha])(_:j1 C H bP i tr A ss)(_:fK H ha (nV h))(_:h.length=48)(_:fU h)(_:ji A.S gi x)(_:∀H' cQ A' jC,j1 C H' cQ i tr A' jC->A'.f=A.f->A'.sb=A.sb->A'.wr=A.wr->A'.S.s.stage=A.S.s.stage->A'.S.s.closed=A.S.s.closed->A'.S.held=A.S.held->ji A'.S gi (pN x h).2->jC.length=ss.length->(∀(j:Nat) o o',j≠i->ss[j]? =some o->jC[j]? =some o'->UP h o o')->mw bP cQ H H'->Q (.int ((pN x h).1:Nat)) H')
def RQ:T.IF.D P w aR 3 (OG C):=by
 refine T.IF.ok ?_;kd_p
 obtain⟨tr,ha,bP,i,A,ss,h,x,gi,rfl,W,fh,hl,oh,SR,k⟩:=h;exists _,(aa (cJ 2 nd (bO jJ (fE cX cC au (λ_ _=>rfl)) au)) (aa (bH (bg fD fF au (bD _)) (aj (aP (aI (Ep T) (i5 (aT b4 rfl) (aI (dY T) (mh cC au au)))))) aZ) (aa (bH (bg fD fF au (bD _)) (aa (bj (b_ (mT T) T.aF (aT b4 rfl))) (aj (aP au))) aZ) (aa (bH (bg iq fF (rJ (i5 au au)) (by with_unfolding_all rfl)) (aa (bj (aI (G6 T).iZ (fN (aT b4 rfl)))) (aj (aP au))) aZ) (aj (aP au))))));have R:=W.act;obtain⟨dx,h1⟩:=R.tu;obtain⟨dy,sI⟩:=R.ss.at_;have m8:=R.sa;have h2:H A.f.aW=some (.ins C.Session dy A.S.s.fs):=by rw[m8];exact sI
 have hi:i<ss.length:=(aE.mp W.me).1;have one:∀(H':Hp)(cQ:aB->kT)(A':Act),hG C H' cQ i tr A'->A'.f=A.f->A'.sb=A.sb->A'.wr=A.wr->A'.S.s.stage=A.S.s.stage->A'.S.s.closed=A.S.s.closed->A'.S.held=A.S.held->A'.S.s.line=A.S.s.line->ji A'.S gi (pN x h).2->Keeps i bP cQ H H'->js H H'->¬(h.getD 1 0%128=5\/h.getD 1 0%128=6)->Q (.int ((pN x h).1:Nat)) H':=λH' cQ A' R' e1 e2 e3 e4 e5 e6 e7 G7 kp kf hn=>by refine k H' cQ A' _ (W.lift R' kp kf e1 e7) e1 e2 e3 e4 e5 e6 G7 (by rw[br]) (λj o o' hj g1 g2=>?_) kp.q;rw[bC,iN (aL hj)]at g2;rw[g1]at g2;unfold UP;rw[iN hn];exact(af g2).symm
 exists I,ha,_,J,fh.sq,cM (gv (i:=1) ()),J;show nJ 2 (V.int (cj ((h.getD 1 0:Nat):Int) 127)) _ _ _;rw[RN];generalize hf:h.getD 1 0%128=fn;exists I,rfl,I;refine gG (λq=>?_) (λq=>?_)
 .have q:V.int (fn:Int)=V.int 1:=q;have q1:fn=1:=by have:=V.int.inj q;lia
  nomatch I,tr,C.Turn,dx,_,I,h1,T.cy,T.bX,A.f.eA,I,ha,h,20,4,rfl,fh.sq,λH1 s1=>?_
  exists A.f.aW,A.S.s,dy,ax h 20 4,A.S.ts,rfl,s1 _ _ h2,s1 _ _ R.ss.ij;have R1:=R.same s1;have UQ:=FF SR (ax h 20 4);cases eu:kU A.S.ts (ax h 20 4)with
  |false=>
   rw[eu]at UQ;have eM:pN x h=(1,x):=by unfold pN;rw[hf,iP q1,UQ,iN #[]]
   rw[iN #[],iN #[]];have:=one H1 bP A R1 rfl rfl rfl rfl rfl rfl rfl (by rw[eM];exact SR) (Keeps.same s1) (λb o u e=>s1 _ _ e) (by rw[hf];lia);rw[eM]at this;exact this
  |true=>
   rw[eu]at UQ;have eM:pN x h=(0,{x with tasks:=iz x.tasks (ax h 20 4)}):=by unfold pN;rw[hf,iP q1,UQ,iP rfl]
   rw[iP rfl,iP rfl];have sub:(A.S.ts.filter λy=>y.f.tag !=ax h 20 4).Sublist A.S.ts:=SU;obtain⟨R2,kp2⟩:=R1.RI (ts':=A.S.ts.filter λy=>y.f.tag !=ax h 20 4) (λy hy=>R1.ss.nW y (sub.subset hy)) (R.ss.nd.sublist (sub.map _)) (cZ sub.length_le R.ss.As);have p:=SR.tasks.filter (λy=>y.itt !=ax h 20 4);rw[FT]at p;have OF:js H (upd H1 A.S.s.cD (.dK (cp (A.S.ts.filter λy=>y.f.tag !=ax h 20 4)))):=λb o u e=>by rw[aG (bV (s1 _ _ e) R1.ss.ij nofun)];exact s1 _ _ e
   have:=one _ bP _ R2 rfl rfl rfl rfl rfl rfl rfl (by rw[eM];nomatch⟨SR.stage,SR.Em,SR.named,SR.heads,SR.datas,SR.asks,SR.with_,SR.theirs,SR.burst,SR.first,SR.stat,SR.cmd,SR.next,SR.told⟩,p,SR.rY) ((Keeps.same s1).trans kp2) OF (by rw[hf];lia);rw[eM]at this;exact this
 have q:¬V.int (fn:Int)=V.int 1:=q;have n1:fn≠1:=λz=>q (by rw[z];rfl);exists I,rfl,I;refine gG (λq=>?_) (λq=>?_)
 .have q:V.int (fn:Int)=V.int 2:=q;have q1:fn=2:=by have:=V.int.inj q;lia
  have eM:pN x h=(0,{x with tasks:=[]}):=by unfold pN;rw[hf,iN n1,iP q1]
  nomatch I,tr,C.Turn,dx,_,I,h1,T.cy,T.bX,A.f.eA,A.f.aW,dy,I,h2,rfl,A.f.aW,A.S.s,dy,rfl,h2,λp hp=>?_
  let ks:aB->kT:=λc=>if c=p then .own i .tasks else bP c;have tS:∀c o,H c=some o->ks c=bP c:=λc o hc=>by show(if c=p then _ else _)=_;rw[iN (ai hc hp)]
  have k2:∀c o,H c=some o->c≠A.S.a->upd (upd H p (.dK [])) A.f.aW (.ins C.Session dy (aV.fs {A.S.s with cD:=p})) c=some o:=λc o hc n=>by rw[m8,aG n,aG (ai hc hp)];exact hc
  have OF:js H (upd (upd H p (.dK [])) A.f.aW (.ins C.Session dy (aV.fs {A.S.s with cD:=p}))):=λc o u e=>k2 _ _ e (bV e sI nofun);have hap:A.S.a≠p:=ai sI hp;have R2:hG C (upd (upd H p (.dK [])) A.f.aW (.ins C.Session dy (aV.fs {A.S.s with cD:=p}))) ks i tr {A with S:={A.S with s:={A.S.s with cD:=p},ts:=[]}}:=by
   obtain⟨dz,h3⟩:=R.dk.at_;nomatch⟨dx,k2 _ _ h1 (c_ R.FC R.ss.la nofun)⟩,(tS _ _ h1).trans R.FC,k2 _ _ R.sn (c_ R.uA R.ss.la nofun),(tS _ _ R.sn).trans R.uA,R.mo,R.le,⟨⟨dz,k2 _ _ h3 (c_ R.CW R.ss.la nofun)⟩,k2 _ _ R.dk.rh (c_ R.yL R.ss.la nofun),OF.gm R.dk.blank,λy hy=>⟨(R.dk.row y hy).1,(R.dk.row y hy).2.1,OF.gm (R.dk.row y hy).2.2⟩,R.dk.nd⟩,(tS _ _ h3).trans R.CW,(tS _ _ R.dk.rh).trans R.yL,R.od,?_,R.sa
   nomatch⟨dy,by rw[m8];exact ae⟩,k2 _ _ R.ss.kZ (bV R.ss.kZ sI nofun),k2 _ _ R.ss.lr (bV R.ss.lr sI nofun),?_,OF.gm R.ss.uz,(λt ht=>nomatch ht),nG,by show 0<=8;decide,(tS _ _ sI).trans R.ss.la,(tS _ _ R.ss.kZ).trans R.ss.oQ,(tS _ _ R.ss.lr).trans R.ss.lT,?_,R.ss.ok,R.ss.sm,R.ss.oy,R.ss.oz,R.ss.pL
   .show upd (upd H p (.dK [])) A.f.aW _ p=some (.dK []);rw[m8,aG (aL hap)];exact ae
   .show(if p=p then _ else _)=_;rw[iP rfl]
  have kp2:Keeps i bP ks H (upd (upd H p (.dK [])) A.f.aW (.ins C.Session dy (aV.fs {A.S.s with cD:=p}))):=λc o hc Ta=>⟨k2 c o hc (by
   rcases Ta with e|⟨j,kk,e,hj⟩
   .exact c_ e R.ss.la nofun
   .exact c_ e R.ss.la (by intro z;injection z with z1;exact hj z1)),tS c o hc⟩
  have:=one _ ks _ R2 rfl rfl rfl rfl rfl rfl rfl (by rw[eM];nomatch⟨SR.stage,SR.Em,SR.named,SR.heads,SR.datas,SR.asks,SR.with_,SR.theirs,SR.burst,SR.first,SR.stat,SR.cmd,SR.next,SR.told⟩,To,SR.rY) kp2 OF (by rw[hf];lia);rw[eM]at this;exact this
 have q:¬V.int (fn:Int)=V.int 2:=q;have n2:fn≠2:=λz=>q (by rw[z];rfl);nomatch I,(by show 2<=aH;decide),λtp J8=>?_
 have sT:=aS (a_.refl H) J8 (.tup [V.int 5,V.int 6]);exists tp,I,.inr (l_.of ae),rfl,rfl,I;have eI:tI (V.int (fn:Int)) [V.int 5,V.int 6]=decide (fn=5\/fn=6):=by
  show(((5:Int)==(fn:Int))||(((6:Int)==(fn:Int))||false))=_
  by_cases a:fn=5
  .subst a;rfl
  by_cases b:fn=6
  .subst b;rfl
  rw[decide_eq_false (),beq_eq_false_iff_ne.mpr (),beq_eq_false_iff_ne.mpr ()];rfl
 have W1:=W.same sT;refine gM (λq=>?_) (λq=>?_)
 .have q:tI (V.int (fn:Int)) [V.int 5,V.int 6]=true:=q;have q1:fn=5\/fn=6:=by rw[eI]at q;exact of_decide_eq_true q
  have eM:pN x h=(0,jE x):=by unfold pN;rw[hf,iN n1,iN n2,iP q1]
  nomatch I,tr,C.Turn,dx,_,I,sT _ _ h1,T.cy,T.mZ,A.f.jq,A.f.bT,bP,ss,rfl,W1.sl,W.RP,λj S hS=>?_,λH' cQ jC hlen hag WZ y6 Ta kf=>?_
  .by_cases hj:j=i
   .subst hj;rw[W.me]at hS;obtain rfl:=af (af hS);exact W1.act.ss
   .exact(W1.mC j S hj hS).1
  .obtain⟨o',u9⟩:∃o',jC[i]? =some o':=⟨jC[i]'(),aX ()⟩;have WX:=hag i _ _ W.me u9;cases o' with
   |none=>exact WX.elim
   |some S'=>
    have WX:C8 A.S S':=WX;obtain⟨a1,a2,a3,a4,a5,a6⟩:=rZ WX;have Zm:∀c o,upd H tp (.tup [V.int 5,V.int 6]) c=some o->(bP c= .mC\/bP c= .eZ\/bP c= .rh)->H' c=some o/\cQ c=bP c:=λc o hc e=>⟨y6 c o hc λj z=>by rcases e with e|e|e<;>(rw[e]at z;cases z),Ta c o hc⟩
    have R1:=W1.act;obtain⟨dz,h3⟩:=R1.dk.at_;have g1:=Zm _ _ (sT _ _ h1) (.inl R.FC);have g2:=Zm _ _ R1.sn (.inr (.inl R.uA));have g3:=Zm _ _ h3 (.inl R.CW);have g4:=Zm _ _ R1.dk.rh (.inr (.inr R.yL));have g5:=Zm _ _ W1.sl (.inl W.RP);have R':hG C H' cQ i tr {A with S:=S'}:=⟨⟨dx,g1.1⟩,g1.2.trans R.FC,g2.1,g2.2.trans R.uA,R.mo,R.le,⟨⟨dz,g3.1⟩,g4.1,kf.gm R1.dk.blank,λy hy=>⟨(R1.dk.row y hy).1,(R1.dk.row y hy).2.1,kf.gm (R1.dk.row y hy).2.2⟩,R1.dk.nd⟩,g3.2.trans R.CW,g4.2.trans R.yL,R.od,WZ i S' u9,by rw[a1];exact R.sa⟩;have emap:jC.map iF=ss.map iF:=by
     apply fO;intro j;rw[bz,bz];by_cases hj:j<ss.length
     .have e1:ss[j]? =some ss[j]:=aX hj;have e2:jC[j]? =some (jC[j]'()):=aX ();have:=hag j _ _ e1 e2;rw[e1,e2];generalize ss[j]=o1 at this;generalize jC[j]'()=o2 at this;cases o1 with
      |none=>cases o2 with
       |none=>rfl
       |some _=>exact this.elim
      |some S1=>cases o2 with
       |none=>exact this.elim
       |some S2=>show some (V.ref S2.a)=some (V.ref S1.a);rw[(rZ this).1]
     .rw[gz (),gz ()]
    have W':j1 C H' cQ i tr {A with S:=S'} jC:=by
     nomatch R',by rw[emap];exact g5.1,g5.2.trans W.RP,u9,a3.trans W.ln,λj S2 hj hS2=>⟨WZ j S2 hS2,?_⟩
     have hj':j<ss.length:=by rw[<-hlen];exact(aE.mp hS2).1
     have e1:ss[j]? =some ss[j]:=aX hj';have:=hag j _ _ e1 hS2;cases e:ss[j]with
     |none=>rw[e]at this;exact this.elim
     |some S1=>rw[e]at this e1;obtain⟨_,_,b3,_,b5,_⟩:=rZ this;obtain⟨_,c,l⟩:=W.mC j S1 hj e1;nomatch b5.trans c,b3.trans l
    have:=k H' cQ _ jC W' rfl rfl rfl a4 a5 a2 (by rw[eM];exact FG WX SR) hlen (λj o1 o2 _ e1 e2=>by unfold UP;rw[hf,iP q1];exact hag j o1 o2 e1 e2) (λc o hc e=>by have:=Zm c o (sT c o hc) (.inl e);nomatch this.1,this.2.trans e);rw[eM]at this;exact this
 .have q:tI (V.int (fn:Int)) [V.int 5,V.int 6]=false:=q;have q1:¬(fn=5\/fn=6):=by rw[eI]at q;exact of_decide_eq_false q
  have eM:pN x h=(5,x):=by unfold pN;rw[hf,iN n1,iN n2,iN q1]
  have:=one _ bP A W1.act rfl rfl rfl rfl rfl rfl rfl (by rw[eM];exact SR) (Keeps.same sT) (λb o u e=>sT _ _ e) (by rw[hf];exact q1);rw[eM]at this;exact this
def AQ(h:List Nat)(l:List (Option aJ)):List (Option aJ):=if h.getD 1 0%128=5\/h.getD 1 0%128=6 then l.map λy=>y.map jE else l
def Et(x:aJ)(h:List Nat):List Nat×aJ:=uY (pN x h).2 [(0,[0x22,0x80,(pN x h).1]),(16,aD h 16 4)] []
inductive C9(C:Cl)(vs:List V)(H:Hp)(Q:VK)(E:XK):Prop
 |mk(tr ha bP i A ss h x y)(_:vs=[.ref tr,.ref ha])(_:j1 C H bP i tr A ss)(_:ly A ss i y)(_:fK H ha (nV h))(_:h.length=48)(_:fU h)(_:A.S.s.stage=some 3)(_:A.S.s.closed=false)(_:ji A.S x.buf x)(_:kG C H Q E bP i tr A ss x.buf (Et x h).1 {y with lines:=(AQ h y.lines).set i (some (Et x h).2)})
def Yc(x:aJ)(h:List Nat):(pN x h).1<256:=by
 unfold pN;split
 .split
  .show 0<256;decide
  .show 1<256;decide
 .split
  .show 0<256;decide
  .split
   .show 0<256;decide
   .show 5<256;decide
def Jr(h:List Nat)(l:List (Option aJ)):(AQ h l).length=l.length:=by
 unfold AQ;split
 .rw[aK]
 .rfl
def Eu:T.vM.E P w aR C.dF 6 (C9 C):=by
 refine T.vM.wY ?_;kd_p
 obtain⟨tr,ha,bP,i,A,ss,h,x,y,rfl,W,YR,fh,hl,oh,kx,mB,SR,k⟩:=h;exists _,(aa (cJ 2 nd (aI (jf T) (i5 (aU T.AD) (aU T.Be)))) (aa (j8 (aI (RQ T).iZ (i5 b4 cC)) (j7 fF au set_list)) (aa (bj (aI (kM T) (mh fF au (ej fV cC (cS au) (cS au))))) (aj (bj (fG (dO T).iZ T.cy b4 (i5 fF (dN jk))))))));nomatch 34,128,rfl,λH1 p hp rD s1=>?_
 let pM:aB->kT:=λc=>if c=p then .mC else bP c;have J7:∀c o,H c=some o->pM c=bP c:=λc o hc=>by show(if c=p then _ else _)=_;rw[iN (ai hc hp)]
 have W1:j1 C H1 pM i tr A ss:=(W.MS J7).same s1;have kq1:mw bP pM H H1:=λc o hc e=>⟨s1 c o hc,(J7 c o hc).trans e⟩;nomatch I,I,tr,ha,pM,i,A,ss,h,x,x.buf,rfl,W1,fK.same fh s1,hl,oh,SR,λH2 ks A2 J9 W2 f1 f2 f3 f4 f5 f6 SR2 hlen aeA kq2 OF=>?_
 have gp:=kq2 p _ rD (by show(if p=p then _ else _)=_;rw[iP rfl]);have fh2:=OF.gm (fK.same fh s1);generalize hv:(pN x h).1=v;have hv2:v<256:=by rw[<-hv];exact Yc x h
 exists I,p,_,_,2,rfl,rfl,gp.1,(by unfold F5;rw[bA,bU];rfl);rw[qv];have l1:((cw [(0,[34,128])]).set 2 v).length=48:=by rw[br,bU]
 have abd:=kq1.trans kq2;have R2:=W2.act;have e8:jv (nV h) (some 16) (some 20)=nV (aD h 16 4):=lH h 16 20 #[];have l4:=f_ hl (p:=16) (n:=4) #[];have fh3:fK (upd H2 p (.lst (nV ((cw [(0,[34,128])]).set 2 v)))) ha (nV h):=by obtain⟨o,e⟩:=fh2;nomatch o,by rw[aG (bV e gp.1 nofun)];exact e
 nomatch I,I,I,I,ha,I,fh3.sq,λq3 Ht=>?_
 rw[e8];have s3:=aS (a_.refl (upd H2 p (.lst (nV ((cw [(0,[34,128])]).set 2 v))))) Ht (.lst (nV (aD h 16 4)));have V2:q3≠p:=aL (ai ae Ht);nomatch p,q3,_,aD h 16 4,16,rfl,s3 _ _ ae,fT.of ae,V2,by rw[l1,l4];decide,λH4 UM B4=>?_
 generalize Bl:put ((cw [(0,[34,128])]).set 2 v) 16 (aD h 16 4)=hb at UM;have lhb:hb.length=48:=by rw[<-Bl,iA (by rw[l1,l4];decide),l1]
 let Hm:Hp:=λc=>if c=p then none else H4 c;have hmp:Hm p=none:=by show(if p=p then _ else _)=_;rw[iP rfl]
 have hm:a_ Hm H4:=λc o hc=>by
  have hc:(if c=p then none else H4 c)=some o:=hc;by_cases z:c=p
  .rw[iP z]at hc;cases hc
  .rw[iN z]at hc;exact hc
 have k4:∀c o,H2 c=some o->c≠p->Hm c=some o:=λc o hc n=>by show(if c=p then none else H4 c)=some o;rw[iN n];exact B4 c o (s3 c o (by rw[aG n];exact hc)) n
 have B24:gH [p] H2 Hm:=λc o hc nc=>k4 c o hc λz=>nc (by rw[z];simp);have kf4:js H2 Hm:=B24.iZ λa ha o u e=>by rw[aO.mp ha,gp.1]at e;cases e
 have np:∀c x',ks c=x'->x'≠ .mC->c≠p:=λc x' e n z=>n (by rw[<-e,z];exact gp.2);have Zn:∀c o,H c=some o->c≠p:=λc o hc=>ai hc hp;obtain⟨dx,h1⟩:=W.act.tu;obtain⟨Ux,XO⟩:=R2.tu;have aeC:tr≠p:=Zn _ _ h1;obtain⟨dz,h3⟩:=W.act.dk.at_;have aeD:A.f.disk≠p:=Zn _ _ h3;have R4:hG C Hm ks i tr A2:=by
  nomatch⟨Ux,k4 _ _ XO aeC⟩,R2.FC,k4 _ _ R2.sn (np _ _ R2.uA nofun),R2.uA,R2.mo,R2.le,R2.dk.pD B24 kf4 (by rw[aO,f1];exact aeD) (by rw[aO];exact np _ _ R2.yL nofun),R2.CW,R2.yL,R2.od,?_,R2.sa
  exact R2.ss.keeps (λc o hc⟨kk,e⟩=>⟨k4 c o hc (np _ _ e nofun),rfl⟩) kf4
 have W4:j1 C Hm ks i tr A2 J9:=by
  nomatch R4,k4 _ _ W2.sl (by rw[f1];exact Zn _ _ W.sl),W2.RP,W2.me,W2.ln,λj S hj hS=>⟨?_,(W2.mC j S hj hS).2⟩
  exact(W2.mC j S hj hS).1.keeps (λc o hc⟨kk,e⟩=>⟨k4 c o hc (np _ _ e nofun),rfl⟩) kf4
 have kq4:mw bP ks H Hm:=λc o hc e=>⟨k4 c o (abd c o hc e).1 (Zn c o hc),(abd c o hc e).2⟩;obtain⟨dx4,h14⟩:=R4.tu;nomatch I,tr,dx4,I,hm _ _ h14,rfl,I,bQ _,λq6 G3=>?_
 have t6:=aS (a_.refl H4) G3 (.lst []);have s6:=aS hm G3 (.lst []);have aeE:A2.S.s.stage=some 3:=f4.trans kx;have Wr:=SR2.toSRel0.X5 aeE;have ep:=Ob (s:=(pN x h).2) Wr.hs Wr.ds Wr.ct Wr.cm hl v;rw[Bl]at ep;have eo:(Et x h).1=(uY (pN x h).2 [(0,[0x22,0x80,v]),(16,aD h 16 4)] []).1:=by unfold Et;rw[hv]
 have ohb:fU hb:=by
  rw[<-Bl];refine fU.put (λz hz=>?_) (oh.part _ _) _;rcases lQ hz with hz|rfl
  .have:fU (cw [(0,[34,128])]):=by unfold fU;decide
   exact this z hz
  .exact hv2
 unfold kK;refine iI (b:=[]) R4.sending s6 hmp (t6 _ _ UM) lhb ohb (.inl ae) (λz hz=>nomatch hz) #[] (aL (ai (hm _ _ R4.sn) G3)) (aL (ai UM G3)) (ep.trans eo.symm) (uB R4 (λAF H' ko=>k.bad (by rw[f1,f2]at AF;exact AF) H' (kq4.FD ko)) λhle H' R' kp kf'=>?_);have kf:js Hm H':=λb o u e=>kf' b o u (s6 _ _ e);have W':=W4.lift R' kp kf rfl rfl;have hi:i<y.lines.length:=by rw[YR.len];exact(aE.mp W.me).1
 refine k.ok (by rw[f1,f2]at hle;exact hle) H' ks _ _ W' f1 (by show A2.sb++_=_;rw[f2]) ⟨?_,?_,λj o z hj g1 g2=>?_⟩ f6 ?_ (kq4.trans kp.q)
 .show y.disk=bM A2.wr;rw[f3];exact YR.disk
 .show((AQ h y.lines).set i _).length=_;rw[br,br,Jr,hlen];exact YR.len
 .rw[bC,iN (aL hj)]at g1;have g2:((AQ h y.lines).set i (some (Et x h).2))[j]? =some z:=g2;rw[bC,iN (aL hj)]at g2;have hjl:j<ss.length:=by rw[<-hlen];exact(aE.mp g1).1
  have e1:ss[j]? =some ss[j]:=aX hjl;have hO:=aeA j _ _ hj e1 g1;unfold UP at hO;unfold AQ at g2;by_cases hc:h.getD 1 0%128=5\/h.getD 1 0%128=6
  .rw[iP hc]at hO g2;rw[bz]at g2;cases ey:y.lines[j]? with
   |none=>rw[ey]at g2;cases g2
   |some zo=>
    rw[ey]at g2;obtain rfl:=af g2;have hL:=YR.mC j _ _ hj e1 ey;generalize ss[j]=o1 at hO hL;cases o1 with
    |none=>cases o with
     |some _=>exact hO.elim
     |none=>cases zo with
      |none=>trivial
      |some _=>exact hL.elim
    |some S1=>cases o with
     |none=>exact hO.elim
     |some S2=>cases zo with
      |none=>exact hL.elim
      |some z1=>have hO:C8 S1 S2:=hO;show ji S2 S2.held (jE z1);rw[(rZ hO).2.1];exact FG hO hL
  .rw[iN hc]at hO g2;rw[hO];exact YR.mC j _ _ hj e1 g2
 .have eL:sY {y with lines:=(AQ h y.lines).set i (some (Et x h).2)} i=some (Et x h).2:=by show((AQ h y.lines).set i _).getD i none=_;rw[bK,bC,iP rfl,iP (by rw[Jr];exact hi)];rfl
  rw[eL];nomatch f5.trans mB,SR2.counted
def kG.from(k:kG C H Q E bP i tr A ss gi out y)(kq:mw bP pM H H1)(ef:A1.f=A.f)(es:A1.sb=A.sb)(eh:A1.S.held=A.S.held):kG C H1 Q E pM i tr A1 ss1 gi out y where
 bad:=λh H' ko=>k.bad (by rw[ef,es]at h;exact h) H' (kq.FD ko)
 ok:=λh H' cQ A' jC W' e1 e2 e3 e4 m kq'=>k.ok (by rw[ef,es]at h;exact h) H' cQ A' jC W' (e1.trans ef) (by rw[e2,es]) e3 (e4.trans eh) m (kq.trans kq')
def kG.q(k:kG C H Q E bP i tr A ss gi out y):kG C H (λ_ H'=>Q .eY H') E bP i tr A ss gi out y:=⟨k.bad,k.ok⟩
def kG.none(k:kG C H Q E bP i tr A ss gi [] {y with disk:=y.disk,lines:=y.lines.set i (some x)})(W1:j1 C H1 pM i tr A1 ss1)(YR:ly A1 ss1 i y)(ef:A1.f=A.f)(es:A1.sb=A.sb)(eh:A1.S.held=A.S.held)(mB:A1.S.s.closed=false)(SR:ji A1.S gi x)(kq:mw bP pM H H1):Q .eY H1:=by
 have hi:i<y.lines.length:=by rw[YR.len];exact(aE.mp W1.me).1
 refine k.ok (by have:=W1.act.le;rw[ef,es]at this;exact this) H1 pM A1 ss1 W1 ef (by rw[es];simp) ⟨YR.disk,by show(y.lines.set i _).length=_;rw[br];exact YR.len,λj o z hj h1 h2=>?_⟩ eh ?_ kq
 .have h2:(y.lines.set i (some x))[j]? =some z:=h2;rw[bC,iN (aL hj)]at h2;exact YR.mC j o z hj h1 h2
 .have eL:sY {y with disk:=y.disk,lines:=y.lines.set i (some x)} i=some x:=C7 hi;rw[eL];nomatch mB,SR
def hG.RT(R:hG C H bP i tr A)(se:qw C H' A.S.a s')(B:gU A.S.a H H')(ad:GW A.S.s s')(nu:Nums s'): hG C H' bP i tr {A with S:={A.S with s:=s'}}/\Keeps i bP bP H H'/\js H H':=by
 obtain⟨dz,h2⟩:=R.ss.at_;have B1:gH [A.S.a] H H':=λc o hc nc=>B c o hc λz=>nc (by rw[z];simp);have kf:=B1.iZ λa ha o u e=>by rw[aO.mp ha,h2]at e;cases e
 have q:=R.step (wr':=A.wr) (CH:=A.sb) (B1.mono λa ha=>by rw[aO.mp ha];simp) (B1 _ _ R.sn (by rw[aO];exact c_ R.uA R.ss.la nofun)) se ad nu R.le (R.dk.pD B1 kf (by rw[aO];exact c_ R.CW R.ss.la nofun) (by rw[aO];exact c_ R.yL R.ss.la nofun)) R.od;nomatch q.1,q.2,kf
def kH(x:aJ)(h:List Nat):aJ:=if decide (64<=h.getD 0 0)=true then x else{x with cmd:=(x.cmd+1)%xd}
section
variable{y:eC}{i:Nat}{x:aJ}{h b:List Nat}
def Lu(e:h.getD 0 0%64=5):gK y i x h b=({y with disk:=(wI y.disk x h b).2.2,lines:=y.lines.set i (wI y.disk x h b).2.1},(wI y.disk x h b).1):=by unfold gK wI;simp only[e,if_true];cases DP y.disk x h b<;>rfl
def zB(e:h.getD 0 0%64=0\/h.getD 0 0%64=1\/h.getD 0 0%64=2\/h.getD 0 0%64=6)(hp:decide (64<=h.getD 0 0)=false/\ax h 24 4≠x.cmd):gK y i x h b=({y with disk:=y.disk,lines:=y.lines.set i (some x)},[]):=by unfold gK;rw[iN (),iP e,iP hp]
def Lv(e:h.getD 0 0%64=0)(hp:¬(decide (64<=h.getD 0 0)=false/\ax h 24 4≠x.cmd)):gK y i x h b=({y with disk:=y.disk,lines:=y.lines.set i (some (yh (kH x h) h b).2)},(yh (kH x h) h b).1):=by unfold gK;rw[iN (),iP (.inl e),iN hp];show(if h.getD 0 0%64=0 then _ else _)=_;rw[iP e];unfold yh kH;split<;>rfl
def Lw(e:h.getD 0 0%64=1)(hp:¬(decide (64<=h.getD 0 0)=false/\ax h 24 4≠x.cmd)):gK y i x h b=({y with disk:=(lL y.disk (kH x h) h b).disk,lines:=y.lines.set i (some (lL y.disk (kH x h) h b).s)},(lL y.disk (kH x h) h b).out):=by unfold gK;rw[iN (),iP (.inr (.inl e)),iN hp];show(if h.getD 0 0%64=0 then _ else if h.getD 0 0%64=1 then _ else _)=_;rw[iN (),iP e];rfl
def Lx(e:h.getD 0 0%64=2)(hp:¬(decide (64<=h.getD 0 0)=false/\ax h 24 4≠x.cmd)):gK y i x h b=({y with lines:=(AQ h y.lines).set i (some (Et (kH x h) h).2)},(Et (kH x h) h).1):=by
 unfold gK;rw[iN (),iP (.inr (.inr (.inl e))),iN hp];show(if h.getD 0 0%64=0 then _ else if h.getD 0 0%64=1 then _ else if h.getD 0 0%64=2 then _ else _)=_;rw[iN (),iN (),iP e];have en:(if decide (64<=h.getD 0 0)=true then x else{x with cmd:=(x.cmd+1)%xd})=kH x h:=rfl;rw[en];unfold Et pN AQ;generalize h.getD 1 0%128=f;show(if f=1 then _ else if f=2 then _ else if f=5\/f=6 then _ else _)=_;by_cases f1:f=1
 .subst f1;have hL:(if(1:Nat)=5\/(1:Nat)=6 then y.lines.map λy=>y.map jE else y.lines)=y.lines:=iN #[];rw[iP rfl,iP rfl,hL];split<;>rfl
 .rw[iN f1,iN f1];by_cases f2:f=2
  .subst f2;rw[iP rfl,iP rfl,iN #[]]
  .rw[iN f2,iN f2];by_cases f5:f=5\/f=6
   .rw[iP f5,iP f5,iP f5]
   .rw[iN f5,iN f5,iN f5]
def Ly(e:h.getD 0 0%64=6)(hp:¬(decide (64<=h.getD 0 0)=false/\ax h 24 4≠x.cmd)):gK y i x h b=({y with disk:=y.disk,lines:=y.lines.set i (if h.getD 1 0%128<2 then none else some (OD (kH x h) h).2)},(OD (kH x h) h).1):=by unfold gK;rw[iN (),iP (.inr (.inr (.inr e))),iN hp];show(if h.getD 0 0%64=0 then _ else if h.getD 0 0%64=1 then _ else if h.getD 0 0%64=2 then _ else _)=_;rw[iN (),iN (),iN ()];rfl
def Lz(e:¬(h.getD 0 0%64=0\/h.getD 0 0%64=1\/h.getD 0 0%64=2\/h.getD 0 0%64=6))(e5:h.getD 0 0%64≠5):gK y i x h b=({y with disk:=y.disk,lines:=y.lines.set i (some (nF x h 5).2)},(nF x h 5).1):=by unfold gK;rw[iN e5,iN e]
end
inductive G8(C:Cl)(vs:List V)(H:Hp)(Q:VK)(E:XK):Prop
 |mk(tr ha da bP i A ss h b x y)(_:vs=[.ref tr,.ref ha,.ref da])(_:j1 C H bP i tr A ss)(_:ly A ss i y)(_:fK H ha (nV h))(_:fK H da (nV b))(_:h.length=48)(_:fU h)(_:h.getD 0 0<128)(_:fU b)(_:b.length<=8192)(_:A.S.s.stage=some 3)(_:A.S.s.closed=false)(_:ji A.S x.buf x)(_:kG C H Q E bP i tr A ss x.buf (gK y i x h b).2 (gK y i x h b).1)
def RU(h:m<128):decide (64<=m)=bit m 6:=by
 unfold bit;by_cases q:64<=m
 .rw[decide_eq_true q];have:m/2^6%2=1:=by show m/64%2=1;lia
  rw[this];rfl
 .rw[decide_eq_false q];have:m/2^6%2=0:=by show m/64%2=0;lia
  rw[this];rfl
def Js:T.Ac.E P w aR C.dF 13 (G8 C):=by
 refine T.Ac.wY ?_;kd_p
 obtain⟨tr,ha,da,bP,i,A,ss,h,b,x,y,rfl,W,YR,fh,fb,hl,oh,Yd,ob,GD,kx,mB,SR,k⟩:=h;exists _,(aa (cJ 3 nd (bO jJ (fE cX cC au (λ_ _=>rfl)) au)) (aa (bH (nZ (bg iq gQ (qr T.KW) (by with_unfolding_all rfl)) (lF (iH (dA (aI (OC T) (i5 (aT b4 rfl) cC)))))).pt (aj A7) aZ) (aj (bH (bg fD gQ (aU T.Xu) (bD _)) (aj (bj (aI (Jq T).iZ (mh b4 cC fF)))) (aj (bH (bg fD gQ (aU T.NW) (bD _)) (aj (bj (aI (C4 T).iZ (mh b4 cC fF)))) (aj (bH (bg fD gQ (aU T.QR) (bD _)) (aj (bj (aI (Eu T) (i5 b4 cC)))) (aj (bH (bg fD gQ (aU T.QS) (bD _)) (aj (bj (aI (Er T).iZ (i5 b4 cC)))) (aj (bH (bg fD gQ (aU T.KU) (bD _)) (aj (bj (aI (Jo T).iZ (mh b4 cC fF)))) (aj (bj (aI (Jn T).iZ (mh b4 cC (aU T.zf)))))))))))))))));have R:=W.act;obtain⟨dx,h1⟩:=R.tu;obtain⟨dy,sI⟩:=R.ss.at_;have m8:=R.sa;have h2:H A.f.aW=some (.ins C.Session dy A.S.s.fs):=by rw[m8];exact sI
 have b6:=RU Yd;have Jt:=YR.disk;exists I,ha,_,J,fh.sq,cM (gv (i:=0) ()),J;show nJ 3 (V.int (cj ((h.getD 0 0:Nat):Int) 63)) _ _ _;rw[aa_];generalize Pf:h.getD 0 0%64=op;nomatch I,λta yM=>⟨ta,_,rfl,.inr yM,rfl,rfl,_,rfl,?_⟩
 have eI:tI (V.int (op:Int)) [V.int 0,V.int 1,V.int 2,V.int 6]=decide (op=0\/op=1\/op=2\/op=6):=by
  show(((0:Int)==(op:Int))||(((1:Int)==(op:Int))||(((2:Int)==(op:Int))||(((6:Int)==(op:Int))||false))))=_
  by_cases a:op=0
  .subst a;rfl
  by_cases b:op=1
  .subst b;rfl
  by_cases c:op=2
  .subst c;rfl
  by_cases d:op=6
  .subst d;rfl
  rw[decide_eq_false (),beq_eq_false_iff_ne.mpr (),beq_eq_false_iff_ne.mpr (),beq_eq_false_iff_ne.mpr (),beq_eq_false_iff_ne.mpr ()];rfl
 have eqI:∀{n:Nat},V.int (op:Int)=V.int (n:Int)->op=n:=λq=>by have:=V.int.inj q;lia
 refine gM (λq=>?_) (λq=>?_)
 .have q:tI (V.int (op:Int)) [V.int 0,V.int 1,V.int 2,V.int 6]=true:=q;have q1:op=0\/op=1\/op=2\/op=6:=by rw[eI]at q;exact of_decide_eq_true q
  nomatch I,tr,C.Turn,dx,_,I,h1,T.cy,T.bX,A.f.eA,I,A.f.aW,ha,A.S.s,dy,h,rfl,h2,fh,hl,λH1 DO B1=>⟨_,rfl,?_⟩
  rw[m8]at DO B1;have GZ:ia h A.S.s.cmd<4294967296:=by
   unfold ia;split
   .exact R.ss.oz
   .split
    .exact lC _ #[]
    .exact R.ss.oz
  obtain⟨R1,Lp,Zo⟩:=R.RT (s':={A.S.s with cmd:=ia h A.S.s.cmd}) ⟨dy,DO⟩ B1 ⟨rfl,rfl,rfl,rfl,rfl⟩ ⟨R.ss.oy,GZ,R.ss.pL⟩;have W1:=W.lift R1 Lp Zo rfl rfl;have Ye:ly {A with S:={A.S with s:={A.S.s with cmd:=ia h A.S.s.cmd}}} (ss.set i (some {A.S with s:={A.S.s with cmd:=ia h A.S.s.cmd}})) i y:=⟨YR.disk,by rw[br];exact YR.len,λj o z hj g1 g2=>by rw[bC,iN (aL hj)]at g1;exact YR.mC j o z hj g1 g2⟩;have RF:=Zo.gm fh;have fb1:=Zo.gm fb;refine gM (λr=>?_) (λr=>?_)
  .have r:oA h A.S.s.cmd=false:=by simpa using r
   unfold oA at r;rw[iD]at r;have r2:ax h 24 4≠A.S.s.cmd:=of_decide_eq_false r.2;have ec:ia h A.S.s.cmd=A.S.s.cmd:=by unfold ia;rw[iN (by rw[r.1];decide),iN r2]
   rw[zB (by rw[Pf];exact q1) ⟨by rw[b6];exact r.1,by rw[SR.cmd];exact r2⟩]at k;refine kG.none k W1 Ye rfl rfl rfl mB ?_ Lp.q;rw[ec];exact SR
  .have r:oA h A.S.s.cmd=true:=by simpa using r
   have hp:¬(decide (64<=h.getD 0 0)=false/\ax h 24 4≠x.cmd):=by rintro⟨z1,z2⟩;unfold oA at r;rw[b6]at z1;rw[z1,gc]at r;rw[SR.cmd]at z2;exact z2 (of_decide_eq_true r)
   have eX:ji {A.S with s:={A.S.s with cmd:=ia h A.S.s.cmd}} (kH x h).buf (kH x h):=by
    cases h6:bit (h.getD 0 0) 6 with
    |true=>
     have en:kH x h=x:=by unfold kH;rw[iP (by rw[b6];exact h6)]
     have ec:ia h A.S.s.cmd=A.S.s.cmd:=by unfold ia;rw[iP h6]
     rw[en,ec];nomatch⟨SR.stage,SR.Em,SR.named,SR.heads,SR.datas,SR.asks,SR.with_,SR.theirs,SR.burst,SR.first,SR.stat,SR.cmd,SR.next,SR.told⟩,SR.tasks,SR.rY
    |false=>
     have e24:ax h 24 4=A.S.s.cmd:=by unfold oA at r;rw[h6,gc]at r;exact of_decide_eq_true r
     have en:kH x h={x with cmd:=(x.cmd+1)%xd}:=by unfold kH;rw[iN (by rw[b6,h6];decide)]
     have ec:ia h A.S.s.cmd=(A.S.s.cmd+1)%4294967296:=by unfold ia;rw[iN (by rw[h6];decide),iP e24]
     rw[en,ec];nomatch⟨SR.stage,SR.Em,SR.named,SR.heads,SR.datas,SR.asks,SR.with_,SR.theirs,SR.burst,SR.first,SR.stat,by show(x.cmd+1)%xd=_;rw[SR.cmd];rfl,SR.next,SR.told⟩,SR.tasks,SR.rY
   have aeG:(kH x h).buf=x.buf:=by unfold kH;split<;>rfl
   rw[<-aeG]at k;have k1:=k.from (H1:=H1) (pM:=bP) (A1:={A with S:={A.S with s:={A.S.s with cmd:=ia h A.S.s.cmd}}}) (ss1:=ss.set i (some {A.S with s:={A.S.s with cmd:=ia h A.S.s.cmd}})) Lp.q rfl rfl rfl;have g1:=h1;exists I,rfl,I;refine gG (λu=>?_) (λu=>?_)
   .have e:=eqI (n:=0) u;rw[Lv (by rw[Pf];exact e) hp]at k1;nomatch I,I,I,tr,ha,da,bP,i,_,h,b,kH x h,rfl,R1,RF,fb1,hl,oh,ob,GD,kx,mB,eX,kG.r W1 Ye (by rw[Jt]at k1;exact k1.q)
   have n0:op≠0:=λz=>u (by rw[z];rfl);exists I,rfl,I;refine gG (λu=>?_) (λu=>?_)
   .have e:=eqI (n:=1) u;rw[Lw (by rw[Pf];exact e) hp]at k1;nomatch I,I,I,tr,ha,da,bP,i,_,h,b,kH x h,rfl,R1,RF,fb1,hl,oh,ob,GD,kx,mB,eX,kG.r W1 Ye (by rw[Jt]at k1;exact k1.q)
   have n1:op≠1:=λz=>u (by rw[z];rfl);exists I,rfl,I;refine gG (λu=>?_) (λu=>?_)
   .have e:=eqI (n:=2) u;rw[Lx (by rw[Pf];exact e) hp]at k1;nomatch I,I,tr,ha,bP,i,_,_,h,kH x h,y,rfl,W1,Ye,RF,hl,oh,kx,mB,eX,k1.q
   have n2:op≠2:=λz=>u (by rw[z];rfl);have e6:op=6:=();exists I,rfl,I;refine gG (λu=>?_) (λu=>absurd (by rw[e6];rfl) u);rw[Ly (by rw[Pf];exact e6) hp]at k1;nomatch I,I,tr,ha,bP,i,_,h,kH x h,rfl,R1,RF,hl,oh,kx,mB,eX,kG.r W1 Ye (by rw[Jt]at k1;exact k1.q)
 .have q:tI (V.int (op:Int)) [V.int 0,V.int 1,V.int 2,V.int 6]=false:=q;have q1:¬(op=0\/op=1\/op=2\/op=6):=by rw[eI]at q;exact of_decide_eq_false q
  refine gY ?_;have Yf:∀{n:Nat},op≠n->¬V.int (op:Int)=V.int (n:Int):=λhn z=>hn (eqI z);nomatch I,rfl,I,gG (λu=>absurd u (Yf (n:=0) ())) (λ_=>?_)
  nomatch I,rfl,I,gG (λu=>absurd u (Yf (n:=1) ())) (λ_=>?_)
  nomatch I,rfl,I,gG (λu=>absurd u (Yf (n:=2) ())) (λ_=>?_)
  nomatch I,rfl,I,gG (λu=>absurd u (Yf (n:=6) ())) (λ_=>?_)
  exists I,rfl,I;refine gG (λu=>?_) (λu=>?_)
  .have e:=eqI (n:=5) u;rw[Lu (by rw[Pf];exact e),Jt]at k;nomatch I,I,I,tr,ha,da,bP,i,A,h,b,x,rfl,R,fh,fb,hl,oh,ob,GD,kx,mB,SR,kG.r W YR k.q
  .have e:op≠5:=λz=>u (by rw[z];rfl);rw[Lz (by rw[Pf];exact q1) (by rw[Pf];exact e),Jt]at k;nomatch I,I,tr,ha,bP,i,A,h,5,x,rfl,R,fh,hl,oh,#[],kx,mB,SR,kG.r W YR k.q
end My
namespace My
open Ql73
open L2 (iN iP)
def iT(s:List (List Nat)×List Nat)(c:Nat):List (List Nat)×List Nat:=if c=0 then(s.1++[s.2],[])else(s.1,s.2++[c])
def jD(b:List Nat):List (List Nat)×List Nat:=b.foldl iT ([],[])
def oK(b:List Nat):Option (List (List Nat)):=if(jD b).2=[]then some (jD b).1 else none
def iG(r:List Nat):Option (List Nat×List Nat):=if 61∈r/\(r.takeWhile λc=>c !=61)≠[]/\(r.takeWhile λc=>c !=61).all isKey=true/\(r.takeWhile λc=>c !=61).length<=63/\(r.drop ((r.takeWhile λc=>c !=61).length+1)).length<=255 then some (r.takeWhile λc=>c !=61,r.drop ((r.takeWhile λc=>c !=61).length+1))else none
def Ew:List (List Nat)->Option (List (List Nat×List Nat))
 | []=>some []
 |r::rs=>match iG r with
  |none=>none
  |some q=>(Ew rs).map λl=>q::l
def ka(b:List Nat):Option (List (List Nat×List Nat)):=(oK b).bind Ew
theorem yi:∀(l:List Nat)(rs:List (List Nat))(r:List Nat),l.foldl iT (rs,r)=(rs++(l.foldl iT ([],r)).1,(l.foldl iT ([],r)).2)
 | [],rs,r=>by simp
 |c::l,rs,r=>by
  rw[iU,iU];by_cases h:c=0
  .have e:∀s,iT s c=(s.1++[s.2],[]):=λs=>by unfold iT;rw[iP h]
   rw[e,e,yi l (rs++[r]) [],yi l ([]++[r]) []];simp
  .have e:∀s,iT s c=(s.1,s.2++[c]):=λs=>by unfold iT;rw[iN h]
   rw[e,e,yi l rs (r++[c])]
theorem C_:∀(row:List Nat)(rs:List (List Nat))(r:List Nat),(∀c∈row,c≠0)->row.foldl iT (rs,r)=(rs,r++row)
 | [],rs,r,_=>by simp
 |c::l,rs,r,h=>by
  rw[iU];have e:iT (rs,r) c=(rs,r++[c]):=by unfold iT;rw[iN (h c bI)]
  rw[e,C_ l rs (r++[c]) λz hz=>h z (bo _ hz)];simp
theorem uP:∀(l:List Nat)(rs:List (List Nat))(r:List Nat),(l.foldl iT (rs,r)).1.length+(l.foldl iT (rs,r)).2.length<=rs.length+r.length+l.length
 | [],rs,r=>by simp
 |c::l,rs,r=>by
  rw[iU];by_cases h:c=0
  .have e:iT (rs,r) c=(rs++[r],[]):=by unfold iT;rw[iP h]
   rw[e];have:=uP l (rs++[r]) [];simp only[az,aN,bN]at this ⊢;lia
  .have e:iT (rs,r) c=(rs,r++[c]):=by unfold iT;rw[iN h]
   rw[e];have:=uP l rs (r++[c]);simp only[az,aN,bN]at this ⊢;lia
def RV(h:∀c∈row,c≠0)(sU:row≠[]):oK row=none:=by unfold oK jD;rw[C_ row [] [] h,iN (by simpa using sU)]
def OH(h:∀c∈row,c≠0):oK (row++0::b)=(oK b).map λl=>row::l:=by
 unfold oK jD;rw[si,C_ row [] [] h,iU];have e:iT ([],[]++row) 0=([row],[]):=by unfold iT;rw[iP rfl];simp
 rw[e,yi b [row] []];show(if(b.foldl iT ([],[])).2=[]then some ([row]++(b.foldl iT ([],[])).1)else none)=_;by_cases hc:(b.foldl iT ([],[])).2=[]
 .rw[iP hc,iP hc];rfl
 .rw[iN hc,iN hc];rfl
theorem Bp(hd:p d=false):∀{k:List Nat},(∀c∈k,p c=true)->(k++d::t).takeWhile p=k
 | [],_=>by simp[pS,hd]
 |c::k,h=>by rw[cP,pS,iP (h c bI),Bp hd λz hz=>h z (bo _ hz)]
theorem RW:∀{k:List Nat},(∀c∈k,p c=true)->k.takeWhile p=k
 | [],_=>rfl
 |c::k,h=>by rw[pS,iP (h c bI),RW λz hz=>h z (bo _ hz)]
theorem yj(d:Nat):∀b:List Nat,(∀c∈b,c≠d)\/∃row t,b=row++d::t/\∀c∈row,c≠d
 | []=>.inl λc hc=>nomatch hc
 |x::b=>by
  by_cases hx:x=d
  .exact .inr ⟨[],b,by rw[hx];rfl,λc hc=>nomatch hc⟩
  .rcases yj d b with h|⟨row,t,e,h⟩
   .exact .inl λc hc=>by
     rcases ak.mp hc with rfl|hc
     .exact hx
     .exact h c hc
   .exact .inr ⟨x::row,t,by rw[e];rfl,λc hc=>by
     rcases ak.mp hc with rfl|hc
     .exact hx
     .exact h c hc⟩
def Ju(hk:∀c∈k,c≠61):iG (k++61::v)=if k=[]\/63<k.length\/k.all isKey=false\/255<v.length then none else some (k,v):=by
 unfold iG;have e1:(k++61::v).takeWhile (λc=>c !=61)=k:=Bp #[] λc hc=>bne_iff_ne.mpr (hk c hc);have e2:(k++61::v).drop (k.length+1)=v:=by rw[<-gX,qO];rfl
 rw[e1,e2];by_cases h:k=[]\/63<k.length\/k.all isKey=false\/255<v.length
 .rw[iP h,iN];rintro⟨_,h1,h2,h3,h4⟩;rcases h with h|h|h|h
  .exact h1 h
  .lia
  .rw[h]at h2;cases h2
  .lia
 .rw[iN h,iP];exists by simp,λz=>h (.inl z),?_,?_
  .cases e:k.all isKey with
   |true=>rfl
   |false=>exact absurd (.inr (.inr (.inl e))) h
  .apply oZ;exact λz=>h (.inr (.inl z))
  .apply oZ;exact λz=>h (.inr (.inr (.inr z)))
def Dc(h:∀c∈r,c≠61):iG r=none:=by unfold iG;rw[iN];rintro⟨h1,_⟩;exact h 61 h1 rfl
theorem LB(h:∀c∈row,c≠0):ka (row++0::b)=match iG row with
  |none=>none
  |some q=>(ka b).map λl=>q::l:=by
 unfold ka;rw[OH h];cases oK b with
 |none=>cases iG row<;>rfl
 |some rs=>show Ew (row::rs)=_;rw[Ew];rfl
theorem Jv:∀(f:Nat)(b:List Nat),b.length<=f->pairs f b=ka b
 |0,b,h=>by have hb:b=[]:=jT.mp ();subst hb;rfl
 |f+1,b,h=>by
  by_cases hb:b=[]
  .subst hb;rfl
  rw[pairs,iN hb];rcases yj 0 b with h0|⟨row,t,rfl,abf⟩
  .have e1:ka b=none:=by unfold ka;rw[RV h0 hb];rfl
   rw[e1];have hv:((b.drop (b.takeWhile λc=>c !=61).length).drop 1).takeWhile (λc=>c !=0)=(b.drop (b.takeWhile λc=>c !=61).length).drop 1:=RW λc hc=>bne_iff_ne.mpr (h0 c (jy (jy hc)));simp only[hv];rw[iP];refine .inr (.inr (.inr (.inr (.inr ?_))));apply uZ;simp only[cO];lia
  .rw[LB abf];rcases yj 61 row with h61|⟨k,v,rfl,hk⟩
   .rw[Dc h61];show _=none;simp only[];rw[iP];refine .inr (.inr (.inl ?_));have e2:(row++0::t).takeWhile (λc=>c !=61)=row++(0::t.takeWhile λc=>c !=61):=by rw[List.takeWhile_append_of_pos λc hc=>bne_iff_ne.mpr (h61 c hc),pS,iP #[]]
    rw[e2,List.all_append];have:(0::t.takeWhile λc=>c !=61).all isKey=false:=by rw[zL];rfl
    rw[this,Bool.and_false]
   .have hv0:∀c∈v,c≠0:=λc hc=>abf c (by simp[hc]);have e0:k++61::v++0::t=k++61::(v++0::t):=by simp
    rw[e0,Ju hk];have e1:(k++61::(v++0::t)).takeWhile (λc=>c !=61)=k:=Bp #[] λc hc=>bne_iff_ne.mpr (hk c hc);have e2:(k++61::(v++0::t)).drop k.length=61::(v++0::t):=qO;have e3:(v++0::t).takeWhile (λc=>c !=0)=v:=Bp #[] λc hc=>bne_iff_ne.mpr (hv0 c hc);have e4:(61::(v++0::t)).drop (1+v.length)=0::t:=by rw[O6,yP,qO]
    simp only[e1,e2,yP,Hx,e3,e4];by_cases hc:k=[]\/63<k.length\/k.all isKey=false\/255<v.length
    .rw[iP hc,iP];rcases hc with z|z|z|z
     .exact .inl z
     .exact .inr (.inl z)
     .exact .inr (.inr (.inl z))
     .exact .inr (.inr (.inr (.inr (.inl z))))
    .rw[iN hc,iN]
     .have hl:t.length<=f:=by simp only[az,aN]at h;lia
      rw[Jv f t hl]
     .rintro(z|z|z|z|z|z)
      .exact hc (.inl z)
      .exact hc (.inr (.inl z))
      .exact hc (.inr (.inr (.inl z)))
      .cases z
      .exact hc (.inr (.inr (.inr z)))
      .cases z
end My
namespace My
open PySem PySem.Spec PyProof.Rows L2
variable{P:cq}{w:dH}{K:aq}{mg:bL->Option aM}{aR:gD}{C:Cl}
variable(T:Txt P w K mg C)
inductive LD(K:aq)(vs:List V)(H:Hp)(Q:VK)(kn:XK):Prop
 |mk(a:aB)(b:List Nat)(_:vs=[.ref a])(_:fT K H a (nV b))(_:b.length<=100000)(_:match oK b with|none=>∀H',a_ H H'->Q .eY H'|some bB=>∀H' p,H p=none->sG H' p bB->a_ H H'->Q (.ref p) H')
inductive D1I(a ra:aB)(b:List Nat)(H:Hp)(i:Nat)(σ:L2.St)(H':Hp):Prop
 |mk(ca:aB)(v3:Option V)(as:List aB)(_:σ=[some (.ref a),some (.ref ra),some (.ref ca),v3])(_:H' ra=some (.lst (as.map V.ref)))(_:H' ca=some (.lst (nV (jD (b.take i)).2)))(_:ra≠ca)(_:H ca=none)(_:as.length=(jD (b.take i)).1.length)(_:(∀(j:Nat)(c:aB)(r:List Nat),as[j]? =some c->(jD (b.take i)).1[j]? =some r->fK H' c (nV r)))(_:a_ H H')
def OI:T.Fe.D P w aR 1 (LD K):=by
 refine T.Fe.ok ?_;kd_p
 obtain⟨a,b,rfl,hb,hl,k⟩:=h;exists _,(aa (cJ 1 nd (dN jk)) (aa (cJ 2 nd (dN jk)) (aa (mY d9 rfl (kI b4) (Cc 3 nd) (aj (bH (bg fD gQ au (bD _)) (aa (bj (tJ dg rp rq yZ cC (fN (jm fF)))) (aj (cJ 2 nd (dN jk)))) (aj (bj (tJ dg rp rq yZ fF (fN gQ))))))) (aa (bH (HK fF (λ_=>rfl)) (aj (aP jz)) aZ) (aj (aP (jm cC)))))));nomatch bQ _,λra hra=>⟨bQ _,λc0 hc0=>?_⟩
 have s1:=aS (a_.refl H) hra (.lst []);have s2:=aS s1 hc0 (.lst []);have nrc:ra≠c0:=ai ae hc0;nomatch I,a,rfl,⟨_,s2.seq hb⟩,ma (K:=K) (a:=a) (xs:=nV b) (D1I a ra b H) ⟨c0,none,[],rfl,(aG nrc).trans ae,ae,nrc,s1.free hc0,rfl,(λj c r h=>nomatch h),s2⟩ (λi σ H' _⟨_,_,_,_,_,_,_,_,_,_,g⟩=>g.seq hb) ?_ ?_
 .rintro i y σ H' hi ⟨ca,v3,as,rfl,g1,g2,g3,g4,g5,g6,g7⟩;obtain⟨z,hz,rfl⟩:=zi hi;have hib:i<b.length:=(aE.mp hz).1;have eF:jD (b.take (i+1))=iT (jD (b.take i)) z:=by unfold jD;rw[fP,hz,si];rfl
  have hlen:=uP (b.take i) [] [];rw[bf]at hlen;have hlen:(jD (b.take i)).1.length+(jD (b.take i)).2.length<=i:=by unfold jD;simp only[bN]at hlen;lia
  exists I,rfl,I;refine gG (λq=>?_) (λq=>?_)
  .have q:V.int (z:Int)=V.int 0:=q;have q1:z=0:=by have:=V.int.inj q;lia
   have e1:iT (jD (b.take i)) z=((jD (b.take i)).1++[(jD (b.take i)).2],[]):=by unfold iT;rw[iP q1]
   rw[e1]at eF;nomatch I,.inl ⟨rfl,_,fT.of g1⟩,I,ca,I,g2,λod=>⟨ra,_,_,rfl,rfl,by rw[aG g3];exact g1,by rw[aK,g5,sizeLine_eq];lia,?_⟩
   nomatch bQ _,λcn Yg=>?_
   have abj:H cn=none:=by
    cases e:H cn with
    |none=>rfl
    |some o=>have h1:cn≠ra:=ai e hra;have h2:cn≠ca:=ai e g4;rw[aG h1,aG h2,g7 _ _ e]at Yg;cases Yg
   have nr:ra≠cn:=ai ae Yg;have ncc:ca≠cn:=ai (by rw[aG (aL g3)];exact ae) Yg;have e2:as.map V.ref++[V.ref ca]=(as++[ca]).map V.ref:=by rw[bW];rfl
   rw[e2];nomatch cn,_,as++[ca],rfl,(aG nr).trans ae,ae.trans (by rw[eF];rfl),nr,abj,by rw[az,g5,eF,az];rfl,λj c r h1 h2=>?_,λc o hc=>?_
   .rw[eF]at h2;have h2:((jD (b.take i)).1++[(jD (b.take i)).2])[j]? =some r:=h2;by_cases hj:j<as.length
    .rw[ft hj]at h1;rw[ft ()]at h2;obtain⟨o,e⟩:=g6 j c r h1 h2;have d1:c≠cn:=λz=>by rw[z]at e;rw[aG (aL nr),aG (aL ncc)]at Yg;rw[e]at Yg;cases Yg
     nomatch o,by rw[aG d1,aG (bV e g1 nofun),aG (bV e g2 nofun)];exact e
    .rw[fX ()]at h1 h2;rw[<-g5]at h2;have:j-as.length=0:=by
      cases q:j-as.length with
      |zero=>rfl
      |succ m=>rw[q]at h1;cases h1
     rw[this]at h1 h2;obtain rfl:=af h1;obtain rfl:=af h2;nomatch od,by rw[aG ncc,aG (aL g3)];exact ae
   .rw[aG (ai hc abj),aG (ai hc hra),aG (ai hc g4)];exact g7 c o hc
  .have q:¬V.int (z:Int)=V.int 0:=q;have q1:z≠0:=λe=>q (by rw[e];rfl);have e1:iT (jD (b.take i)) z=((jD (b.take i)).1,(jD (b.take i)).2++[z]):=by unfold iT;rw[iN q1]
   rw[e1]at eF;exists I,.inl ⟨rfl,_,fT.of g2⟩,I,ca,J,g2,by rw[bA,sizeLine_eq];lia
   nomatch ca,_,as,rfl,(aG g3).trans g1,ae.trans (by rw[eF,jB];rfl),g3,g4,by rw[eF];exact g5,λj c r h1 h2=>?_,λc o hc=>by rw[aG (ai hc g4)];exact g7 c o hc
   rw[eF]at h2;obtain⟨o,e⟩:=g6 j c r h1 h2;nomatch o,by rw[aG (bV e g2 nofun)];exact e
 .rintro σ H' ⟨ca,v3,as,rfl,g1,g2,g3,g4,g5,g6,g7⟩;rw[bA,gJ]at g2 g5 g6;exists I,!(nV (jD b).2).isEmpty,.inl ⟨_,fT.of g2,rfl⟩;rw[I0];refine gM (λq=>?_) (λq=>?_)
  .have hn:(jD b).2≠[]:=λz=>by rw[z]at q;cases q
   have e:oK b=none:=by unfold oK;rw[iN hn]
   rw[e]at k;exact k H' g7
  .have hn:(jD b).2=[]:=by cases h:(jD b).2 with|nil=>rfl|cons _ _=>rw[h]at q;cases q
   have e:oK b=some (jD b).1:=by unfold oK;rw[iP hn]
   rw[e]at k;nomatch I,ra,I,g1,λod=>?_
   refine k _ ra hra ⟨as,⟨od,ae⟩,g5,λj c r h1 h2=>?_⟩ (a_.nQ g7 hra _);obtain⟨o,e⟩:=g6 j c r h1 h2;nomatch o,by rw[aG (bV e g1 nofun)];exact e
def MT(b:List Nat):(nV b).all pV=true:=by unfold nV;rw[By];exact dI.mpr λ_ _=>rfl
def abk(n:Nat)(b:List Nat):tI (V.int (n:Int)) (nV b)=decide (n∈b):=by
 unfold tI nV;rw[nB];induction b with
 |nil=>rfl
 |cons x r ih=>
  rw[fg,ih];show(((x:Int)==(n:Int))||decide (n∈r))=decide (n∈x::r)
  by_cases h:x=n
  .subst h;simp
  .have h1:((x:Int)==(n:Int))=false:=beq_eq_false_iff_ne.mpr ();rw[h1,gc];apply decide_eq_decide.mpr;simp[aL h]
def UR(b:List Nat)(n:Nat):jv (nV b) (some ((n:Int)+1)) none=nV (b.drop (n+1)):=by
 unfold jv nV;have e:((n:Int)+1)=((n+1:Nat):Int):=rfl;rw[e,HT.pU,aK];show((b.map λ(x:Nat)=>V.int (x:Int)).drop (min (n+1) b.length)).take (b.length-min (n+1) b.length)=_;rw[<-sR,<-sQ,cA (by rw[cO];lia)];by_cases h:n+1<=b.length
 .rw[dM h]
 .rw[jb (),lJ,uZ ()]
def Dd(H:Hp)(p:aB)(q:List Nat×List Nat):Prop:=H p=some (.tup [.str (cK q.1),.str (sv q.2)])
inductive De(K:aq)(vs:List V)(H:Hp)(Q:VK)(kn:XK):Prop
 |mk(a:aB)(r:List Nat)(_:vs=[.ref a])(_:fT K H a (nV r))(_:r.length<=100000)(_:match iG r with|none=>∀H',a_ H H'->Q .eY H'|some q=>∀H' p,H p=none->Dd H' p q->a_ H H'->Q (.ref p) H')
def OJ:T.Ff.D P w aR 3 (De K):=by
 refine T.Ff.ok ?_;kd_p
 obtain⟨a,r,rfl,ha,hl,k⟩:=h;exists _,(aa (bH (bg rK (aU T.IG) b4 (by with_unfolding_all rfl)) (aj (aP jz)) aZ) (aa (cJ 1 nd (tJ dg Hw PySem.F.type_list_index Qc b4 (fN (aU T.IG)))) (aa (cJ 2 nd (aI (Fv T) (fN (ej fV b4 oP (cS cC))))) (aa (cJ 3 nd (aI (Fv T) (fN (ej fV b4 (cS (bO eJ cC au)) oP)))) (aa (bH (kR (iH (dA (KJ fF))) (kR (bg o7 (bZ cV (by rfl) T.gT fQ (fN fF)) (aU T.DZ) (bD _)) (j6 (bg o7 (bZ cV (by rfl) T.gT fQ (fN gQ)) (aU T.Ax) (bD _))))).pt (aj (aP jz)) aZ) (aj (aP (rJ (i5 fF gQ)))))))));have YX:=abk 61 r;exists I,a,I,.inl ha,rfl,MT r,I;show if(!tI (V.int 61) (nV r))=true then _ else _;rw[show tI (V.int 61) (nV r)=decide (61∈r)from YX];rcases yj 61 r with h61|⟨kk,v,rfl,hk⟩
 .have Z1:¬61∈r:=λz=>h61 61 z rfl;rw[Dc h61]at k;rw[decide_eq_false Z1];exact fI (k H (a_.refl H))
 have aeH:61∈kk++61::v:=by simp
 rw[decide_eq_true aeH];refine gY ?_;rw[Ju hk]at k;have hj:(nV (kk++61::v))[kk.length]? =some (V.int 61):=QV (b:=kk++61::v) (i:=kk.length) (z:=61) (by rw[fX (bw _),Nat.sub_self];rfl);exists I,.inl ⟨rfl,_,ha⟩,a,_,_,kk.length,I,rfl,ha,rfl,MT _,hj,rfl,λm z' hm hz'=>?_
 .obtain⟨z,hz,rfl⟩:=zi hz';rw[ft hm]at hz;have:=hk z (iC hz);show((z:Int)==61)=false;exact beq_eq_false_iff_ne.mpr ()
 have hlen:kk.length+1+v.length<=100000:=by simp only[az,aN]at hl;lia
 have et:(kk++61::v).take kk.length=kk:=List.take_left;have ed:(kk++61::v).drop (kk.length+1)=v:=by rw[<-gX,qO];rfl
 nomatch I,I,I,a,I,ha,λp1 h1=>⟨p1,kk,rfl,?_,(),λH1 s1=>?_⟩
 .exact fT.of (ae.trans (by rw[rX,et]))
 have s1':a_ H H1:=(aS (a_.refl H) h1 _).trans s1;nomatch I,I,J,I,a,I,s1'.seq ha,λp2 h2=>⟨p2,v,rfl,?_,(),λH2 s2=>?_⟩
 .exact fT.of (ae.trans (by rw[UR,ed]))
 have s2':a_ H H2:=s1'.trans ((aS (a_.refl H1) h2 _).trans s2);have LF:(kk=[]\/63<kk.length\/kk.all oM=false\/255<v.length)->Q .eY H2:=λz=>by rw[iP z]at k;exact k H2 s2'
 exists I,⟨_,rfl⟩,I,rfl,I;show if(!Txt.isalnum (sv kk))=true then _ else _;rw[Rx];refine gM (λq=>?_) (λq=>?_)
 .refine fI (LF ?_);cases kk with
  |nil=>exact .inl rfl
  |cons c r=>
   refine .inr (.inr (.inl ?_));cases e:(c::r).all oM with
   |false=>rfl
   |true=>rw[e]at q;cases q
 have q1:kk≠[]/\kk.all oM=true:=by
  cases kk with
  |nil=>cases q
  |cons c r=>nomatch by simp,by simpa using q
 exists I,_,kk.length,rfl,⟨?_,?_⟩,J,I
 .show(sv kk).length<=aH;rw[lO,sizeLine_eq];lia
 .show kk.length=(sv kk).length;rw[lO]
 refine gG (λu=>?_) (λu=>?_)
 .have u:(63:Int)<((kk.length:Nat):Int):=u;exact fI (LF (.inr (.inl ())))
 have u:¬(63:Int)<((kk.length:Nat):Int):=u;exists I,_,v.length,rfl,⟨?_,?_⟩,J,I
 .show(sv v).length<=aH;rw[lO,sizeLine_eq];lia
 .show v.length=(sv v).length;rw[lO]
 refine gG (λx=>?_) (λx=>?_)
 .have x:(255:Int)<((v.length:Nat):Int):=x;exact LF (.inr (.inr (.inr ())))
 have x:¬(255:Int)<((v.length:Nat):Int):=x;rw[iN (by
  rintro(z|z|z|z)
  .exact q1.1 z
  .lia
  .rw[q1.2]at z;cases z
  .lia)]at k
 nomatch I,I,(by show 2<=aH;decide),λp hp=>?_
 have ek:(⟨(kk.map fq).toArray⟩:bL)=cK kk:=XZ q1.2;refine k _ p (s2'.free hp) (ae.trans ?_) (aS s2' hp _);rw[ek];rfl
abbrev Pr:=List Nat×List Nat
def dOf:Option Pr->PyData
 |none=>.none
 |some q=>.tuple [.str (cK q.1),.str (sv q.2)]
def PV(H:Hp):Option Pr->V->Prop
 |none,v=>v= .eY
 |some q,v=>∃p,v= .ref p/\Dd H p q
def PV.same(h:PV H o v)(s:a_ H H'):PV H' o v:=by
 cases o with
 |none=>exact h
 |some q=>obtain⟨p,e,h⟩:=h;nomatch p,e,s _ _ h
def RX{H H':Hp}(s:a_ H H'){os:List (Option Pr)}{vs:List V}(h:Paired (PV H) os vs):Paired (PV H') os vs:=by
 induction h with
 |nil=>exact .nil
 |cons h _ ih=>exact .cons (h.same s) ih
def US{R R':Option Pr->V->Prop}(f:∀{o v},R o v->R' o v){os:List (Option Pr)}{vs:List V}(h:Paired R os vs):Paired R' os vs:=by
 induction h with
 |nil=>exact .nil
 |cons h _ ih=>exact .cons (f h) ih
def RY{H:Hp}{o:Option Pr}{v:V}{os:List (Option Pr)}{vs:List V}(h:Paired (PV H) os vs)(hv:PV H o v):Paired (PV H) (os++[o]) (vs++[v]):=by
 induction h with
 |nil=>exact .cons hv .nil
 |cons h _ ih=>exact .cons h ih
def Yh{H:Hp}{os:List (Option Pr)}{vs:List V}(h:Paired (PV H) os vs):vq K H vs (os.map dOf):=by
 induction h with
 |nil=>exact .nil
 | @cons o v os vs h _ ih=>
  rw[bp];refine .cons ?_ ih;cases o with
  |none=>rw[show v= .eY from h];exact .eY
  |some q=>obtain⟨p,rfl,hp⟩:=h;exact .tup (l_.of hp) (.cons (.str _) (.cons (.str _) .nil))
theorem RZ:∀(os:List (Option Pr)),(∀q,some q∈os->q.1.all oM=true)->PyData.canLayAll0 (os.map dOf)=true
 | [],_=>rfl
 |o::os,h=>by
  rw[bp,PyData.canLayAll0,RZ os λq hq=>h q (bo _ hq),Bool.and_true];cases o with
  |none=>rfl
  |some q=>
   have hk:=Fw (h q bI);have e1:PyData.strOk (cK q.1)=true:=by show q.1.toArray.all _=true;rw[s_];exact dI.mpr λz hz=>decide_eq_true (by have:=hk z hz;lia)
   have e2:PyData.strOk (sv q.2)=true:=by show(q.2.map fq).toArray.all _=true;rw[s_];refine dI.mpr λz hz=>decide_eq_true ?_;obtain⟨y,_,rfl⟩:=cG.mp hz;have:=GK y;lia
   show PyData.canLay0 (.tuple [.str (cK q.1),.str (sv q.2)])=true;simp only[PyData.canLay0,PyData.canLayAll0,e1,e2,Bool.and_true]
theorem any_none:∀(os:List (Option Pr)),((os.map dOf).any λe=>PyData.eqv e .none)=os.any rE
 | []=>rfl
 |o::os=>by
  rw[bp,fg,fg,any_none os];cases o with
  |none=>rfl
  |some q=>rfl
theorem MU:∀bB:List (List Nat),Ew bB=if(bB.map iG).any rE=true then none else some (bB.filterMap iG)
 | []=>rfl
 |r::rs=>by
  rw[Ew,bp,fg,MU rs];cases e:iG r with
  |none=>rfl
  |some q=>
   rw[iY,e];show(if(rs.map iG).any rE=true then none else some (rs.filterMap iG)).map _=if(false||(rs.map iG).any rE)=true then none else _
   rw[gc];split<;>rfl
def FH(h:iG r=some q):q.1.all oM=true/\q.1.length<=63/\q.2.length<=255/\q.1≠[]:=by
 unfold iG at h;split at h
 .rename_i hc;obtain rfl:=af h;nomatch hc.2.2.1,hc.2.2.2.1,hc.2.2.2.2,hc.2.1
 .cases h
def mx(H:Hp)(p:aB)(l:List Pr):Prop:=∃as:List aB,fK H p (as.map V.ref)/\as.length=l.length/\∀(j:Nat)(a:aB)(q:Pr),as[j]? =some a->l[j]? =some q->Dd H a q
theorem MV:∀{bB:List (List Nat)}{vs:List V},Paired (PV H) (bB.map iG) vs->(bB.map iG).any rE=false->∃as:List aB,vs=as.map V.ref/\as.length=(bB.filterMap iG).length/\∀(j:Nat)(a:aB)(q:Pr),as[j]? =some a->(bB.filterMap iG)[j]? =some q->Dd H a q
 | [],vs,h,_=>by cases h;nomatch[],rfl,rfl,λj a q h=>nomatch h
 |r::rs,vs,h,hn=>by
  rw[bp]at h hn;cases h with
  | @cons _ v _ vs' h1 h2=>
   rw[fg,iD]at hn;obtain⟨as,e1,e2,e3⟩:=MV h2 hn.2;cases e:iG r with
   |none=>rw[e]at hn;cases hn.1
   |some q=>
    rw[e]at h1;obtain⟨p,rfl,hp⟩:=h1;nomatch p::as,by rw[e1];rfl,by rw[iY,e];simp[e2],λj a q' hj hq=>?_
    rw[iY,e]at hq;cases j with
    |zero=>obtain rfl:=af hj;obtain rfl:=af hq;exact hp
    |succ j=>exact e3 j a q' hj hq
inductive Jw(K:aq)(vs:List V)(H:Hp)(Q:VK)(kn:XK):Prop
 |mk(a:aB)(b:List Nat)(_:vs=[.ref a])(_:fT K H a (nV b))(_:b.length<=8192)(_:match ka b with|none=>∀H',a_ H H'->Q .eY H'|some l=>∀H' p,H p=none->mx H' p l->a_ H H'->Q (.ref p) H')
def Df(h:oK b=some bB):bB.length<=b.length/\∀r∈bB,r.length<=b.length:=by
 unfold oK at h;split at h
 .obtain rfl:=af h;have h1:=uP b [] [];exists by unfold jD;simp only[bN]at h1;lia
  have key:∀(l:List Nat)(rs:List (List Nat))(r:List Nat)(n:Nat),(∀x∈rs,x.length<=n)->r.length+l.length<=n->∀x∈(l.foldl iT (rs,r)).1,x.length<=n:=by
   intro l;induction l with
   |nil=>intro rs r n h _ x hx;exact h x hx
   |cons c l ih=>
    intro rs r n h hl x hx;rw[iU]at hx;rw[aN]at hl;by_cases hc:c=0
    .have e:iT (rs,r) c=(rs++[r],[]):=by unfold iT;rw[iP hc]
     rw[e]at hx;refine ih _ _ n (λy hy=>?_) (by simp only[bN];lia) x hx;rcases du.mp hy with hy|hy
     .exact h y hy
     .rw[aO.mp hy];lia
    .have e:iT (rs,r) c=(rs,r++[c]):=by unfold iT;rw[iN hc]
     rw[e]at hx;exact ih _ _ n h (by rw[az];simp only[aN,bN];lia) x hx
  exact key b [] [] b.length (λx hx=>nomatch hx) (by simp)
 .cases h
def LG:T.Ce.D P w aR 4 (Jw K):=by
 refine T.Ce.ok ?_;kd_p
 obtain⟨a,b,rfl,hb,hl,k⟩:=h;exists _,(aa (cJ 1 nd (aI (OI T) (fN b4))) (aa (bH (i_ (mX cC)) (aj (aP jz)) aZ) (aa (HX (i:=2) (own:=[("row",3)]) rfl nd rfl rfl rfl (kI cC) (show vt ["data","rows","pairs","row"] (cW KQ) _ _ from⟨rfl,by decide+kernel,by decide+kernel,by decide+kernel,by decide+kernel⟩) (λs H C cl fp=>Cc 3 nd) (λs H C cl fp=>uK) (te:=sk (De K) [] E0 (iR (jU 3) kK)) (λs H C cl fp=>aI (OJ T) (fN gQ))) (aa (bH (bg (B_ hr.Ir) jz fF (by with_unfolding_all rfl)) (aj (aP jz)) aZ) (aj (aP (jm fF)))))));exists I,a,b,rfl,hb,();unfold ka at k;cases er:oK b with
 |none=>rw[er]at k;intro H1 s1;nomatch I,I,fI (k H1 s1)
 |some bB=>
  rw[er]at k;have Ph:=Df er;intro H1 p hp hR s1;nomatch I,I,gY ?_
  obtain⟨as,r1,r2,r3⟩:=hR;nomatch I,p,rfl,⟨_,r1.sq⟩,λD hD=>A_ (K:=K) (a:=p) (xs:=as.map V.ref) (λi H'=>∃vs:List V,H' D=some (.lst vs)/\vs.length=i/\Paired (PV H') ((bB.take i).map iG) vs/\a_ H1 H') ⟨[],ae,rfl,.nil,aS (a_.refl H1) hD _⟩ (λi H' _⟨_,_,_,_,g⟩=>g.seq r1.sq) ?_ ?_
  .rintro i y H' hi ⟨vs,g1,g2,g3,g4⟩;rw[bz]at hi;cases ea:as[i]? with
   |none=>rw[ea]at hi;cases hi
   |some c=>
    rw[ea]at hi;obtain rfl:=(af hi).symm;have hir:i<bB.length:=by rw[<-r2];exact(aE.mp ea).1
    have er':bB[i]? =some bB[i]:=aX hir;have fr:=fK.same (r3 i c _ ea er') g4;have hrl:=Ph.2 bB[i] (tj hir);have etk:(bB.take (i+1)).map iG=(bB.take i).map iG++[iG bB[i]]:=by rw[fP,er',bW];rfl
    exists rfl;unfold Nt;refine fI ?_;have fin:∀(H2:Hp)(v:V),a_ H' H2->PV H2 (iG bB[i]) v->∃acc,H2 D=some (.lst acc)/\acc.length<aH/\∃vs:List V,upd H2 D (.lst (acc++[v])) D=some (.lst vs)/\vs.length=i+1/\Paired (PV (upd H2 D (.lst (acc++[v])))) ((bB.take (i+1)).map iG) vs/\a_ H1 (upd H2 D (.lst (acc++[v]))):=λH2 v s2 hv=>by
     nomatch vs,s2 _ _ g1,by rw[g2,sizeLine_eq];lia,vs++[v],ae,by rw[az,g2];rfl,?_,λc o hc=>by rw[aG (ai hc hD)];exact s2 _ _ (g4 c o hc)
     rw[etk];have key:∀{o:Option Pr}{x:V},PV H2 o x->PV (upd H2 D (.lst (vs++[v]))) o x:=fun{o x} h=>by
      cases o with
      |none=>exact h
      |some q=>obtain⟨pp,e,hpp⟩:=h;nomatch pp,e,by show upd H2 D _ pp=_;rw[aG (bV hpp (s2 _ _ g1) nofun)];exact hpp
     have g3':=RX s2 g3;have:Paired (PV (upd H2 D (.lst (vs++[v])))) ((bB.take i).map iG) vs:=US key g3';exact RY this (key hv)
    exists I,c,bB[i],rfl,fr.sq,();cases ep:iG bB[i]with
    |none=>intro H2 s2;exact fin H2 .eY s2 (by rw[ep];rfl)
    |some q=>intro H2 pp hpp hP s2;exact fin H2 (.ref pp) s2 (by rw[ep];nomatch pp,rfl,hP)
  .rintro H' ⟨vs,g1,g2,g3,g4⟩;rw[aK,r2]at g2 g3;rw[gJ]at g3;have s14:=s1.trans g4;have hos:∀q,some q∈bB.map iG->q.1.all oM=true:=λq hq=>by obtain⟨r,_,e⟩:=cG.mp hq;exact(FH e).1
   exists I,D,vs,.none,(bB.map iG).map dOf,rfl,.inl (fT.of g1),Yh g3,.eY,RZ _ hos,rfl,I;show if((bB.map iG).map dOf).any (λe=>PyData.eqv e .none)=true then _ else _;rw[any_none];have k:match Ew bB with|none=>∀H',a_ H H'->Q .eY H'|some l=>∀H' p,H p=none->mx H' p l->a_ H H'->Q (.ref p) H':=k
   rw[MU]at k;refine gM (λq=>?_) (λq=>?_)
   .rw[iP q]at k;exact k H' s14
   .rw[iN (by rw[q];decide)]at k;obtain⟨as2,e1,e2,e3⟩:=MV g3 q;nomatch I,D,vs,rfl,g1,λod=>?_
    have hDH:H D=none:=s1.free hD;refine k _ D hDH ⟨as2,⟨od,ae.trans (by rw[e1])⟩,e2,λj c q' h1 h2=>?_⟩ (a_.nQ s14 hDH _);have hP:=e3 j c q' h1 h2;show upd H' D _ c=_;rw[aG (bV hP g1 nofun)];exact hP
def yk(k:List Nat)(s:String):(cK k=ay s)↔k=ag s:=by
 constructor
 .intro h;rw[<-eB]at h;exact CO h
 .rintro rfl;exact eB s
def r6(k:List Nat)(s:String):decide (V.str (cK k)=V.str (ay s))=decide (k=ag s):=by apply decide_eq_decide.mpr;rw[<-yk];nomatch λh=>V.str.inj h,λh=>by rw[h]
def uQ(k:List Nat)(s:String):(ay s==cK k)=decide (k=ag s):=by
 by_cases h:k=ag s
 .rw[decide_eq_true h,h,eB];exact beq_self_eq_true _
 .rw[decide_eq_false h];exact beq_eq_false_iff_ne.mpr λz=>h ((yk k s).mp z.symm)
def Zp(k:List Nat)(a b:String):tI (V.str (cK k)) [V.str (ay a),V.str (ay b)]=decide (k=ag a\/k=ag b):=by
 show((ay a==cK k)||((ay b==cK k)||false))=_
 rw[uQ,uQ,sO,nH]
def in3(k:List Nat)(a b c:String):tI (V.str (cK k)) [V.str (ay a),V.str (ay b),V.str (ay c)]=decide (k=ag a\/k=ag b\/k=ag c):=by
 show((ay a==cK k)||((ay b==cK k)||((ay c==cK k)||false)))=_
 rw[uQ,uQ,uQ,sO,nH,nH]
def LH(hs:Known (ag s))(v:List Nat):(ay s==sv v)=decide (v=ag s):=by unfold sv;rw[uQ];apply decide_eq_decide.mpr;exact wD hs
def R0(ha:Known (ag a))(hb:Known (ag b))(v:List Nat):tI (V.str (sv v)) [V.str (ay a),V.str (ay b)]=decide (v=ag a\/v=ag b):=by
 show((ay a==sv v)||((ay b==sv v)||false))=_
 rw[LH ha,LH hb,sO,nH]
def LJ:Known (ag "Yes"):=o4 (by decide+kernel)
def R5:Known (ag "No"):=o4 (by decide+kernel)
def LK:Known (ag "CRC32C"):=o4 (by decide+kernel)
def Bq:Known (ag "None"):=o4 (by decide+kernel)
def uD(h:Known (ag s)):sv (ag s)=ay s:=by rw[(uu h).mpr rfl,eB]
def Br(n:Nat):ay (toString ((n:Nat):Int))=cK (eE n):=TL.rL (by rw[TL.Qy];rfl)
def G9:Option Nat->V
 |none=>.eY
 |some n=>.int (n:Nat)
def R8(v:List Nat):NumText.digitsVal v=v.foldl (λn c=>10*n+(c-48)) 0:=by unfold NumText.digitsVal;congr 1;funext n c;lia
inductive Dg(vs:List V)(H:Hp)(Q:VK)(kn:XK):Prop
 |mk(v:List Nat)(_:vs=[.str (sv v)])(_:v.length<=255)(_:Q (G9 (kg v)) H)
def Ey:T.vB.D P w aR 1 Dg:=by
 refine T.vB.ok ?_;kd_p
 obtain⟨v,rfl,hl,k⟩:=h;exists _,(aa (bH (kR (iH (dA (KL b4))) (j6 (bg o7 (bZ cV (by rfl) T.gT fQ (fN b4)) au (bD _)))).pt (aj (aP jz)) aZ) (aa (bH (nZ (bg fD (fE P_ b4 au (λ_ _=>rfl)) dS (bD _)) (lF (bg o7 (bZ cV (by rfl) T.gT fQ (fN b4)) au (bD _)))).pt (aj (aP jz)) aZ) (aj (aP (iW Gb (by rfl) T.aaH XI (fN b4))))));have hz:(sv v).length<=aH:=by rw[lO,sizeLine_eq];lia
 have LF:(v=[]\/9<v.length\/v.all iy=false\/(1<v.length/\v.head?=some 48))->Q .eY H:=λz=>by
  have e:kg v=none:=by unfold kg;rw[iP z]
  rw[e]at k;exact k
 exists I,⟨_,rfl⟩,I,rfl,I;rw[Ry];refine gM (λq=>?_) (λq=>?_)
 .refine fI (LF ?_);cases v with
  |nil=>exact .inl rfl
  |cons c r=>
   refine .inr (.inr (.inl ?_));cases e:(c::r).all iy with
   |false=>rfl
   |true=>rw[e]at q;cases q
 have q1:v≠[]/\v.all iy=true:=by
  cases v with
  |nil=>cases q
  |cons c r=>nomatch by simp,by simpa using q
 exists I,_,v.length,rfl,⟨hz,by rw[lO]⟩,J,I;refine gG (λu=>?_) (λu=>?_)
 .have u:(9:Int)<((v.length:Nat):Int):=u;exact LF (.inr (.inl ()))
 have u:¬(9:Int)<((v.length:Nat):Int):=u;obtain⟨c,r,rfl⟩:∃c r,v=c::r:=by
  cases v with
  |nil=>exact absurd rfl q1.1
  |cons c r=>nomatch c,r,rfl
 have hc:48<=c/\c<=57:=by have:=dI.mp q1.2 c bI;unfold iy at this;simpa using this
 have esc:fq c=c:=by unfold fq;rw[iP ()]
 exists I,sv (c::r),_,fq c,rfl,rfl,hz,cM (j:=0) (show(sv (c::r)).cps.toList[0]? =some (fq c)from rfl),rfl,I;refine CP (λz=>⟨_,rfl,_,(c::r).length,rfl,⟨hz,by rw[lO]⟩,_,_,rfl,rfl,_,rfl,z⟩) ?_;refine Jj (λx y=>?_) (λhA=>?_)
 .have x:V.str ⟨#[fq c]⟩=V.str (ay "0"):=of_decide_eq_true x;have x1:c=48:=by have:=congrArg TL.tl (V.str.inj x);rw[yb]at this;have h2:[fq c]=[48]:=this;rw[esc]at h2;exact(we h2).1
  have y:(1:Int)<(((c::r).length:Nat):Int):=of_decide_eq_true y;exact LF (.inr (.inr (.inr ⟨(),by rw[x1];rfl⟩)))
 .have abn:¬(c::r=[]\/9<(c::r).length\/(c::r).all iy=false\/(1<(c::r).length/\(c::r).head?=some 48)):=by
   rintro(z|z|z|⟨z1,z2⟩)
   .cases z
   .lia
   .rw[q1.2]at z;cases z
   .refine hA ⟨decide_eq_true ?_,decide_eq_true ()⟩;have:c=48:=af z2;subst this;rfl
  have eN:kg (c::r)=some ((c::r).foldl (λn c=>10*n+(c-48)) 0):=by unfold kg;rw[iN abn]
  rw[eN]at k;have abo:NumText.AllDigits (c::r):=λd hd=>by have:=dI.mp q1.2 d hd;unfold iy at this;simpa using this
  have emap:(c::r).map fq=c::r:=ur λz hz=>by have:=abo z hz;lia
  have Tb:(sv (c::r)).cps.toList=c::r:=emap;have hint:PySem.intText? (sv (c::r))=some ((NumText.digitsVal (c::r):Nat):Int):=by have:=intText_digits (x:=sv (c::r)) (by rw[Tb];exact abo) (by rw[Tb];simp) (by rw[lO];lia);rw[Tb]at this;exact this
  rw[R8]at hint;nomatch I,sv (c::r),I,hint,by rw[lO];lia,k
def qA(st:cb)(k v:List Nat):cb×List Nat:=if v=ie\/v=yH then(if k=ag "DataPDUInOrder"\/k=ag "DataSequenceInOrder" then(st,ie)else if k=ag "InitialR2T" then({st with asks:=decide (v=ie)},v)else({st with with_:=decide (v=ie)},v))else(st,fJ)
def cb.put3(f:cb)(b:Bool):putK f.kv (.inr (ay "InitialR2T")) (Ee b)=cb.kv {f with asks:=b}:=rfl
def cb.aeM(f:cb)(b:Bool):putK f.kv (.inr (ay "ImmediateData")) (Ee b)=cb.kv {f with with_:=b}:=rfl
def cb.aeN(f:cb)(b:Bool):putK f.kv (.inr (ay "HeaderDigest")) (Ed b)=cb.kv {f with heads:=b}:=rfl
def cb.put2(f:cb)(b:Bool):putK f.kv (.inr (ay "DataDigest")) (Ed b)=cb.kv {f with datas:=b}:=rfl
def cb.aeO(f:cb)(n:Nat):putK f.kv (.inr (ay "MaxRecvDataSegmentLength")) (.int (n:Nat))=cb.kv {f with theirs:=n}:=rfl
def cb.aeP(f:cb)(n:Nat):putK f.kv (.inr (ay "MaxBurstLength")) (.int (n:Nat))=cb.kv {f with burst:=n}:=rfl
def cb.aeQ(f:cb)(n:Nat):putK f.kv (.inr (ay "FirstBurstLength")) (.int (n:Nat))=cb.kv {f with first:=n}:=rfl
def cb.small(f:cb):f.kv.length<aH:=by show 7<aH;decide
inductive LL(ok:List Nat->Prop)(g:cb->List Nat->List Nat->cb×List Nat)(vs:List V)(H:Hp)(Q:VK)(kn:XK):Prop
 |mk(sa:aB)(st:cb)(k v:List Nat)(_:vs=[.str (cK k),.str (sv v),.ref sa])(_:H sa=some (.dK st.kv))(_:ok k)(_:v.length<=255)(_:∀H',H' sa=some (.dK (g st k v).1.kv)->gU sa H H'->Q (.str (cK (g st k v).2)) H')
def abp(k:List Nat):Prop:=k=ag "InitialR2T"\/k=ag "ImmediateData"\/k=ag "DataPDUInOrder"\/k=ag "DataSequenceInOrder"
def AR:T.sA.D P w aR 1 (LL abp qA):=by
 refine T.sA.ok ?_;kd_p
 obtain⟨sa,st,key,v,rfl,hs,hk,hl,k⟩:=h;have hu:=lS hr;exists _,(aa (bH (bg rK cC (rJ (i5 dS dS)) (by with_unfolding_all rfl)) (aj (aP (zc T.Cm))) aZ) (aa (bH (bg iq b4 (qr T.xU) (by with_unfolding_all rfl)) (aj (aP dS)) aZ) (aa (ng hu fF b4 cC rfl) (aj (aP cC)))));nomatch I,(by show 2<=aH;decide),λtp J8=>?_
 have sT:=aS (a_.refl H) J8 (.tup [V.str (ay "Yes"),V.str (ay "No")]);have BT:gU sa H (upd H tp (.tup [V.str (ay "Yes"),V.str (ay "No")])):=λc o hc _=>sT c o hc;exists tp,I,.inr (l_.of ae),rfl,rfl,I;show if(!tI (V.str (sv v)) [V.str (ay "Yes"),V.str (ay "No")])=true then _ else _;rw[R0 LJ R5];by_cases hv:v=ie\/v=yH
 .rw[decide_eq_true (show v=ag "Yes"\/v=ag "No" from hv)];refine gY ?_;nomatch I,λta yM=>⟨ta,_,rfl,.inr yM,rfl,rfl,_,rfl,?_⟩
  show if tI (V.str (cK key)) [V.str (ay "DataPDUInOrder"),V.str (ay "DataSequenceInOrder")]=true then _ else _;rw[Zp];refine gG (λq=>?_) (λq=>?_)
  .have e:qA st key v=(st,ie):=by unfold qA;rw[iP hv,iP q]
   rw[e]at k;have:=k _ (sT _ _ hs) BT;rw[show cK ie=ay "Yes" from eB "Yes"]at this;exact this
  .have eV:V.str (sv v)=Ee (decide (v=ie)):=by
    unfold Ee;rcases hv with h|h
    .rw[h,decide_eq_true rfl,iP rfl];exact congrArg V.str (uD LJ)
    .rw[h,decide_eq_false (by decide+kernel),iN #[]];exact congrArg V.str (uD R5)
   have eS:sv v=cK v:=by
    rcases hv with h|h
    .rw[h];exact(uu LJ).mpr rfl
    .rw[h];exact(uu R5).mpr rfl
   by_cases h3:key=ag "InitialR2T"
   .have e:qA st key v=({st with asks:=decide (v=ie)},v):=by unfold qA;rw[iP hv,iN q,iP h3]
    rw[e]at k;exists I,I,I,sa,I,u_.k (k:=bY (cK key)) (sT _ _ hs) st.small,I;rw[eS];refine k _ (ae.trans ?_) (BT.upd _);rw[<-eS,eV,h3,eB,cb.put3]
   .have h4:key=ag "ImmediateData":=by
     rcases hk with h|h|h|h
     .exact absurd h h3
     .exact h
     .exact absurd (.inl h) q
     .exact absurd (.inr h) q
    have e:qA st key v=({st with with_:=decide (v=ie)},v):=by unfold qA;rw[iP hv,iN q,iN h3]
    rw[e]at k;exists I,I,I,sa,I,u_.k (k:=bY (cK key)) (sT _ _ hs) st.small,I;rw[eS];refine k _ (ae.trans ?_) (BT.upd _);rw[<-eS,eV,h4,eB,cb.aeM]
 .rw[decide_eq_false (show ¬(v=ag "Yes"\/v=ag "No")from hv)];refine fI ?_;have e:qA st key v=(st,fJ):=by unfold qA;rw[iN hv]
  rw[e]at k;have:=k _ (sT _ _ hs) BT;rw[show cK fJ=ay "Reject" from eB "Reject"]at this;exact this
def uE(x:List Nat):Bool:=x==ag "CRC32C"||x==ag "None"
def sumK(st:cb)(k v:List Nat):cb×List Nat:=match(dP v).find? uE with
 |some x=>(if k=ag "HeaderDigest" then{st with heads:=x==ag "CRC32C"}else{st with datas:=x==ag "CRC32C"},x)
 |none=>(st,fJ)
def aeR(k:List Nat):Prop:=k=ag "HeaderDigest"\/k=ag "DataDigest"
def uR(x:List Nat):uE x=decide (x=ag "CRC32C"\/x=ag "None"):=by
 have e:∀a b:List Nat,(a==b)=decide (a=b):=λa b=>by
  by_cases h:a=b
  .rw[decide_eq_true h,h];exact beq_self_eq_true _
  .rw[decide_eq_false h];exact beq_eq_false_iff_ne.mpr h
 unfold uE;rw[nH,e,e]
def Ez:T.vC.D P w aR 1 (LL aeR sumK):=by
 refine T.vC.ok ?_;kd_p
 obtain⟨sa,st,key,v,rfl,hs,hk,hl,k⟩:=h;have hu:=lS hr;exists _,(aa (mY d9 rfl (kI (Ij cC dS)) (Cc 3 nd) (aj (bH (bg iq gQ (rJ (i5 dS dS)) (by with_unfolding_all rfl)) (aa (ng hu fF b4 gQ rfl) (aj (aP gQ))) aZ))) (aj (aP (zc T.Cm))));nomatch I,⟨_,rfl⟩,sv v,I,rfl,rfl,by rw[lO,sizeLine_eq];lia,λl tS=>?_
 rw[Ji];have s1:=aS (a_.refl H) tS (.lst (((dP v).map sv).map V.str));nomatch l,rfl,⟨_,fT.of ae⟩,ma (K:=K) (a:=l) (xs:=((dP v).map sv).map V.str) (λi σ H'=>∃v3:Option V,σ=[some (.str (cK key)),some (.str (sv v)),some (.ref sa),v3]/\((dP v).take i).find? uE=none/\H' l=some (.lst (((dP v).map sv).map V.str))/\a_ H H') ⟨none,rfl,rfl,ae,s1⟩ (λi σ H' _⟨_,_,_,g,_⟩=>fT.of g) ?_ ?_
 .rintro i y σ H' hi ⟨v3,rfl,g1,g2,g3⟩;rw[bz,bz]at hi;cases ex:(dP v)[i]? with
  |none=>rw[ex]at hi;cases hi
  |some x=>
   rw[ex]at hi;obtain rfl:=(af hi).symm;nomatch I,(by show 2<=aH;decide),λtp J8=>?_
   have sT:=aS g3 J8 (.tup [V.str (ay "CRC32C"),V.str (ay "None")]);exists tp,I,.inr (l_.of ae),rfl,rfl,I;show if tI (V.str (sv x)) [V.str (ay "CRC32C"),V.str (ay "None")]=true then _ else _;rw[R0 LK Bq,<-uR];refine gM (λq=>?_) (λq=>?_)
   .have ef:(dP v).find? uE=some x:=by
     have Mh:dP v=(dP v).take i++x::(dP v).drop (i+1):=by have hi':=(aE.mp ex).1;have e2:(dP v)[i]=x:=(aE.mp ex).2;rw[<-e2,<-ib hi',O_]
     rw[Mh,Vv,g1,dv,q];rfl
    have hx:x=ag "CRC32C"\/x=ag "None":=by rw[uR]at q;exact of_decide_eq_true q
    have eS:sv x=cK x:=by
     rcases hx with h|h
     .rw[h];exact(uu LK).mpr rfl
     .rw[h];exact(uu Bq).mpr rfl
    have eV:V.str (sv x)=Ed (x==ag "CRC32C"):=by
     unfold Ed;rcases hx with h|h
     .rw[h,beq_self_eq_true,iP rfl];exact congrArg V.str (uD LK)
     .rw[h,show(ag "None"==ag "CRC32C")=false by decide+kernel,iN #[]];exact congrArg V.str (uD Bq)
    have eK:sumK st key v=(if key=ag "HeaderDigest" then{st with heads:=x==ag "CRC32C"}else{st with datas:=x==ag "CRC32C"},x):=by unfold sumK;rw[ef]
    rw[eK]at k;exists I,I,I,sa,I,u_.k (k:=bY (cK key)) (sT _ _ hs) st.small,I;rw[eS];refine k _ (ae.trans ?_) (gU.upd (λc o hc _=>sT c o hc) _);rw[<-eS,eV];rcases hk with h|h
    .rw[h,eB,cb.aeN,iP rfl]
    .rw[h,eB,cb.put2,iN (by decide+kernel)]
   .nomatch I,?_,by rw[aG (ai g2 J8)];exact g2,sT
    rw[fP,ex,Vv,g1];show(match uE x with|true=>some x|false=>none)=none
    rw[q]
 .rintro σ H' ⟨v3,rfl,g1,g2,g3⟩;rw[aK,aK,gJ]at g1;have eK:sumK st key v=(st,fJ):=by unfold sumK;rw[g1]
  rw[eK]at k;have:=k H' (g3 _ _ hs) (λc o hc _=>g3 c o hc);rw[show cK fJ=ay "Reject" from eB "Reject"]at this;exact this
def lZ(k:List Nat):Option (Nat×Nat):=if k=ag "MaxRecvDataSegmentLength"\/k=ag "MaxBurstLength"\/k=ag "FirstBurstLength" then some (512,16777215) else if k=ag "MaxOutstandingR2T"\/k=ag "MaxConnections" then some (1,65535) else if k=ag "ErrorRecoveryLevel" then some (0,2) else if k=ag "DefaultTime2Wait"\/k=ag "DefaultTime2Retain" then some (0,3600)else none
def r8(st:cb)(k:List Nat)(n:Nat):cb×List Nat:=if k=ag "MaxRecvDataSegmentLength" then({st with theirs:=n},eE 8192) else if k=ag "MaxBurstLength" then({st with burst:=min n 262144},eE (min n 262144)) else if k=ag "FirstBurstLength" then({st with first:=min n 65536},eE (min n 65536)) else if k=ag "DefaultTime2Wait" then(st,eE (max n 2)) else if k=ag "MaxOutstandingR2T"\/k=ag "MaxConnections" then(st,eE 1)else(st,eE 0)
def vg(st:cb)(k v:List Nat):cb×List Nat:=match lZ k,kg v with
 |some b,some n=>if b.1<=n/\n<=b.2 then r8 st k n else(st,fJ)
 |_,_=>(st,fJ)
def isNm(k:List Nat):Prop:=∃b,lZ k=some b
def MW(h:lZ k=some b):b.2<=16777215:=by
 unfold lZ at h;split at h
 .obtain rfl:=af h;decide
 .split at h
  .obtain rfl:=af h;decide
  .split at h
   .obtain rfl:=af h;decide
   .split at h
    .obtain rfl:=af h;decide
    .cases h
def uS(h:n<=16777215):((n:Nat):Int).natAbs.log2<1920:=by
 show n.log2<1920;by_cases h0:n=0
 .rw[h0];decide
 .rw[Nat.log2_lt h0];refine Vs h ?_;exact cB (show 16777215<2^24 by decide) (Nat.pow_le_pow_right #[] #[])
def Yi(P:cq)(w:dH)(K:aq)(a:aB)(dh:List (Key×V)):Prop:=Ca P w K a dh/\∀k:List Nat,match lZ k with
 |some b=>∃t,jl dh (.inr (cK k))=some (.ref t)/\∀H,l_ K H t [.int (b.1:Nat),.int (b.2:Nat)]
 |none=>jl dh (.inr (cK k))=none
def MX(T:Txt P w K mg C):∃a dh,mg "NUMBER_KEYS"=some (.ref a)/\Yi P w K a dh:=by
 obtain⟨a,f,hm,hd,h1,h2,h3,h4,h5,h6,h7,h8⟩:=T.D8;nomatch a,_,hm,hd,λk=>?_
 have go:∀s:String,k=ag s->cK k=ay s:=λs h=>by rw[h,eB]
 by_cases c1:k=ag "MaxRecvDataSegmentLength"
 .rw[show lZ k=some (512,16777215) by unfold lZ;rw[iP (.inl c1)],go _ c1];nomatch I,h1
 by_cases c2:k=ag "MaxBurstLength"
 .rw[show lZ k=some (512,16777215) by unfold lZ;rw[iP (.inr (.inl c2))],go _ c2];nomatch I,h2
 by_cases c3:k=ag "FirstBurstLength"
 .rw[show lZ k=some (512,16777215) by unfold lZ;rw[iP (.inr (.inr c3))],go _ c3];nomatch I,h3
 have n1:¬(k=ag "MaxRecvDataSegmentLength"\/k=ag "MaxBurstLength"\/k=ag "FirstBurstLength"):=by
  rintro(z|z|z)
  .exact c1 z
  .exact c2 z
  .exact c3 z
 by_cases c4:k=ag "MaxOutstandingR2T"
 .rw[show lZ k=some (1,65535) by unfold lZ;rw[iN n1,iP (.inl c4)],go _ c4];nomatch I,h4
 by_cases c5:k=ag "MaxConnections"
 .rw[show lZ k=some (1,65535) by unfold lZ;rw[iN n1,iP (.inr c5)],go _ c5];nomatch I,h5
 have n2:¬(k=ag "MaxOutstandingR2T"\/k=ag "MaxConnections"):=by
  rintro(z|z)
  .exact c4 z
  .exact c5 z
 by_cases c6:k=ag "ErrorRecoveryLevel"
 .rw[show lZ k=some (0,2) by unfold lZ;rw[iN n1,iN n2,iP c6],go _ c6];nomatch I,h6
 by_cases c7:k=ag "DefaultTime2Wait"
 .rw[show lZ k=some (0,3600) by unfold lZ;rw[iN n1,iN n2,iN c6,iP (.inl c7)],go _ c7];nomatch I,h7
 by_cases c8:k=ag "DefaultTime2Retain"
 .rw[show lZ k=some (0,3600) by unfold lZ;rw[iN n1,iN n2,iN c6,iP (.inr c8)],go _ c8];nomatch I,h8
 have n3:¬(k=ag "DefaultTime2Wait"\/k=ag "DefaultTime2Retain"):=by
  rintro(z|z)
  .exact c7 z
  .exact c8 z
 rw[show lZ k=none by unfold lZ;rw[iN n1,iN n2,iN c6,iN n3]];have ne:∀s:String,k≠ag s->¬(bY (ay s):Key)=bY (cK k):=λs h z=>h ((yk k s).mp (qL z).symm);show jl _ _=none;rw[jW (ne _ c1),jW (ne _ c2),jW (ne _ c3),jW (ne _ c4),jW (ne _ c5),jW (ne _ c6),jW (ne _ c7),jW (ne _ c8)];rfl
def imax(a b:Nat):(if(b:Int)>(a:Int)then(b:Int)else(a:Int))=((max a b:Nat):Int):=by split<;>lia
def AS:T.sy.D P w aR 2 (LL isNm vg):=by
 refine T.sy.ok ?_;kd_p
 obtain⟨sa,st,key,v,rfl,hs,⟨b,hb⟩,hl,k⟩:=h;obtain⟨a,dh,hm,hd,Yj⟩:=MX T;have hu:=lS hr;exists _,(aa (cJ 3 nd (Uo (rH (v:=.ref a) (by rfl) hm rfl #[]) b4 (λ_ _=>rfl))) (aa (cJ 4 nd (aI (Ey T) (fN cC))) (aa (bH (kR (i_ (mX kS)) (j6 (iH (xk zO zO (fE yY gQ au (λ_ _=>rfl)) kS (fE yY gQ au (λ_ _=>rfl)))))).pt (aj (aP (zc T.Cm))) aZ) (aa (bH (bg fD b4 dS (bD _)) (aa (ng hu fF b4 kS rfl) (aj (aP (iW oO (by rfl) T.MJ Gz (fN (aU T.IH)))))) aZ) (aa (bH (bg fD b4 dS (bD _)) (aa (ng hu fF b4 (bZ (kJ rfl) (by rfl) T.vV qx (i5 kS (aU T.Ay))) rfl) (aj (aP (iW oO (by rfl) T.MJ Gz (fN (m_ hu fF b4 (λ_ _=>rfl))))))) aZ) (aa (bH (bg fD b4 dS (bD _)) (aa (ng hu fF b4 (bZ (kJ rfl) (by rfl) T.vV qx (i5 kS (aU T.sV))) rfl) (aj (aP (iW oO (by rfl) T.MJ Gz (fN (m_ hu fF b4 (λ_ _=>rfl))))))) aZ) (aa (bH (bg fD b4 dS (bD _)) (aj (aP (iW oO (by rfl) T.MJ Gz (fN (bZ (Nm rfl) (by rfl) T.aaD XF (i5 kS (aU T.Az))))))) aZ) (aa (bH (bg iq b4 (rJ (i5 dS dS)) (by with_unfolding_all rfl)) (aj (aP dS)) aZ) (aj (aP dS))))))))));have R9:=Yj key;rw[hb]at R9;obtain⟨bt,hv,ht⟩:=R9;have aeS:=MW hb;have B0:gU sa H H:=gU.refl _ H;have rej:vg st key v=(st,fJ)->Q (.str (ay "Reject")) H:=λe=>by rw[e]at k;have:=k H hs B0;rw[show cK fJ=ay "Reject" from eB "Reject"]at this;exact this
 exists I,a,dh,bY (cK key),I,hd,rfl,hv;exists I,v,rfl,hl;exists I,I;cases en:kg v with
 |none=>refine fI (fI (rej ?_));unfold vg;rw[hb,en]
 |some n=>
  have eK:vg st key v=if b.1<=n/\n<=b.2 then r8 st key n else(st,fJ):=by unfold vg;rw[hb,en]
  refine gY ?_;exists I,bt,_,J,ht H,cM (j:=0) rfl,I,J,I;refine gG (λq1=>?_) (λq1=>?_);rotate_left
  .have q1:¬((b.1:Nat):Int)<=(n:Int):=q1;nomatch I,fI (rej ?_)
   rw[eK,iN (λz=>q1 ())]
  have q1:((b.1:Nat):Int)<=(n:Int):=q1;exists I,bt,_,J,ht H,cM (j:=1) rfl,J,I;by_cases q2:n<=b.2;rotate_left
  .rw[decide_eq_false (show ¬(n:Int)<=((b.2:Nat):Int) by lia)];refine fI (rej ?_);rw[eK,iN (λz=>q2 z.2)]
  rw[decide_eq_true (show(n:Int)<=((b.2:Nat):Int) by lia)];refine gY ?_;rw[eK,iP ⟨(),q2⟩]at k;have hn9:n<=16777215:=();exists I,rfl,I;rw[r6];refine gG (λc=>?_) (λc1=>?_)
  .rw[show r8 st key n=({st with theirs:=n},eE 8192) by unfold r8;rw[iP c]]at k;exists I,I,I,sa,I,u_.k (k:=bY (cK key)) hs st.small,I,uS (n:=8192) #[];have R_:putK st.kv (.inr (cK key)) (V.int (n:Int))=cb.kv {st with theirs:=n}:=by rw[c,eB];exact st.aeO n
   have:=k (upd H sa (.dK (putK st.kv (.inr (cK key)) (V.int (n:Int))))) (ae.trans (by rw[R_])) (B0.upd _);rw[<-Br]at this;exact this
  exists I,rfl,I;rw[r6];refine gG (λc=>?_) (λc2=>?_)
  .rw[show r8 st key n=({st with burst:=min n 262144},eE (min n 262144)) by unfold r8;rw[iN c1,iP c]]at k;have R_:putK st.kv (.inr (cK key)) (V.int (if(262144:Int)<(n:Int)then(262144:Int)else(n:Int)))=cb.kv {st with burst:=min n 262144}:=by rw[show(if(262144:Int)<(n:Int)then(262144:Int)else(n:Int))=((min n 262144:Nat):Int)from RD n 262144,c,eB];exact st.aeP _
   exists I,_,I,I,I,sa,I,u_.k (k:=bY (cK key)) hs st.small;rw[R_];have hg:jl (cb.kv {st with burst:=min n 262144}) (.inr (cK key))=some (V.int ((min n 262144:Nat):Int)):=by rw[c,eB];exact cb.g6 _
   exists I,I,sa,I,(by have q:=lM.k (k:=bY (cK key)) (H:=upd H sa (.dK (cb.kv {st with burst:=min n 262144}))) ae;rw[hg]at q;exact q),I,uS ();have:=k _ ae (B0.upd _);rw[<-Br]at this;exact this
  exists I,rfl,I;rw[r6];refine gG (λc=>?_) (λc3=>?_)
  .rw[show r8 st key n=({st with first:=min n 65536},eE (min n 65536)) by unfold r8;rw[iN c1,iN c2,iP c]]at k;have R_:putK st.kv (.inr (cK key)) (V.int (if(65536:Int)<(n:Int)then(65536:Int)else(n:Int)))=cb.kv {st with first:=min n 65536}:=by rw[show(if(65536:Int)<(n:Int)then(65536:Int)else(n:Int))=((min n 65536:Nat):Int)from RD n 65536,c,eB];exact st.aeQ _
   exists I,_,I,I,I,sa,I,u_.k (k:=bY (cK key)) hs st.small;rw[R_];have hg:jl (cb.kv {st with first:=min n 65536}) (.inr (cK key))=some (V.int ((min n 65536:Nat):Int)):=by rw[c,eB];exact cb.g7 _
   exists I,I,sa,I,(by have q:=lM.k (k:=bY (cK key)) (H:=upd H sa (.dK (cb.kv {st with first:=min n 65536}))) ae;rw[hg]at q;exact q),I,uS ();have:=k _ ae (B0.upd _);rw[<-Br]at this;exact this
  exists I,rfl,I;rw[r6];refine gG (λc=>?_) (λc4=>?_)
  .rw[show r8 st key n=(st,eE (max n 2)) by unfold r8;rw[iN c1,iN c2,iN c3,iP c]]at k;exists I,_,I;rw[show(if(2:Int)>(n:Int)then(2:Int)else(n:Int))=((max n 2:Nat):Int)from imax n 2];exists I,uS ();have:=k H hs B0;rw[<-Br]at this;exact this
  nomatch I,(by show 2<=aH;decide),λtp J8=>?_
  have sT:=aS (a_.refl H) J8 (.tup [V.str (ay "MaxOutstandingR2T"),V.str (ay "MaxConnections")]);exists tp,I,.inr (l_.of ae),rfl,rfl,I;show if tI (V.str (cK key)) [V.str (ay "MaxOutstandingR2T"),V.str (ay "MaxConnections")]=true then _ else _;rw[Zp];refine gG (λc=>?_) (λc5=>?_)
  .rw[show r8 st key n=(st,eE 1) by unfold r8;rw[iN c1,iN c2,iN c3,iN c4,iP c]]at k;have:=k _ (sT _ _ hs) (λc o hc _=>sT c o hc);rw[show cK (eE 1)=ay "1" from TL.rL (by rw[yb];decide+kernel)]at this;exact this
  .rw[show r8 st key n=(st,eE 0) by unfold r8;rw[iN c1,iN c2,iN c3,iN c4,iN c5]]at k;have:=k _ (sT _ _ hs) (λc o hc _=>sT c o hc);rw[show cK (eE 0)=ay "0" from TL.rL (by rw[yb];decide+kernel)]at this;exact this
def Yk:Option (List Nat)->V
 |none=>.eY
 |some a=>.str (cK a)
def k8(st:cb)(k v:List Nat):cb×Option (List Nat):=if(k=ag "InitiatorName"\/k=ag "SessionType"\/k=ag "TargetName")\/k=ag "InitiatorAlias" then(st,none) else if k=ag "AuthMethod" then(st,some (ag "None")) else if k=ag "HeaderDigest"\/k=ag "DataDigest" then((sumK st k v).1,some (sumK st k v).2) else if(k=ag "InitialR2T"\/k=ag "ImmediateData")\/(k=ag "DataPDUInOrder"\/k=ag "DataSequenceInOrder")then((qA st k v).1,some (qA st k v).2) else if(lZ k).isSome=true then((vg st k v).1,some (vg st k v).2)else(st,some (ag "NotUnderstood"))
inductive wc(vs:List V)(H:Hp)(Q:VK)(kn:XK):Prop
 |mk(sa:aB)(st:cb)(k v:List Nat)(_:vs=[.str (cK k),.str (sv v),.ref sa])(_:H sa=some (.dK st.kv))(_:v.length<=255)(_:∀H',H' sa=some (.dK (k8 st k v).1.kv)->gU sa H H'->Q (Yk (k8 st k v).2) H')
def abq{a b:Bool}{X R:Prop}(h1:a=true\/b=true->X)(h2:a=false->b=false->R):if a=true then(if true=true then X else R)else(if b=true then X else R):=by
 cases a with
 |true=>exact h1 (.inl rfl)
 |false=>cases b with
  |true=>exact h1 (.inr rfl)
  |false=>exact h2 rfl rfl
def Sa{c A B B':Prop}[Decidable c](f:B'->B)(h:if c then A else B'):if c then A else B:=by
 split
 .rename_i hc;rw[iP hc]at h;exact h
 .rename_i hc;rw[iN hc]at h;exact f h
def G_:T.xE.D P w aR 3 wc:=by
 refine T.xE.ok ?_;kd_p
 obtain⟨sa,st,key,v,rfl,hs,hl,k⟩:=h;obtain⟨a,dh,hm,hd,Yj⟩:=MX T;exists _,(aa (bH (kR (bg iq b4 (qr T.q_) (by with_unfolding_all rfl)) (j6 (bg fD b4 dS (bD _)))).pt (aj (aP jz)) aZ) (aa (bH (bg fD b4 dS (bD _)) (aj (aP dS)) aZ) (aa (bH (bg iq b4 (qr T.Xs) (by with_unfolding_all rfl)) (aj (aP (aI (Ez T) (mh b4 cC fF)))) aZ) (aa (bH (kR (bg iq b4 (qr T.NQ) (by with_unfolding_all rfl)) (j6 (bg iq b4 (qr T.xU) (by with_unfolding_all rfl)))).pt (aj (aP (aI (AR T) (mh b4 cC fF)))) aZ) (aa (bH (i_ (Xq b4 (rH (v:=.ref a) (by rfl) hm rfl #[]))) (aj (aP (aI (AS T) (mh b4 cC fF)))) aZ) (aj (aP dS)))))));have B0:gU sa H H:=gU.refl _ H;nomatch I,λta yM=>⟨ta,_,rfl,.inr yM,rfl,rfl,_,rfl,?_⟩
 show if tI (V.str (cK key)) [V.str (ay "InitiatorName"),V.str (ay "SessionType"),V.str (ay "TargetName")]=true then _ else _;rw[in3];refine Sa (λz=>⟨_,rfl,rfl,_,rfl,z⟩) ?_;refine abq (λq=>?_) (λq1 q2=>?_)
 .have e:k8 st key v=(st,none):=by
   unfold k8;rw[iP];rcases q with q|q
   .exact .inl (of_decide_eq_true q)
   .exact .inr (by have q:decide (V.str (cK key)=V.str (ay "InitiatorAlias"))=true:=q;rw[r6]at q;exact of_decide_eq_true q)
  rw[e]at k;exact k H hs B0
 have n1:¬((key=ag "InitiatorName"\/key=ag "SessionType"\/key=ag "TargetName")\/key=ag "InitiatorAlias"):=by
  have q2:decide (V.str (cK key)=V.str (ay "InitiatorAlias"))=false:=q2;rw[r6]at q2;rintro(z|z)
  .exact of_decide_eq_false q1 z
  .exact of_decide_eq_false q2 z
 exists I,rfl,I;rw[r6];refine gG (λc=>?_) (λn2=>?_)
 .rw[show k8 st key v=(st,some (ag "None")) by unfold k8;rw[iN n1,iP c]]at k;have:=k H hs B0;rw[show Yk (some (ag "None"))=V.str (ay "None")from congrArg V.str (eB "None")]at this;exact this
 nomatch I,λtb htb=>⟨tb,_,rfl,.inr htb,rfl,rfl,_,rfl,?_⟩
 show if tI (V.str (cK key)) [V.str (ay "HeaderDigest"),V.str (ay "DataDigest")]=true then _ else _;rw[Zp];refine gG (λc=>?_) (λn3=>?_)
 .rw[show k8 st key v=((sumK st key v).1,some (sumK st key v).2) by unfold k8;rw[iN n1,iN n2,iP c]]at k;nomatch I,I,I,sa,st,key,v,rfl,hs,c,hl,k
 nomatch I,λtc htc=>⟨tc,_,rfl,.inr htc,rfl,rfl,_,rfl,?_⟩
 show if tI (V.str (cK key)) [V.str (ay "InitialR2T"),V.str (ay "ImmediateData")]=true then _ else _;rw[Zp];refine Sa (λz=>⟨_,rfl,λtd htd=>⟨td,_,rfl,.inr htd,rfl,rfl,_,rfl,z⟩⟩) ?_;refine abq (λq=>?_) (λq1 q2=>?_)
 .have c:(key=ag "InitialR2T"\/key=ag "ImmediateData")\/(key=ag "DataPDUInOrder"\/key=ag "DataSequenceInOrder"):=by
   rcases q with q|q
   .exact .inl (of_decide_eq_true q)
   .have q:tI (V.str (cK key)) [V.str (ay "DataPDUInOrder"),V.str (ay "DataSequenceInOrder")]=true:=q;rw[Zp]at q;exact .inr (of_decide_eq_true q)
  rw[show k8 st key v=((qA st key v).1,some (qA st key v).2) by unfold k8;rw[iN n1,iN n2,iN n3,iP c]]at k;nomatch I,I,I,sa,st,key,v,rfl,hs,?_,hl,k
  rcases c with(c|c)|c|c
  .exact .inl c
  .exact .inr (.inl c)
  .exact .inr (.inr (.inl c))
  .exact .inr (.inr (.inr c))
 have n4:¬((key=ag "InitialR2T"\/key=ag "ImmediateData")\/(key=ag "DataPDUInOrder"\/key=ag "DataSequenceInOrder")):=by
  have q2:tI (V.str (cK key)) [V.str (ay "DataPDUInOrder"),V.str (ay "DataSequenceInOrder")]=false:=q2;rw[Zp]at q2;rintro(z|z)
  .exact of_decide_eq_false q1 z
  .exact of_decide_eq_false q2 z
 exists I,a,dh,bY (cK key),rfl,hd,rfl,I;have R9:=Yj key;cases hb:lZ key with
 |none=>rw[hb]at R9;have R9:jl dh (.inr (cK key))=none:=R9;rw[R9];refine gY ?_;rw[show k8 st key v=(st,some (ag "NotUnderstood")) by unfold k8;rw[iN n1,iN n2,iN n3,iN n4,hb];rfl]at k;have:=k H hs B0;rw[show Yk (some (ag "NotUnderstood"))=V.str (ay "NotUnderstood")from congrArg V.str (eB "NotUnderstood")]at this;exact this
 |some b=>rw[hb]at R9;obtain⟨t,ht,_⟩:=R9;rw[ht];refine fI ?_;rw[show k8 st key v=((vg st key v).1,some (vg st key v).2) by unfold k8;rw[iN n1,iN n2,iN n3,iN n4,hb];rfl]at k;nomatch I,I,I,sa,st,key,v,rfl,hs,⟨b,hb⟩,hl,k
def abr(x:Nat):cj (x:Int) 3=((x%4:Nat):Int):=by have h:=Ie.nM (x:=(x:Int)) 2 ();exact h
def pO(h:List Nat):Nat:=h.getD 1 0/4%4
def toN(h:List Nat):Nat:=h.getD 1 0%4
inductive Wa(g:List Nat->Nat)(vs:List V)(H:Hp)(Q:VK)(kn:XK):Prop
 |mk(ha h)(_:vs=[.ref ha])(_:fK H ha (nV h))(_:h.length=48)(_:Q (.int (g h:Nat)) H)
def nz:T.vE.D P w aR 1 (Wa pO):=by
 refine T.vE.ok ?_;kd_p
 obtain⟨ha,h,rfl,fh,hl,k⟩:=h;exists _,(aj (aP (bO jJ (bO yV (fE cX b4 au (λ_ _=>rfl)) au) au)));exists I,ha,_,J,fh.sq,cM (gv (i:=1) ()),J,(by show(0:Int)<=2;decide),J;have e:cj (((h.getD 1 0:Nat):Int)/2^(2:Int).toNat) 3=((pO h:Nat):Int):=by have e1:((h.getD 1 0:Nat):Int)/2^(2:Int).toNat=((h.getD 1 0/4:Nat):Int):=rfl;rw[e1,abr];rfl
 show Q (V.int (cj (((h.getD 1 0:Nat):Int)/2^(2:Int).toNat) 3)) H;rw[e];exact k
def wJ:T.Cf.D P w aR 1 (Wa toN):=by
 refine T.Cf.ok ?_;kd_p
 obtain⟨ha,h,rfl,fh,hl,k⟩:=h;exists _,(aj (aP (bO jJ (fE cX b4 au (λ_ _=>rfl)) au)));exists I,ha,_,J,fh.sq,cM (gv (i:=1) ()),J;have e:cj ((h.getD 1 0:Nat):Int) 3=((toN h:Nat):Int):=abr _;show Q (V.int (cj ((h.getD 1 0:Nat):Int) 3)) H;rw[e];exact k
def nA:Option Nat->Nat->Bool
 |none,a=>decide (a<2)
 |some n,a=>decide (a=n)
inductive AU(C:Cl)(vs:List V)(H:Hp)(Q:VK)(kn:XK):Prop
 |mk(sa ha s dy h)(_:vs=[.ref sa,.ref ha])(_:H sa=some (.ins C.Session dy (aV.fs s)))(_:fK H ha (nV h))(_:h.length=48)(_:∀H',a_ H H'->Q (.bl (nA s.stage (pO h))) H')
def Dh:T.tY.D P w aR 2 (AU C):=by
 refine T.tY.ok ?_;kd_p
 obtain⟨sa,ha,s,dy,h,rfl,hs,fh,hl,k⟩:=h;exists _,(aa (bH (i_ (mX (aT b4 rfl))) (aj (aP (gL iq (aI (nz T) (fN cC)) (rJ (i5 au au)) (by with_unfolding_all rfl)))) aZ) (aj (aP (gL fD (aI (nz T) (fN cC)) (aT b4 rfl) (bD _)))));exists I,sa,C.Session,dy,_,I,hs,T.aF,T.fB,s.rS,I;cases AV:s.stage with
 |none=>
  rw[AV]at k;refine fI ?_;nomatch I,ha,h,rfl,fh,hl,(by show 2<=aH;decide),λtp J8=>?_
  exists tp,I,.inr (l_.of ae),rfl,rfl;have e:tI (V.int ((pO h:Nat):Int)) [V.int 0,V.int 1]=nA none (pO h):=by
   show(((0:Int)==((pO h:Nat):Int))||(((1:Int)==((pO h:Nat):Int))||false))=decide (pO h<2)
   generalize pO h=z;by_cases a:z=0
   .subst a;rfl
   by_cases b:z=1
   .subst b;rfl
   rw[decide_eq_false (),beq_eq_false_iff_ne.mpr (),beq_eq_false_iff_ne.mpr ()];rfl
  exact e▸k _ (aS (a_.refl H) J8 _)
 |some n=>
  rw[AV]at k;refine gY ?_;exists I,ha,h,rfl,fh,hl,I,sa,C.Session,dy,_,I,hs,T.aF,T.fB,s.rS;rw[AV];exists rfl;have e:decide (V.int ((pO h:Nat):Int)=zl (some n))=nA (some n) (pO h):=by show decide (V.int ((pO h:Nat):Int)=V.int (n:Int))=decide (pO h=n);apply decide_eq_decide.mpr;nomatch λq=>by have:=V.int.inj q;lia,λq=>by rw[q]
  exact e▸k H (a_.refl H)
def my(h:List Nat):Bool:=if bit (h.getD 1 0) 7=false then decide (toN h=0)else decide ((pO h=0/\toN h=1)\/(pO h=0/\toN h=3)\/(pO h=1/\toN h=3))
inductive Di(vs:List V)(H:Hp)(Q:VK)(kn:XK):Prop
 |mk(ha h)(_:vs=[.ref ha])(_:fK H ha (nV h))(_:h.length=48)(_:∀H',a_ H H'->Q (.bl (my h)) H')
def EA:T.vF.D P w aR 2 Di:=by
 refine T.vF.ok ?_;kd_p
 obtain⟨ha,h,rfl,fh,hl,k⟩:=h;obtain⟨sta,Ph,kx⟩:=T.Us;exists _,(aa (bH (bg fD (bO jJ (fE cX b4 au (λ_ _=>rfl)) (aU T.MG)) au (bD _)) (aj (aP (gL fD (aI (wJ T) (fN b4)) au (bD _)))) aZ) (aj (aP (gL (B_ hr.Ir) (rJ (i5 (aI (nz T) (fN b4)) (aI (wJ T) (fN b4)))) (rH (v:=.ref sta) (by rfl) Ph rfl #[]) (by with_unfolding_all rfl)))));have e7:=RC (h.getD 1 0) 7;exists I,ha,_,J,fh.sq,cM (gv (i:=1) ()),J,rfl,I;show if decide (V.int (cj ((h.getD 1 0:Nat):Int) ((2^7:Nat):Int))=V.int 0)=true then _ else _;rw[e7];cases h7:bit (h.getD 1 0) 7 with
 |false=>
  refine fI ?_;exists I,ha,h,rfl,fh,hl,rfl;have e:decide (V.int ((toN h:Nat):Int)=V.int 0)=my h:=by unfold my;rw[iP h7];apply decide_eq_decide.mpr;nomatch λq=>by have:=V.int.inj q;lia,λq=>by rw[q];rfl
  exact e▸k H (a_.refl H)
 |true=>
  refine gY ?_;nomatch I,ha,h,rfl,fh,hl,I,ha,h,rfl,fh,hl,(by show 2<=aH;decide),λtp J8=>?_
  have sT:=aS (a_.refl H) J8 (.tup [V.int ((pO h:Nat):Int),V.int ((toN h:Nat):Int)]);obtain⟨xs,Zg,Tc⟩:=kx (upd H tp (.tup [V.int ((pO h:Nat):Int),V.int ((toN h:Nat):Int)]));exists sta,xs,.tuple [.int ((pO h:Nat):Int),.int ((toN h:Nat):Int)],I,.inr Zg,Tc,.tup (l_.of ae) (.cons (.int _) (.cons (.int _) .nil)),rfl,rfl;have e:(([.tuple [.int 0,.int 1],.tuple [.int 0,.int 3],.tuple [.int 1,.int 3]]:List PyData).any λe=>PyData.eqv e (.tuple [.int ((pO h:Nat):Int),.int ((toN h:Nat):Int)]))=my h:=by
   unfold my;rw[iN (by rw[h7];decide)];generalize pO h=a;generalize toN h=t;show(((0:Int)==(a:Int))&&((((1:Int)==(t:Int))&&true))||((((0:Int)==(a:Int))&&((((3:Int)==(t:Int))&&true)))||((((1:Int)==(a:Int))&&((((3:Int)==(t:Int))&&true)))||false)))=_
   have b:∀(i:Int)(n:Nat),i=(n:Int)\/¬i=(n:Int):=λi n=>Classical.em _;rw[pJ];simp only[ky,cz,beq_iff_eq,and_true,sO,decide_eq_true_eq];lia
  exact e▸k _ sT
theorem mx.same(h:mx H p l)(s:a_ H H'):mx H' p l:=by obtain⟨as,h1,h2,h3⟩:=h;nomatch as,fK.same h1 s,h2,λj a q ha hq=>s _ _ (h3 j a q ha hq)
def ik:List bL->List Pr->Bool
 |seen,[]=>decide (seen.length<=64)
 |seen,q::l=>if cK q.1∈seen then false else ik (seen++[cK q.1]) l
def Jx(seen:List bL)(k:bL):(jl (g_ seen) (.inr k)).isSome=decide (k∈seen):=by
 unfold g_;induction seen with
 |nil=>rfl
 |cons x r ih=>
  rw[bp];by_cases h:x=k
  .rw[xq (show((bY x:Key),V.bl true).1=bY k from congrArg bY h)];rw[decide_eq_true (by rw[h];exact bI)];rfl
  .rw[jW (show ¬((bY x:Key),V.bl true).1=bY k from λz=>h (qL z)),ih];apply decide_eq_decide.mpr;simp[aL h]
def Jy{seen:List bL}{k:bL}(h:k∉seen):putK (g_ seen) (.inr k) (V.bl true)=g_ (seen++[k]):=by
 have hv:jl (g_ seen) (.inr k)=none:=by
  have:=Jx seen k;rw[decide_eq_false h]at this;cases e:jl (g_ seen) (.inr k)with
  |none=>rfl
  |some _=>rw[e]at this;cases this
 rw[xr _ hv];unfold g_;rw[bW];rfl
inductive AW(C:Cl)(vs:List V)(H:Hp)(Q:VK)(kn:XK):Prop
 |mk(sa pa:aB)(s:aV)(dy:aB)(seen:List bL)(l:List Pr)(_:vs=[.ref sa,.ref pa])(_:H sa=some (.ins C.Session dy (aV.fs s)))(_:H s.gV=some (.dK (g_ seen)))(_:mx H pa l)(_:seen.length<=64)(_:l.length<=10000)(_:∀H',a_ H H'->Q (.bl (ik seen l)) H')
def Dj:T.tZ.D P w aR 1 (AW C):=by
 refine T.tZ.ok ?_;kd_p
 obtain⟨sa,pa,s,dy,seen,l,rfl,hs,Pj,hP,Ph,hlm,k⟩:=h;have hu:=lS hr;exists _,(aa (cJ 2 nd (iW rO (by rfl) T.zg uL (fN (aT b4 rfl)))) (aa (mY d9 rfl (kI cC) (Cc 3 nd) (aa (bH (i_ (Qk hu (fE yY gQ au (λ_ _=>rfl)) fF)) (aj (aP kP)) aZ) (aj (ng hu fF (fE yY gQ au (λ_ _=>rfl)) kP rfl)))) (aj (aP (gL zO (bZ za (by rfl) T.gT fQ (fN fF)) (aU T.IJ) (bD _))))));nomatch I,sa,C.Session,dy,_,I,hs,T.aF,T.ig,s.Gy,s.gV,I,.inl Pj,λda LM=>?_
 have s1:=aS (a_.refl H) LM (.dK (g_ seen));obtain⟨as,p1,p2,p3⟩:=hP;nomatch I,pa,rfl,⟨_,(fK.same p1 s1).sq⟩,ma (K:=K) (a:=pa) (xs:=as.map V.ref) (λi σ H'=>∃(v3:Option V)(sn:List bL),σ=[some (.ref sa),some (.ref pa),some (.ref da),v3]/\H' da=some (.dK (g_ sn))/\sn.length=seen.length+i/\ik seen l=ik sn (l.drop i)/\a_ H H') ⟨none,seen,rfl,ae,rfl,rfl,s1⟩ (λi σ H' _⟨_,_,_,_,_,_,g⟩=>(fK.same p1 g).sq) ?_ ?_
 .rintro i y σ H' hi ⟨v3,sn,rfl,g1,g2,g3,g4⟩;rw[bz]at hi;cases ea:as[i]? with
  |none=>rw[ea]at hi;cases hi
  |some c=>
   rw[ea]at hi;obtain rfl:=(af hi).symm;have Pd:i<l.length:=by rw[<-p2];exact(aE.mp ea).1
   have eq:l[i]? =some l[i]:=aX Pd;have hp:=g4 _ _ (p3 i c _ ea eq);have Jz:l.drop i=l[i]::l.drop (i+1):=ib Pd;rw[Jz,ik]at g3;exists I,c,_,J,l_.of hp,cM (j:=0) rfl,I,da,I,lM.k (k:=bY (cK l[i].1)) g1,I;rw[Jx];refine gG (λq=>?_) (λq=>?_)
   .rw[iP q]at g3;rw[g3]at k;exact k H' g4
   .rw[iN q]at g3;exists I,I,c,_,J,l_.of hp,cM (j:=0) rfl,da,I,u_.k (k:=bY (cK l[i].1)) g1 (by unfold g_;rw[aK,g2,sizeLine_eq];lia);rw[Jy q];nomatch _,sn++[cK l[i].1],rfl,ae,by rw[az,g2];simp only[aN,bN];lia,g3,λc o hc=>by rw[aG (ai hc LM)];exact g4 c o hc
 .rintro σ H' ⟨v3,sn,rfl,g1,g2,g3,g4⟩;rw[aK,p2,lJ,ik]at g3;exists I,da,I,g1,J;have e:decide (((g_ sn).length:Int)<=64)=decide (sn.length<=64):=by unfold g_;rw[aK];apply decide_eq_decide.mpr;lia
  rw[g3]at k;show Q (V.bl (decide (((g_ sn).length:Int)<=64))) H';rw[e];exact k H' g4
def kj(stage:Option Nat)(seen:List bL)(h:List Nat)(o:Option (List Pr)):Option Nat:=if h.getD 1 0/16%8≠0 then some 0 else if h.getD 3 0≠0 then some 5 else if ax h 14 2≠0 then some 10 else if nA stage (pO h)=false\/my h=false then some 0 else match o with
  |none=>some 0
  |some l=>if ik seen l=false then some 0 else none
def Ha(H:Hp):Option (List Pr)->V->Prop
 |none,v=>v= .eY
 |some l,v=>∃p,v= .ref p/\mx H p l/\l.length<=10000
def Yl{x:Nat}(hx:x<256):(!decide (V.int (cj (x:Int) 112)=V.int 0))=decide (x/16%8≠0):=by
 have key:∀y,y<256->((y&&& 112=0)↔y/16%8=0):=by decide+kernel
 have e:cj (x:Int) 112=((x&&& 112:Nat):Int):=rfl;rw[e];by_cases h:x/16%8=0
 .rw[decide_eq_true (congrArg V.int (by rw[(key x hx).mpr h];rfl)),decide_eq_false (λz=>z h)];rfl
 .rw[decide_eq_false (λz=>h ((key x hx).mp (by have:=V.int.inj z;lia))),decide_eq_true h];rfl
inductive wK(C:Cl)(vs:List V)(H:Hp)(Q:VK)(kn:XK):Prop
 |mk(sa ha:aB)(pv:V)(s:aV)(dy:aB)(seen:List bL)(h:List Nat)(o:Option (List Pr))(_:vs=[.ref sa,.ref ha,pv])(_:H sa=some (.ins C.Session dy (aV.fs s)))(_:H s.gV=some (.dK (g_ seen)))(_:seen.length<=64)(_:fK H ha (nV h))(_:h.length=48)(_:fU h)(_:Ha H o pv)(_:∀H',a_ H H'->Q (G9 (kj s.stage seen h o)) H')
def yl:T.p6.D P w aR 3 (wK C):=by
 refine T.p6.ok ?_;kd_p
 obtain⟨sa,ha,pv',s,dy,seen,h,o,rfl,hs,Pj,Ph,fh,hl,oh,hP,k⟩:=h;exists _,(aa (bH (bg k_ (bO jJ (fE cX cC au (λ_ _=>rfl)) (aU T.Cp)) au (bD _)) (aj (aP (aU T.nk))) aZ) (aa (bH (bg k_ (fE cX cC au (λ_ _=>rfl)) au (bD _)) (aj (aP (aU T.AA))) aZ) (aa (bH (bg k_ (aI (dY T) (mh cC au au)) au (bD _)) (aj (aP (aU T.xV))) aZ) (aa (bH (kR (iH (dA (aI (Dh T) (i5 b4 cC)))) (j6 (iH (dA (aI (EA T) (fN cC)))))).pt (aj (aP (aU T.nk))) aZ) (aa (bH (kR (i_ (mX fF)) (j6 (iH (dA (aI (Dj T) (i5 b4 fF)))))).pt (aj (aP (aU T.nk))) aZ) (aj (aP jz)))))));exists I,ha,_,J,fh.sq,cM (gv (i:=1) ()),J,rfl,I;show if(!decide (V.int (cj ((h.getD 1 0:Nat):Int) 112)=V.int 0))=true then _ else _;rw[Yl (uC oh 1)];unfold kj at k;refine gG (λq=>?_) (λn1=>?_)
 .rw[iP q]at k;exact k H (a_.refl H)
 rw[iN n1]at k;exists I,ha,_,J,fh.sq,cM (gv (i:=3) ()),rfl,I;refine gM (λq=>?_) (λq=>?_)
 .rw[iP (λz=>by rw[show(!decide (V.int ((h.getD 3 0:Nat):Int)=V.int 0))=false by rw[z];rfl]at q;cases q)]at k;exact k H (a_.refl H)
 have n2:¬h.getD 3 0≠0:=λz=>by have q:(!decide (V.int ((h.getD 3 0:Nat):Int)=V.int 0))=false:=q;rw[decide_eq_false (λy=>z (by have:=V.int.inj y;lia))]at q;cases q
 rw[iN n2]at k;nomatch I,ha,h,14,2,rfl,fh.sq,λH1 s1=>⟨rfl,_,rfl,?_⟩
 refine gM (λq=>?_) (λq=>?_)
 .rw[iP (λz=>by rw[show(!decide (V.int ((ax h 14 2:Nat):Int)=V.int 0))=false by rw[z];rfl]at q;cases q)]at k;exact k H1 s1
 have n3:¬ax h 14 2≠0:=λz=>by have q:(!decide (V.int ((ax h 14 2:Nat):Int)=V.int 0))=false:=q;rw[decide_eq_false (λy=>z (by have:=V.int.inj y;lia))]at q;cases q
 rw[iN n3]at k;nomatch I,I,sa,ha,s,dy,h,rfl,s1 _ _ hs,fK.same fh s1,hl,λH2 s2=>⟨_,rfl,?_⟩
 have qJ:=s1.trans s2;refine gM (λq=>?_) (λq=>?_)
 .rw[iP (.inl (by simpa using q))]at k;exact fI (k H2 qJ)
 have q1:nA s.stage (pO h)=true:=by simpa using q
 nomatch I,ha,h,rfl,fK.same fh qJ,hl,λH3 s3=>⟨_,rfl,?_⟩
 have C2:=qJ.trans s3;refine gM (λu=>?_) (λu=>?_)
 .rw[iP (.inr (by simpa using u))]at k;exact k H3 C2
 have u1:my h=true:=by simpa using u
 rw[iN (by rintro(z|z);rw[q1]at z;cases z;rw[u1]at z;cases z)]at k
 exists I,I;cases o with
 |none=>rw[show pv'=V.eY from hP];exact fI (fI (k H3 C2))
 |some l=>
  obtain⟨p,rfl,hPa,hll⟩:=hP;refine gY ?_;nomatch I,I,sa,p,s,dy,seen,l,rfl,C2 _ _ hs,C2 _ _ Pj,hPa.same C2,Ph,hll,λH4 s4=>⟨_,rfl,?_⟩
  have s14:=C2.trans s4;refine gM (λx=>?_) (λx=>?_)
  .have k:∀H',a_ H H'->Q (G9 (if ik seen l=false then some 0 else none)) H':=k;rw[iP (by simpa using x)]at k;exact k H4 s14
  .have k:∀H',a_ H H'->Q (G9 (if ik seen l=false then some 0 else none)) H':=k;have x1:ik seen l=true:=by simpa using x
   rw[iN (by rw[x1];decide)]at k;exact k H4 s14
def iJ(first:Bool):List Pr->Option Nat
 | []=>none
 |q::l=>if(q.1=ag "InitiatorName"\/q.1=ag "SessionType"\/q.1=ag "TargetName")/\first=false then some 0 else if q.1=ag "AuthMethod"/\ag "None"∉dP q.2 then some 1 else iJ first l
def Sb(v:List Nat):tI (V.str (ay "None")) (((dP v).map sv).map V.str)=decide (ag "None"∈dP v):=by
 unfold tI;rw[nB,nB];generalize dP v=l;induction l with
 |nil=>rfl
 |cons x r ih=>
  rw[fg,ih];show((sv x==ay "None")||decide (ag "None"∈r))=decide (ag "None"∈x::r)
  have e:(sv x==ay "None")=decide (x=ag "None"):=by rw[<-LH Bq x];exact BEq.comm
  rw[e,<-nH];apply decide_eq_decide.mpr;rw[ak];nomatch λh=>h.elim (λz=>.inl z.symm) .inr,λh=>h.elim (λz=>.inl z.symm) .inr
def OK(l:List bL):(l.map V.str).all pV=true:=by rw[By];exact dI.mpr λ_ _=>rfl
inductive wL(vs:List V)(H:Hp)(Q:VK)(kn:XK):Prop
 |mk(first:Bool)(pa:aB)(l:List Pr)(_:vs=[.bl first,.ref pa])(_:mx H pa l)(_:(∀q∈l,q.2.length<=255))(_:∀H',a_ H H'->Q (G9 (iJ first l)) H')
def ym:T.p7.D P w aR 1 wL:=by
 refine T.p7.ok ?_;kd_p
 obtain⟨first,pa,l,rfl,hP,hv,k⟩:=h;exists _,(aa (mY d9 rfl (kI cC) (F0 rfl (nL (Cc 2 nd) (nL (Cc 3 nd) A8))) (aa (bH (nZ (bg iq fF (qr T.q_) (by with_unfolding_all rfl)) (lF (iH (dA b4)))).pt (aj (aP (aU T.nk))) aZ) (aj (bH (nZ (bg fD fF dS (bD _)) (lF (bg rK dS (Ij gQ dS) (by with_unfolding_all rfl)))).pt (aj (aP (aU T.IL))) aZ)))) (aj (aP jz)));obtain⟨as,p1,p2,p3⟩:=hP;nomatch I,pa,rfl,⟨_,p1.sq⟩,ma (K:=K) (a:=pa) (xs:=as.map V.ref) (λi σ H'=>∃(v2 v3:Option V),σ=[some (.bl first),some (.ref pa),v2,v3]/\iJ first l=iJ first (l.drop i)/\a_ H H') ⟨none,none,rfl,rfl,a_.refl H⟩ (λi σ H' _⟨_,_,_,_,g⟩=>(fK.same p1 g).sq) ?_ ?_
 .rintro i y σ H' hi ⟨v2,v3,rfl,g3,g4⟩;rw[bz]at hi;cases ea:as[i]? with
  |none=>rw[ea]at hi;cases hi
  |some c=>
   rw[ea]at hi;obtain rfl:=(af hi).symm;have Pd:i<l.length:=by rw[<-p2];exact(aE.mp ea).1
   have eq:l[i]? =some l[i]:=aX Pd;have hp:=g4 _ _ (p3 i c _ ea eq);have TZ:=hv l[i] (tj Pd);have Jz:l.drop i=l[i]::l.drop (i+1):=ib Pd;rw[Jz,iJ]at g3;generalize l[i]=pr at hp TZ g3;exists c,I,l_.of hp,rfl,_,I,J;nomatch I,λta yM=>⟨ta,_,rfl,.inr yM,rfl,rfl,_,rfl,?_⟩
   show if tI (V.str (cK pr.1)) [V.str (ay "InitiatorName"),V.str (ay "SessionType"),V.str (ay "TargetName")]=true then _ else _;rw[in3];refine CP (λz=>⟨_,rfl,_,rfl,z⟩) ?_;refine Jj (λq1 q2=>?_) (λhA=>?_)
   .rw[iP ⟨of_decide_eq_true q1,by simpa using q2⟩]at g3;rw[g3]at k;exact k H' g4
   rw[iN (λz=>hA ⟨decide_eq_true z.1,by rw[z.2];rfl⟩)]at g3;exists I,rfl,I;rw[r6];by_cases c2:pr.1=ag "AuthMethod"
   .rw[decide_eq_true c2];refine fI ?_;nomatch I,⟨_,rfl⟩,sv pr.2,I,rfl,rfl,by rw[lO,sizeLine_eq];lia,λlp Zq=>?_
    rw[Ji];have sL:=aS g4 Zq (.lst (((dP pr.2).map sv).map V.str));exists lp,I,.inl (fT.of ae),rfl,OK _,I;show if(!tI (V.str (ay "None")) (((dP pr.2).map sv).map V.str))=true then _ else _;rw[Sb];by_cases c3:ag "None"∈dP pr.2
    .rw[decide_eq_true c3];refine gY ?_;rw[iN (λz=>z.2 c3)]at g3;nomatch _,I,g3,sL
    .rw[decide_eq_false c3];refine fI ?_;rw[iP ⟨c2,c3⟩]at g3;rw[g3]at k;exact k _ sL
   .rw[decide_eq_false c2];refine gY (gY ?_);rw[iN (λz=>c2 z.1)]at g3;nomatch _,I,g3,g4
 .rintro σ H' ⟨v2,v3,rfl,g3,g4⟩;rw[aK,p2,lJ,iJ]at g3;rw[g3]at k;exact k H' g4
def AX(l:List Pr):List (Key×V):=l.map λq=>(.inr (cK q.1),.str (sv q.2))
theorem JA:∀(more acc:List (Key×V)),((acc++more).map (·.1)).Nodup->qp acc more=acc++more
 | [],acc,_=>by rw[eT];rfl
 |p::more,acc,h=>by
  have hn:jl acc p.1=none:=by
   cases e:jl acc p.1 with
   |none=>rfl
   |some v=>have hm:=Ue e;rw[bW,BA]at h;exact absurd rfl (h.2.2 p.1 hm p.1 (by simp))
  have e1:qp acc (p::more)=qp (putK acc p.1 p.2) more:=rfl;rw[e1,xr _ hn];have e2:acc++[(p.1,p.2)]++more=acc++p::more:=by simp
  rw[JA more (acc++[(p.1,p.2)]) (by rw[e2];exact h),e2]
def lz(l:List Pr)(t:String):Option (List Nat):=(l.find? λp=>p.1==ag t).map λp=>p.2
def yn(l:List Pr)(t:String):jl (AX l) (.inr (ay t))=(lz l t).map λv=>V.str (sv v):=by
 unfold lz AX;induction l with
 |nil=>rfl
 |cons q r ih=>
  rw[bp,dv];by_cases h:q.1=ag t
  .rw[xq (show((bY (cK q.1):Key),V.str (sv q.2)).1=bY (ay t)from congrArg bY ((yk _ _).mpr h)),show(q.1==ag t)=true from beq_iff_eq.mpr h];rfl
  .rw[jW (show ¬((bY (cK q.1):Key),V.str (sv q.2)).1=bY (ay t)from λz=>h ((yk _ _).mp (qL z))),ih,show(q.1==ag t)=false from beq_eq_false_iff_ne.mpr h]
def lA(l:List Pr):Option Nat:=if(lz l "InitiatorName").getD []=[]\/223<((lz l "InitiatorName").getD []).length then some 7 else if(lz l "SessionType").getD (ag "Normal")≠ag "Normal" then some 9 else if lz l "TargetName"=none then some 7 else if lz l "TargetName"≠some L5 then some 3 else none
def FI:Known (ag "Normal"):=o4 (by decide+kernel)
def UT:Known (ag "iqn.2026-11.example:disk"):=o4 (by decide+kernel)
def Sd(hs:Known (ag s))(v:List Nat):decide (V.str (sv v)=V.str (ay s))=decide (v=ag s):=by unfold sv;rw[r6];apply decide_eq_decide.mpr;exact wD hs
inductive vh(vs:List V)(H:Hp)(Q:VK)(kn:XK):Prop
 |mk(pa:aB)(l:List Pr)(_:vs=[.ref pa])(_:mx H pa l)(_:(∀q∈l,q.2.length<=255))(_:(l.map (·.1)).Nodup)(_:∀H',a_ H H'->Q (G9 (lA l)) H')
def Se(hv:∀q∈l,q.2.length<=255)(h:lz l t=some v):v.length<=255:=by
 unfold lz at h;cases e:l.find? λp=>p.1==ag t with
 |none=>rw[e]at h;cases h
 |some q=>rw[e]at h;obtain rfl:=af h;exact hv q (fw e)
def wM:T.pb.D P w aR 1 vh:=by
 refine T.pb.ok ?_;kd_p
 obtain⟨pa,l,rfl,hP,hv,ndl,k⟩:=h;have hu:=lS hr;exists _,(aa (cJ 1 nd (iW (Kz rfl) (by rfl) T.zg uL (fN b4))) (aa (bH (iH (xk zO zO au (bZ cV (by rfl) T.gT fQ (fN (BR hu cC dS dS ⟨rfl,rfl,rfl,rfl⟩))) (aU T.Cq))) (aj (aP (aU T.ue))) aZ) (aa (bH (bg k_ (BR hu cC dS dS ⟨rfl,rfl,rfl,rfl⟩) dS (bD _)) (aj (aP (aU T.AB))) aZ) (aa (bH (i_ (EZ hu dS cC)) (aj (aP (aU T.ue))) aZ) (aa (bH (bg k_ (m_ hu cC dS (λ_ _=>rfl)) (zc T.IK) (bD _)) (aj (aP (aU T.IM))) aZ) (aj (aP jz)))))));obtain⟨as,p1,p2,p3⟩:=hP;have abu:∀(as:List aB)(l:List Pr),as.length=l.length->(∀(j:Nat)(a:aB)(q:Pr),as[j]? =some a->l[j]? =some q->Dd H a q)->Paired (λp kv=>l_ K H p [kV kv.1,kv.2]) as (AX l):=by
  intro as;induction as with
  |nil=>intro l hl _;cases l with|nil=>exact .nil|cons _ _=>cases hl
  |cons a r ih=>
   intro l hl h;cases l with
   |nil=>cases hl
   |cons q l=>refine .cons (l_.of (h 0 a q rfl rfl)) (ih l (by simpa using hl) λj a' q' h1 h2=>h (j+1) a' q' h1 h2)
 have ndk:((AX l).map (·.1)).Nodup:=by unfold AX;rw[cY];have e:((λx:Key×V=>x.1)∘ λq:Pr=>((bY (cK q.1):Key),V.str (sv q.2)))=(λx=>(bY (cK x):Key))∘ λq:Pr=>q.1:=rfl;rw[e,<-cY];exact Kh.map _ (λa b h z=>h (CO (qL z))) ndl
 nomatch I,pa,as,AX l,rfl,p1.sq,abu as l p2 p3,λda LM=>?_
 rw[JA (AX l) [] (by rw[cx];exact ndk),cx];have s1:=aS (a_.refl H) LM (.dK (AX l));have hd:upd H da (.dK (AX l)) da=some (.dK (AX l)):=ae;generalize Zl:upd H da (.dK (AX l))=H1 at s1 hd;have k:=k H1 s1;unfold lA at k;exists I,da,rfl,.inl ⟨_,.inl hd⟩,_,lM.k (k:=bY (ay "InitiatorName")) hd;rw[yn];obtain⟨LN,ew,ev,YW⟩:∃LN,(lz l "InitiatorName").getD []=LN/\(((lz l "InitiatorName").map λv=>V.str (sv v)).getD (V.str (ay "")))=V.str (sv LN)/\LN.length<=255:=by
  cases e:lz l "InitiatorName" with
  |none=>nomatch[],rfl,congrArg V.str (TL.rL rfl),#[]
  |some v=>nomatch v,rfl,rfl,Se hv e
 rw[ew]at k;rw[ev];exists _,LN.length,rfl,⟨by rw[lO,sizeLine_eq];lia,by rw[lO]⟩,J,I;have abv:(LN=[]\/223<LN.length)->Q (.int 7) H1:=λz=>by rw[iP z]at k;exact k
 refine gG (λq1=>?_) (λq1=>?_);rotate_left
 .have q1:¬(1:Int)<=((LN.length:Nat):Int):=q1;nomatch I,fI (abv (.inl (jT.mp ())))
 have q1:(1:Int)<=((LN.length:Nat):Int):=q1;exists J,I;by_cases q2:LN.length<=223;rotate_left
 .rw[decide_eq_false (show ¬((LN.length:Nat):Int)<=223 by lia)];exact fI (abv (.inr ()))
 rw[decide_eq_true (show((LN.length:Nat):Int)<=223 by lia)];refine gY ?_;rw[iN (by
  rintro(z|z)
  .rw[z]at q1;simp at q1
  .lia)]at k
 exists I,da,rfl,.inl ⟨_,.inl hd⟩,_,lM.k (k:=bY (ay "SessionType")) hd;rw[yn];obtain⟨ty,et,ev2⟩:∃ty,(lz l "SessionType").getD (ag "Normal")=ty/\(((lz l "SessionType").map λv=>V.str (sv v)).getD (V.str (ay "Normal")))=V.str (sv ty):=by
  cases e:lz l "SessionType" with
  |none=>nomatch I,congrArg V.str (uD FI).symm
  |some v=>nomatch v,rfl,rfl
 rw[et]at k;rw[ev2];exists rfl,I;rw[Sd FI];by_cases q3:ty=ag "Normal";rotate_left
 .rw[decide_eq_false q3];rw[iP q3]at k;exact fI k
 rw[decide_eq_true q3];refine gY ?_;rw[iN (λz=>z q3)]at k;exists I,da,I,lM.k (k:=bY (ay "TargetName")) hd,I;rw[yn];cases e:lz l "TargetName" with
 |none=>rw[e,iP rfl]at k;exact fI k
 |some tn=>
  rw[e,iN nofun]at k;refine gY ?_;have hv3:jl (AX l) (.inr (ay "TargetName"))=some (V.str (sv tn)):=by rw[yn,e];rfl
  exists I,da,I,(by have q:=lM.k (k:=bY (ay "TargetName")) hd;rw[hv3]at q;exact q),rfl,I;rw[Sd UT];by_cases q4:tn=ag "iqn.2026-11.example:disk"
  .rw[decide_eq_true q4];refine gY ?_;rw[iN (λz=>z (by rw[q4];rfl))]at k;exact k
  .rw[decide_eq_false q4];refine fI ?_;rw[iP (show some tn≠some L5 from λz=>q4 (af z))]at k;exact k
def r9(stage:Option Nat)(seen:List bL)(h:List Nat)(o:Option (List Pr)):Option Nat:=match kj stage seen h o with
 |some d=>some d
 |none=>match o with
  |none=>some 0
  |some l=>if stage=none then(match lA l with
   |some d=>some d
   |none=>iJ true l)else iJ false l
theorem uF:∀(l:List Pr)(seen:List bL),ik seen l=true->(l.map (·.1)).Nodup/\(∀q∈l,cK q.1∉seen)/\seen.length+l.length<=64
 | [],seen,h=>⟨nG,(λq hq=>nomatch hq),by have:=of_decide_eq_true h;simpa using this⟩
 |q::l,seen,h=>by
  rw[ik]at h;split at h
  .cases h
  .rename_i hn;obtain⟨h1,h2,h3⟩:=uF l _ h;nomatch ?_,λx hx=>?_,by rw[az]at h3;simp only[aN,bN]at h3 ⊢;lia
   .rw[bp,cU];nomatch λhm=>?_,h1
    obtain⟨y,hy,e⟩:=cG.mp hm;exact h2 y hy (by rw[e];simp)
   .rcases ak.mp hx with rfl|hx
    .exact hn
    .exact λz=>h2 x hx (by simp[z])
def FJ{stage:Option Nat}{seen:List bL}{h:List Nat}{o:Option (List Pr)}(e:kj stage seen h o=none):∃l,o=some l/\ik seen l=true:=by
 unfold kj at e;split at e
 .cases e
 .split at e
  .cases e
  .split at e
   .cases e
   .split at e
    .cases e
    .cases o with
     |none=>cases e
     |some l=>
      exists l,rfl;cases hf:ik seen l with
      |true=>rfl
      |false=>have e:(if ik seen l=false then some 0 else none)=none:=e;rw[iP hf]at e;cases e
inductive EB(C:Cl)(vs:List V)(H:Hp)(Q:VK)(kn:XK):Prop
 |mk(sa ha:aB)(pv:V)(s:aV)(dy:aB)(seen:List bL)(h:List Nat)(o:Option (List Pr))(_:vs=[.ref sa,.ref ha,pv])(_:H sa=some (.ins C.Session dy (aV.fs s)))(_:H s.gV=some (.dK (g_ seen)))(_:seen.length<=64)(_:fK H ha (nV h))(_:h.length=48)(_:fU h)(_:Ha H o pv)(_:(∀l,o=some l->∀q∈l,q.2.length<=255))(_:∀H',a_ H H'->Q (G9 (r9 s.stage seen h o)) H')
def Hb:T.xH.D P w aR 4 (EB C):=by
 refine T.xH.ok ?_;kd_p
 obtain⟨sa,ha,pv',s,dy,seen,h,o,rfl,hs,Pj,Ph,fh,hl,oh,hP,hv,k⟩:=h;exists _,(aa (cJ 3 nd (aI (yl T) (mh b4 cC fF))) (aa (bH (i_ (xi gQ)) (aj (aP gQ)) aZ) (aa (cJ 4 nd (Wy (mX (aT b4 rfl)))) (aa (bH (dA kS) (aa (cJ 3 nd (aI (wM T) (fN fF))) (aj (bH (i_ (xi gQ)) (aj (aP gQ)) aZ))) aZ) (aj (aP (aI (ym T) (i5 kS fF))))))));nomatch I,I,I,sa,ha,pv',s,dy,seen,h,o,rfl,hs,Pj,Ph,fh,hl,oh,hP,λH1 s1=>?_
 exists I,I;unfold r9 at k;cases ef:kj s.stage seen h o with
 |some d=>rw[ef]at k;refine fI ?_;nomatch I,k H1 s1
 |none=>
  rw[ef]at k;refine gY ?_;obtain⟨l,rfl,y6⟩:=FJ ef;obtain⟨p,rfl,hPa,hll⟩:=hP;obtain⟨nd,_,_⟩:=uF l seen y6;have TZ:=hv l rfl;exists I,sa,C.Session,dy,_,I,s1 _ _ hs,T.aF,T.fB,s.rS;cases AV:s.stage with
  |none=>
   rw[AV]at k;have k:∀H',a_ H H'->Q (G9 (match lA l with|some d=>some d|none=>iJ true l)) H':=k
   nomatch I,I,fI ?_
   nomatch I,p,l,rfl,hPa.same s1,TZ,nd,λH2 s2=>?_
   have qJ:=s1.trans s2;exists I,I;cases er:lA l with
   |some d=>rw[er]at k;refine fI ?_;nomatch I,k H2 qJ
   |none=>rw[er]at k;refine gY ?_;nomatch I,I,true,p,l,rfl,hPa.same qJ,TZ,λH3 s3=>k H3 (qJ.trans s3)
  |some n=>
   rw[AV]at k;have k:∀H',a_ H H'->Q (G9 (iJ false l)) H':=k;nomatch I,I,gY ?_
   nomatch I,I,false,p,l,rfl,hPa.same s1,TZ,λH3 s3=>k H3 (s1.trans s3)
def yo(h:List Nat)(m:Nat):List Nat:=put (put (cw [(0,[35,m])]) 8 (aD h 8 6)) 16 (aD h 16 4)
inductive EC(vs:List V)(H:Hp)(Q:VK)(kn:XK):Prop
 |mk(ha h m)(_:vs=[.ref ha,.int (m:Nat)])(_:fK H ha (nV h))(_:h.length=48)(_:Gw H Q (yo h m))
def yq:T.xI.D P w aR 2 EC:=by
 refine T.xI.ok ?_;kd_p
 obtain⟨ha,h,m,rfl,fh,hl,k⟩:=h;exists _,(aa (cJ 2 nd (aI (jf T) (i5 (aU T.Co) cC))) (aa (bj (aI (kM T) (mh fF au (ej fV b4 (cS au) (cS au))))) (aa (bj (aI (kM T) (mh fF au (ej fV b4 (cS au) (cS au))))) (aj (aP fF)))));nomatch I,35,m,rfl,λH1 p hp rD s1=>?_
 have l6:=f_ hl (p:=8) (n:=6) #[];have l4:=f_ hl (p:=16) (n:=4) #[];have e8:jv (nV h) (some 8) (some 14)=nV (aD h 8 6):=lH h 8 14 #[];have e16:jv (nV h) (some 16) (some 20)=nV (aD h 16 4):=lH h 16 20 #[];nomatch I,I,I,I,ha,I,(fK.same fh s1).sq,λq2 Zr=>?_
 rw[e8];have s2:=aS (a_.refl H1) Zr (.lst (nV (aD h 8 6)));nomatch p,q2,_,aD h 8 6,8,rfl,s2 _ _ rD,fT.of ae,aL (ai rD Zr),by rw[bU,l6];decide,λH3 Lk B3=>?_
 have s3:a_ H H3:=λc o hc=>B3 c o (s2 _ _ (s1 _ _ hc)) (ai hc hp);have l1:(put (cw [(0,[35,m])]) 8 (aD h 8 6)).length=48:=by rw[iA (by rw[bU,l6];decide),bU]
 nomatch I,I,I,I,ha,I,(fK.same fh s3).sq,λq4 hq4=>?_
 rw[e16];have s4:=aS (a_.refl H3) hq4 (.lst (nV (aD h 16 4)));nomatch p,q4,_,aD h 16 4,16,rfl,s4 _ _ Lk,fT.of ae,aL (ai Lk hq4),by rw[l1,l4];decide,λH5 hp5 B5=>?_
 exists I;exact k H5 p hp hp5 λc o hc=>B5 c o (s4 _ _ (s3 _ _ hc)) (ai hc hp)
def iB:cb->List Pr->cb×List Nat
 |st,[]=>(st,[])
 |st,q::l=>((iB (k8 st q.1 q.2).1 l).1,(match(k8 st q.1 q.2).2 with
  |some a=>i9 q.1 a
  |none=>[])++(iB (k8 st q.1 q.2).1 l).2)
def UU(h:n<=16777215):(eE n).length<=8:=TL.Qz (k:=8) #[] ()
def UW{st:cb}{k v a:List Nat}(h:(k8 st k v).2=some a):a.length<=30:=by
 unfold k8 at h;split at h
 .cases h
 split at h
 .obtain rfl:=af h;decide+kernel
 split at h
 .obtain rfl:=af h;unfold sumK;split
  .rename_i x e;have hx:=kz e;rw[uR]at hx;rcases of_decide_eq_true hx with z|z
   .show x.length<=30;rw[z];decide+kernel
   .show x.length<=30;rw[z];decide+kernel
  .show Ql73.REJECT.length<=30;decide+kernel
 split at h
 .obtain rfl:=af h;unfold qA;split
  .rename_i hv;have hl:v.length<=30:=by
    rcases hv with z|z
    .rw[z];decide+kernel
    .rw[z];decide+kernel
   split
   .show Ql73.YES.length<=30;decide+kernel
   .split
    .exact hl
    .exact hl
  .show Ql73.REJECT.length<=30;decide+kernel
 split at h
 .obtain rfl:=af h;unfold vg;split
  .rename_i b n hb hn;have aeS:=MW hb;split
   .unfold r8;have g:∀m,m<=16777215->(eE m).length<=30:=λm hm=>cZ (UU hm) #[];split
    .exact g 8192 #[]
    split
    .exact g _ ()
    split
    .exact g _ ()
    split
    .exact g _ ()
    split
    .exact g 1 #[]
    .exact g 0 #[]
   .show Ql73.REJECT.length<=30;decide+kernel
  .show Ql73.REJECT.length<=30;decide+kernel
 .obtain rfl:=af h;decide+kernel
def vi(stage:Option Nat):List Nat:=if stage=none then i9 (ag "TargetPortalGroupTag") (ag "1")else[]
inductive Dk(C:Cl)(vs:List V)(H:Hp)(Q:VK)(kn:XK):Prop
 |mk(sa pa:aB)(s:aV)(dy:aB)(st:cb)(seen:List bL)(l:List Pr)(_:vs=[.ref sa,.ref pa])(_:H sa=some (.ins C.Session dy (aV.fs s)))(_:H s.ja=some (.dK st.kv))(_:H s.gV=some (.dK (g_ seen)))(_:s.ja≠s.gV)(_:mx H pa l)(_:ik seen l=true)(_:(∀q∈l,q.1.length<=63/\q.2.length<=255))(_:∀H' p,H p=none->H' p=some (.lst (nV (vi s.stage++(iB st l).2)))->(vi s.stage++(iB st l).2).length<=100000->H' s.ja=some (.dK (iB st l).1.kv)->H' s.gV=some (.dK (g_ (seen++l.map λq=>cK q.1)))->gH [s.ja,s.gV] H H'->Q (.ref p) H')
def Ym:TL.tl (ay "TargetPortalGroupTag=1")++[0]=i9 (ag "TargetPortalGroupTag") (ag "1"):=by rw[yb];decide+kernel
def UX(k a:List Nat):TL.tl (cK k++ay "="++cK a)++[0]=i9 k a:=by rw[TL.jA,TL.jA,Bk,Bk,yb];unfold i9;rw[show ag "="=[61]from by decide+kernel];simp
def JB(k a:List Nat):(i9 k a).length=k.length+a.length+2:=by unfold i9;simp only[az,aN,bN];lia
def MY(stage:Option Nat):(vi stage).length<=30:=by
 unfold vi;split
 .decide+kernel
 .decide
def UY(st:cb)(q:Pr):List Nat:=match(k8 st q.1 q.2).2 with
 |some a=>i9 q.1 a
 |none=>[]
def Aj(st:cb)(q:Pr)(l:List Pr):iB st (q::l)=((iB (k8 st q.1 q.2).1 l).1,UY st q++(iB (k8 st q.1 q.2).1 l).2):=rfl
inductive D9I(sa pa da:aB)(s:aV)(st:cb)(l:List Pr)(seen:List bL)(H:Hp)(i:Nat)(σ:L2.St)(H':Hp):Prop
 |mk(v3 v4 v5:Option V)(Td:cb)(ED:List Nat)(Pl:List bL)(_:σ=[some (.ref sa),some (.ref pa),some (.ref da),v3,v4,v5])(_:H' da=some (.lst (nV (vi s.stage++ED))))(_:H' s.ja=some (.dK Td.kv))(_:H' s.gV=some (.dK (g_ Pl)))(_:ik Pl (l.drop i)=true)(_:seen++(l.map λq=>cK q.1)=Pl++((l.drop i).map λq=>cK q.1))(_:iB st l=((iB Td (l.drop i)).1,ED++(iB Td (l.drop i)).2))(_:ED.length<=100*i)(_:gH [s.ja,s.gV] H H')
def EE:T.vG.D P w aR 4 (Dk C):=by
 refine T.vG.ok ?_;kd_p
 obtain⟨sa,pa,s,dy,st,seen,l,rfl,hs,Jm,JC,nss,hP,y6,hb,k⟩:=h;have hu:=lS hr;exists _,(aa (cJ 2 nd (dN jk)) (aa (bH (i_ (mX (aT b4 rfl))) (aj (bj (tJ dg gx gy lN fF (fN (bO oS (aI (uh T) (fN dS)) (dN (fN au))))))) aZ) (aa (mY d9 rfl (kI cC) (F0 rfl (nL (Cc 3 nd) (nL (Cc 4 nd) A8))) (aa (ng hu (aT b4 rfl) gQ kP rfl) (aa (cJ 5 nd (aI (G_ T) (mh gQ kS (aT b4 rfl)))) (aj (bH (i_ (xi zV)) (aj (bj (tJ dg gx gy lN fF (fN (bO oS (aI (uh T) (fN (QH gQ zV))) (dN (fN au))))))) aZ))))) (aj (aP fF)))));obtain⟨as,p1,p2,p3⟩:=hP;obtain⟨_,_,aeW⟩:=uF l seen y6;nomatch bQ _,λda LM=>?_
 have s1:=aS (a_.refl H) LM (.lst []);have loop:∀H0:Hp,H0 da=some (.lst (nV (vi s.stage)))->a_ H H0->ZQ (VG K (jU 1)) (ZN K 2 (PJ (nJ 3) (PJ (nJ 4) ZM))) (PF (VO (Ar K (jU 0) "seen_keys") (jU 3) (tC (.bl true))) (PF (PK (sk wc [] E0 (iR (jU 3) (iR (jU 4) (iR (Ar K (jU 0) "settings") kK)))) (nJ 5)) (Tu (tB (VD (jU 5))) (Ma (tBM K "list" xx (jU 2) (iR (VH VW (sk xZ [] E0 (iR (tF3 (ay "=") (jU 3) (jU 5)) kK)) (WN (iR (tC (.int 0)) kK))) kK))) L_))) {nx:=ZI (jU 2) {nx:=λ_ H'=>Q .eY H',rt:=Q},rt:=Q} [some (.ref sa),some (.ref pa),some (.ref da),none,none,none] H0:=λH0 aeX Yb=>by
  nomatch I,pa,rfl,⟨_,(fK.same p1 Yb).sq⟩,ma (K:=K) (a:=pa) (xs:=as.map V.ref) (D9I sa pa da s st l seen H) ⟨none,none,none,st,[],seen,rfl,by rw[eT];exact aeX,Yb _ _ Jm,Yb _ _ JC,y6,rfl,rfl,bQ _,gH.same Yb⟩ (λi σ H' _⟨_,_,_,_,_,_,_,_,_,_,_,_,_,_,B⟩=>?_) ?_ ?_
  .obtain⟨o,e⟩:=p1;refine fK.sq (b:=pa) ⟨o,B _ _ e ?_⟩;rintro m;simp only[ak,ao,or_false]at m;rcases m with rfl|rfl
   .rw[Jm]at e;cases e
   .rw[JC]at e;cases e
  .rintro i y σ H' hi ⟨v3,v4,v5,Td,ED,Pl,rfl,g1,g2,g3,g4,g5,g6,g7,B⟩;rw[bz]at hi;cases ea:as[i]? with
   |none=>rw[ea]at hi;cases hi
   |some c=>
    rw[ea]at hi;obtain rfl:=(af hi).symm;have Pd:i<l.length:=by rw[<-p2];exact(aE.mp ea).1
    have eq:l[i]? =some l[i]:=aX Pd;have hp0:=p3 i c _ ea eq;have abw:∀c o,H c=some o->o≠ .dK st.kv->o≠ .dK (g_ seen)->H' c=some o:=λc o hc n1 n2=>B c o hc (by
     simp only[ak,ao,or_false];rintro(rfl|rfl)
     .rw[Jm]at hc;exact n1 (af hc).symm
     .rw[JC]at hc;exact n2 (af hc).symm)
    have hp:=abw _ _ hp0 nofun nofun;have DO:=abw _ _ hs nofun nofun;obtain⟨hkl,TZ⟩:=hb l[i] (tj Pd);have Jz:l.drop i=l[i]::l.drop (i+1):=ib Pd;obtain⟨_,Yn,hlen⟩:=uF _ _ g4;rw[Jz]at g4 g5 g6 Yn;rw[Aj]at g6;rw[ik]at g4;rw[bp]at g5;generalize l[i]=pr at hp TZ hkl g4 g5 g6 Yn;have nin:cK pr.1∉Pl:=Yn pr (by simp);rw[iN nin]at g4;have Yo:da≠s.ja:=aL (ai Jm LM);have Yp:da≠s.gV:=aL (ai JC LM);have agI:da≠sa:=aL (ai hs LM);exists c,I,l_.of hp,rfl,_,I,J;exists I,sa,C.Session,dy,_,I,DO,T.aF,T.ig,s.Gy,I,s.gV,I,u_.k (k:=bY (cK pr.1)) g3 (by unfold g_;rw[aK,sizeLine_eq];lia);rw[Jy nin];have m8:sa≠s.gV:=bV hs JC nofun;have kx:sa≠s.ja:=bV hs Jm nofun;generalize Zl:upd H' s.gV (.dK (g_ (Pl++[cK pr.1])))=H1;have k1:∀c o,H' c=some o->c≠s.gV->H1 c=some o:=λc o hc n=>by rw[<-Zl,aG n];exact hc
    have UJ:H1 s.gV=some (.dK (g_ (Pl++[cK pr.1]))):=by rw[<-Zl];exact ae
    nomatch I,I,I,sa,C.Session,dy,_,I,k1 _ _ DO m8,T.aF,T.dn,s.rT,s.ja,Td,pr.1,pr.2,rfl,k1 _ _ g2 nss,TZ,λH2 Wb B2=>?_
    have k2:∀c o,H' c=some o->c≠s.gV->c≠s.ja->H2 c=some o:=λc o hc n1 n2=>B2 c o (k1 c o hc n1) n2;have OL:H2 s.gV=some (.dK (g_ (Pl++[cK pr.1]))):=B2 _ _ UJ (aL nss);have Bt:gH [s.ja,s.gV] H H2:=λc o hc n=>k2 c o (B c o hc n) (λz=>n (by simp[z])) (λz=>n (by simp[z]));have e5:seen++(l.map λq=>cK q.1)=(Pl++[cK pr.1])++((l.drop (i+1)).map λq=>cK q.1):=by rw[g5];simp
    exists I,I;cases ev:(k8 Td pr.1 pr.2).2 with
    |none=>refine gY ⟨_,_,_,(k8 Td pr.1 pr.2).1,ED,Pl++[cK pr.1],rfl,k2 _ _ g1 Yp Yo,Wb,OL,g4,e5,?_,(),Bt⟩;rw[g6];unfold UY;rw[ev];rfl
    |some a=>
     have hal:=UW ev;refine fI ?_;have d2:=k2 _ _ g1 Yp Yo;have z1:(cK pr.1).length=pr.1.length:=Jg _;have z2:(cK a).length=a.length:=Jg _;have z3:(ay "=").length=1:=by decide+kernel
     have z4:(cK pr.1++ay "="++cK a).length=pr.1.length+1+a.length:=by rw[TL.n9,TL.jA,TL.jA,Bk,Bk,yb];simp only[az];rfl
     have zz:=sizeLine_eq;nomatch I,.inl ⟨rfl,_,fT.of d2⟩,I,cK pr.1,rfl,by rw[z1,z3];lia,I,cK a,rfl,by rw[z4];lia,I,by rw[z4];lia,λH3 q3 g3' e3 s3=>?_
     nomatch by show 1<=aH;lia,λq4 g4'=>?_
     have s4:=aS (a_.refl H3) g4' (.lst [V.int 0]);have tlz:(TL.tl (cK pr.1++ay "="++cK a)).length=pr.1.length+1+a.length:=by rw[<-TL.n9];exact z4
     nomatch q3,q4,J,.inl (s4 _ _ e3),.inl ae,by rw[bA,tlz];show _+1<=_;lia,λq5 g5'=>?_
     have s5:=aS s4 g5' (.lst (nV (TL.tl (cK pr.1++ay "="++cK a))++[V.int 0]));have s35:=s3.trans s5;have Tb:nV (TL.tl (cK pr.1++ay "="++cK a))++[V.int 0]=nV (i9 pr.1 a):=by rw[<-UX,jB];rfl
     have htg:=MY s.stage;exists da,q5,J,s35 _ _ d2,.inl ae,by rw[Tb,bA,bA,JB,az];lia
     rw[Tb,<-jB,dW];have ln:=JB pr.1 a;have B35:∀c o,H2 c=some o->c≠da->upd (upd (upd H3 q4 (.lst [V.int 0])) q5 (.lst (nV (TL.tl (cK pr.1++ay "="++cK a))++[V.int 0]))) da (.lst (nV (vi s.stage++(ED++i9 pr.1 a)))) c=some o:=λc o hc n=>by rw[aG n];exact s35 c o hc
     rw[Tb]at B35;nomatch _,_,_,(k8 Td pr.1 pr.2).1,ED++i9 pr.1 a,Pl++[cK pr.1],rfl,ae,B35 _ _ Wb (aL Yo),B35 _ _ OL (aL Yp),g4,e5,?_,by rw[az];lia,λc o hc n=>B35 c o (Bt c o hc n) (ai hc LM)
     rw[g6];unfold UY;rw[ev,dW]
  .rintro σ H' ⟨v3,v4,v5,Td,ED,Pl,rfl,g1,g2,g3,g4,g5,g6,g7,B⟩;rw[aK,p2]at g5 g6 g7;rw[lJ]at g5 g6;have g6:iB st l=(Td,ED++[]):=g6;rw[eT]at g6;rw[g6]at k;rw[g5,Bw,eT]at k;have htg:=MY s.stage;nomatch I,k H' da LM g1 (by rw[az];show(vi s.stage).length+ED.length<=_;lia) g2 g3 B
 exists I,sa,C.Session,dy,_,I,s1 _ _ hs,T.aF,T.fB,s.rS;cases AV:s.stage with
 |some n=>rw[AV]at loop;nomatch I,gY (loop _ ae s1)
 |none=>
  rw[AV]at loop;nomatch I,fI ?_
  have zz:=sizeLine_eq;nomatch I,.inl ⟨rfl,_,fT.of ae⟩,I,(by show 22<aH;lia),λH3 q3 g3' e3 s3=>?_
  nomatch by show 1<=aH;lia,λq4 g4'=>?_
  have s4:=aS (a_.refl H3) g4' (.lst [V.int 0]);have Tb:nV (TL.tl (ay "TargetPortalGroupTag=1"))++[V.int 0]=nV (vi none):=by unfold vi;rw[iP rfl,<-Ym,jB];rfl
  have N9:(nV (TL.tl (ay "TargetPortalGroupTag=1"))).length=22:=by rw[bA,yb];decide+kernel
  nomatch q3,q4,J,.inl (s4 _ _ e3),.inl ae,by rw[N9];show 22+1<=_;lia,λq5 g5'=>?_
  have s5:=aS s4 g5' (.lst (nV (TL.tl (ay "TargetPortalGroupTag=1"))++[V.int 0]));have s35:=s3.trans s5;exists da,q5,J,s35 _ _ ae,.inl ae,by rw[az,N9];show 0+(22+1)<=_;lia
  rw[cx,Tb];refine loop _ ae λc o hc=>?_;rw[aG (ai hc LM)];rw[<-Tb];exact s35 c o (s1 c o hc)
def lP(s:aJ)(st:cb):aJ:={s with heads:=st.heads,datas:=st.datas,asks:=st.asks,with_:=st.with_,theirs:=st.theirs,burst:=st.burst,first:=st.first}
def Hc(b:Bool)(s:aJ)(st:cb)(k v:List Nat):Except Nc (aJ×Option (List Nat)):=if(k=ag "InitiatorName"\/k=ag "SessionType"\/k=ag "TargetName")/\b=false then .error (2,0) else if k=ag "AuthMethod"/\ag "None"∉dP v then .error (2,1) else .ok (lP s (k8 st k v).1,(k8 st k v).2)
abbrev KO:=Except Nc (aJ×Option (List Nat))
def J_(s:aJ)(x:cb×List Nat):KO:=.ok (lP s x.1,some x.2)
def DY(s:aJ)(st:cb)(lo hi:Nat)(g:Nat->cb×List Nat):Option Nat->KO
 |some n=>if lo<=n/\n<=hi then J_ s (g n)else J_ s (st,fJ)
 |none=>J_ s (st,fJ)
def Yq(st:cb)(lo hi:Nat)(g:Nat->cb×List Nat):Option Nat->cb×List Nat
 |some n=>if lo<=n/\n<=hi then g n else(st,fJ)
 |none=>(st,fJ)
theorem UZ{s:aJ}{st:cb}{lo hi:Nat}{g:Nat->cb×List Nat}:∀o,DY s st lo hi g o=J_ s (Yq st lo hi g o)
 |none=>rfl
 |some n=>by show(if _ then _ else _)=J_ s (if _ then _ else _);split<;>rfl
def U0{st:cb}{k:List Nat}{lo hi:Nat}(h:lZ k=some (lo,hi))(v:List Nat):vg st k v=Yq st lo hi (r8 st k) (kg v):=by unfold vg Yq;rw[h];cases kg v<;>rfl
abbrev KE(b:Bool)(s:aJ)(st:cb)(v k:List Nat):Prop:=BC b (lP s st) k v=Hc b s st k v
def qi{b:Bool}{s:aJ}{st:cb}{k v:List Nat}(lo hi:Nat)(e1:BC b (lP s st) k v=DY s st lo hi (r8 st k) (kg v):=by kernel_rfl)(e0:lZ k=some (lo,hi):=by kernel_rfl)(e2:Hc b s st k v=J_ s (vg st k v):=by kernel_rfl):KE b s st v k:=e1.trans ((UZ _).trans ((congrArg (J_ s) (U0 e0 v).symm).trans e2.symm))
def chL(s:aJ)(st:cb)(y n:cb×List Nat)(v:List Nat):KO:=if v=ie then J_ s y else if v=yH then J_ s n else J_ s (st,fJ)
def Hd{b:Bool}{s:aJ}{st:cb}{k v:List Nat}(y n:cb×List Nat)(e1:BC b (lP s st) k v=chL s st y n v:=by kernel_rfl)(e2:Hc b s st k v=J_ s (qA st k v):=by kernel_rfl)(ey:qA st k ie=y:=by kernel_rfl)(en:qA st k yH=n:=by kernel_rfl):KE b s st v k:=by
 refine e1.trans (Eq.trans ?_ e2.symm);unfold chL;by_cases c:v=ie
 .rw[iP c,c,ey]
 .rw[iN c];by_cases d:v=yH
  .rw[iP d,d,en]
  .rw[iN d];unfold qA;rw[iN (not_or.mpr ⟨c,d⟩)]
def smL(s:aJ)(st:cb)(f:Bool->cb):Option (List Nat)->KO
 |some x=>J_ s (f (x==ag "CRC32C"),x)
 |none=>J_ s (st,fJ)
def Sf{b:Bool}{s:aJ}{st:cb}{k v:List Nat}(f:Bool->cb)(e1:BC b (lP s st) k v=smL s st f ((dP v).find? uE):=by kernel_rfl)(e2:Hc b s st k v=J_ s (sumK st k v):=by kernel_rfl)(e3:(if k=ag "HeaderDigest" then λb=>{st with heads:=b}else λb=>{st with datas:=b})=f:=by kernel_rfl):KE b s st v k:=by
 refine e1.trans (Eq.trans ?_ e2.symm);unfold smL sumK;rw[<-e3];cases(dP v).find? uE with
 |none=>rfl
 |some x=>dsimp only;split<;>rfl
def Yr{b:Bool}{s:aJ}{st:cb}{v:List Nat}:KE b s st v (ag "AuthMethod"):=by
 refine(show _=(if(dP v).contains (ag "None")=true then J_ s (st,ag "None")else .error (2,1)) by kernel_rfl).trans (Eq.trans ?_ (show Hc b s st (ag "AuthMethod") v=(if ¬ag "None"∈dP v then .error (2,1)else J_ s (st,ag "None")) by unfold Hc;rw[iN (λh=>absurd h.1 (by decide+kernel))];refine ite_congr ?_ (λ_=>rfl) (λ_=>by kernel_rfl);exact propext ⟨λh=>h.2,λh=>⟨rfl,h⟩⟩).symm);by_cases c:ag "None"∈dP v
 .rw[iP (Pa.mpr c),iN (λh=>h c)]
 .rw[iN (λh=>c (Pa.mp h)),iP c]
def key_eq(b:Bool)(s:aJ)(st:cb)(k v:List Nat):BC b (lP s st) k v=Hc b s st k v:=by
 by_cases c0:k=ag "InitiatorName"
 .rw[c0];cases b<;>kernel_rfl
 by_cases c1:k=ag "SessionType"
 .rw[c1];cases b<;>kernel_rfl
 by_cases c2:k=ag "TargetName"
 .rw[c2];cases b<;>kernel_rfl
 by_cases c3:k=ag "InitiatorAlias"
 .rw[c3];kernel_rfl
 by_cases c4:k=ag "AuthMethod"
 .rw[c4];exact Yr
 by_cases c5:k=ag "HeaderDigest"
 .rw[c5];exact Sf λb=>{st with heads:=b}
 by_cases c6:k=ag "DataDigest"
 .rw[c6];exact Sf λb=>{st with datas:=b}
 by_cases c7:k=ag "InitialR2T"
 .rw[c7];exact Hd ({st with asks:=true},ie) ({st with asks:=false},yH)
 by_cases c8:k=ag "ImmediateData"
 .rw[c8];exact Hd ({st with with_:=true},ie) ({st with with_:=false},yH)
 by_cases c9:k=ag "MaxRecvDataSegmentLength"
 .rw[c9];exact qi 512 16777215
 by_cases c10:k=ag "MaxBurstLength"
 .rw[c10];exact qi 512 16777215
 by_cases c11:k=ag "FirstBurstLength"
 .rw[c11];exact qi 512 16777215
 by_cases c12:k=ag "MaxOutstandingR2T"
 .rw[c12];exact qi 1 65535
 by_cases c13:k=ag "MaxConnections"
 .rw[c13];exact qi 1 65535
 by_cases c14:k=ag "ErrorRecoveryLevel"
 .rw[c14];exact qi 0 2
 by_cases c15:k=ag "DefaultTime2Wait"
 .rw[c15];exact qi 0 3600
 by_cases c16:k=ag "DefaultTime2Retain"
 .rw[c16];exact qi 0 3600
 by_cases c17:k=ag "DataPDUInOrder"
 .rw[c17];exact Hd (st,ie) (st,ie)
 by_cases c18:k=ag "DataSequenceInOrder"
 .rw[c18];exact Hd (st,ie) (st,ie)
 have q:∀t,k≠t->(k==t)=false:=λt h=>beq_false_of_ne h;unfold BC Hc k8 lZ;simp[c0,c1,c2,c3,c4,c5,c6,c7,c8,c9,c10,c11,c12,c13,c14,c15,c16,c17,c18]
theorem keys_eq(b:Bool)(s:aJ):∀(l:List Pr)(st:cb),L6 b (lP s st) l=match iJ b l with
  |some e=>.error (2,e)
  |none=>.ok (lP s (iB st l).1,(iB st l).2)
 | [],st=>rfl
 |q::l,st=>by
  rw[L6,key_eq,iJ];unfold Hc;by_cases c:(q.1=ag "InitiatorName"\/q.1=ag "SessionType"\/q.1=ag "TargetName")/\b=false
  .rw[iP c,iP c]
  .rw[iN c,iN c];by_cases c2:q.1=ag "AuthMethod"/\ag "None"∉dP q.2
   .rw[iP c2,iP c2]
   .rw[iN c2,iN c2];dsimp only;rw[keys_eq b s l];cases iJ b l with
    |some e=>rfl
    |none=>rfl
theorem Wc:∀(n:Nat)(l:List (List Nat)),l.length<=n->l.eraseDups.length<=l.length/\(l.eraseDups.length=l.length↔l.Nodup)
 |n,[],_=>by simp
 |0,a::l,h=>by simp at h
 |n+1,a::l,h=>by
  rw[List.eraseDups_cons,aN,aN,cU];have hf:(l.filter λb=> !b==a).length<=l.length:=O8 _ _;have hl:l.length<=n:=by simpa using h
  obtain⟨h1,h2⟩:=Wc n (l.filter λb=> !b==a) ();nomatch by lia,λe=>?_,λe=>?_
  .have e1:(l.filter λb=> !b==a).length=l.length:=();have e2:(l.filter λb=> !b==a)=l:=jO.mpr (by have:=List.length_filter_eq_length_iff.mp e1;exact this);rw[e2]at h2;nomatch λhm=>?_,h2.mp (by rw[e2]at e;lia);have:=jO.mp e2 a hm;simp at this
  .have e2:(l.filter λb=> !b==a)=l:=jO.mpr λb hb=>by have:b≠a:=λz=>e.1 (z▸hb);simp[this]
   rw[e2]at h2 ⊢;have:=h2.mpr e.2;lia
theorem zC:∀(l:List Pr)(seen:List bL),seen.Nodup->(ik seen l=true↔(seen++l.map λq=>cK q.1).Nodup/\seen.length+l.length<=64)
 | [],seen,h=>by simp[ik,h]
 |q::l,seen,h=>by
  rw[ik];by_cases c:cK q.1∈seen
  .rw[iP c];nomatch(λz=>nomatch z),λz=>?_
   exfalso;rw[BA]at z;exact z.1.2.2 _ c _ (by simp) rfl
  .rw[iN c,zC l (seen++[cK q.1]) (by
    rw[BA];nomatch h,by simp,λa ha b hb=>?_
    rw[aO.mp hb];exact λz=>c (z▸ha))]
   rw[dW,az,bp];simp only[aN,bN,cP,cx];constructor<;>rintro⟨a,b⟩<;>nomatch a,()
def FK{seen:List bL}{l:List Pr}(nd:seen.Nodup):ik seen l=false↔(64<(seen.map TL.tl++l.map λp=>p.1).length\/(seen.map TL.tl++l.map λp=>p.1).eraseDups.length≠(seen.map TL.tl++l.map λp=>p.1).length):=by
 have e:seen.map TL.tl++l.map (λp=>p.1)=(seen++l.map λq=>cK q.1).map TL.tl:=by rw[bW,cY];rfl
 have hn:((seen++l.map λq=>cK q.1).map TL.tl).Nodup↔(seen++l.map λq=>cK q.1).Nodup:=by
  constructor
  .intro z;exact List.Pairwise.of_map _ (λa b h z=>h (by rw[z])) z
  .intro z;exact Kh.map _ (λa b h z=>h (TL.rL z)) z
 have hl:(seen.map TL.tl++l.map λp=>p.1).length=seen.length+l.length:=by rw[az,aK,aK]
 have key:=zC l seen nd;have ed:=(Wc _ (seen.map TL.tl++l.map λp=>p.1) (bw _)).2;rw[e,hn]at ed;rw[<-e]at ed;cases hf:ik seen l with
 |true=>
  rw[hf]at key;obtain⟨k1,k2⟩:=key.mp rfl;exists(λz=>nomatch z);rintro(z|z)
  .lia
  .exact absurd (ed.mpr k1) z
 |false=>
  nomatch λ_=>?_,λ_=>rfl
  rw[hf]at key;by_cases c:(seen++l.map λq=>cK q.1).Nodup
  .refine .inl ?_;have:¬seen.length+l.length<=64:=λz=>nomatch key.mpr ⟨c,z⟩
   lia
  .exact .inr λz=>c (ed.mp z)
def LO(c:Nat)(s:aJ)(begins:Bool)(h d:List Nat):List Nat×Option aJ:=
 let f:=h.getD 1 0;let at_:=f/4%4;let to:=f%4;let on:=decide (128<=f);let no (e:Nc):List Nat×Option aJ:=(il s h e 0 0 [],none);if f/64%2=1\/f/16%4≠0 then no (2,0)
 else if h.getD 3 0≠0 then no (2,5)
 else if ax h 14 2≠0 then no (2,10)
 else if 1<at_\/at_≠s.stage then no (2,0)
 else if(on=true/\¬((at_=0/\(to=1\/to=3))\/(at_=1/\to=3)))\/(on=false/\to≠0)then no (2,0)
 else match Ql73.pairs d.length d with
  |none=>no (2,0)
  |some l=>
   let U1 (t:String):Option (List Nat):=(l.find? λp=>p.1==ag t).map λp=>p.2;let all:=s.named++l.map λp=>p.1;let LN:=(U1 "InitiatorName").getD [];if 64<all.length\/all.eraseDups.length≠all.length then no (2,0)
   else if begins=true/\(LN=[]\/223<LN.length)then no (2,7)
   else if begins=true/\(U1 "SessionType").getD (ag "Normal")≠ag "Normal" then no (2,9)
   else if begins=true/\U1 "TargetName"=none then no (2,7)
   else if begins=true/\U1 "TargetName"≠some L5 then no (2,3)
   else match L6 begins s l with
    | .error e=>no e
    | .ok x=>let work:=on&&to==3;let t:aJ:={x.1 with named:=all,stage:=if on=true then to else at_,first:=if work=true then min x.1.first x.1.burst else x.1.first};let text:=(if begins=true then i9 (ag "TargetPortalGroupTag") (ag "1")else[])++x.2;(il t h (0,0) f (if work=true then c+1 else 0) text,some (lK t))
def OM(c:Nat)(x:aJ)(h d:List Nat):k9 c x h d=LO c (if(x.stage==4)=true then{x with cmd:=ax h 24 4,stage:=h.getD 1 0/4%4}else x) (x.stage==4) h d:=rfl
def l9(h:List Nat):Nat:=if 128<=h.getD 1 0 then toN h else pO h
def Sg(s:aJ)(st:cb)(h:List Nat)(l:List Pr):aJ:={lP s (iB st l).1 with named:=s.named++l.map (λp=>p.1),stage:=l9 h,first:=if l9 h=3 then min (iB st l).1.first (iB st l).1.burst else(iB st l).1.first}
def Sh(c:Nat)(s:aJ)(st:cb)(stage:Option Nat)(h:List Nat)(l:List Pr):List Nat×Option aJ:=(il (Sg s st h l) h (0,0) (h.getD 1 0) (if l9 h=3 then c+1 else 0) (vi stage++(iB st l).2),some (lK (Sg s st h l)))
structure Wd(s:aJ)(st:cb)(stage:Option Nat)(seen:List bL)(h:List Nat):Prop where
 Em:s.stage=match stage with|none=>pO h|some n=>n
 sm:∀n,stage=some n->n<2
 named:s.named=seen.map TL.tl
 nd:seen.Nodup
 kZ:s=lP s st
 f:h.getD 1 0<256
def JD(hf:h.getD 1 0<256):my h=false↔((decide (128<=h.getD 1 0)=true/\¬((h.getD 1 0/4%4=0/\(h.getD 1 0%4=1\/h.getD 1 0%4=3))\/(h.getD 1 0/4%4=1/\h.getD 1 0%4=3)))\/(decide (128<=h.getD 1 0)=false/\h.getD 1 0%4≠0)):=by
 unfold my toN pO bit;generalize h.getD 1 0=f at hf;have e:decide (128<=f)=decide (f/128%2=1):=decide_eq_decide.mpr ();have b:(f/2^7%2=1)↔128<=f:=by rw[show(2^7:Nat)=128 from rfl];lia
 by_cases c:128<=f
 .simp[b.mpr c,c];lia
 .simp[show f/2^7%2=0 by rw[show(2^7:Nat)=128 from rfl];lia,c]
theorem ON{c:Nat}{s:aJ}{st:cb}{stage:Option Nat}{seen:List bL}{h d:List Nat}(L:Wd s st stage seen h):LO c s (decide (stage=none)) h d=match r9 stage seen h (ka d)with
  |some e=>(il s h (2,e) 0 0 [],none)
  |none=>Sh c s st stage h ((ka d).getD []):=by
 unfold LO r9 kj;dsimp only;have hf:=L.f;by_cases c1:h.getD 1 0/16%8≠0
 .rw[iP c1,iP ()]
 rw[iN c1,iN ()];by_cases c2:h.getD 3 0≠0
 .rw[iP c2,iP c2]
 rw[iN c2,iN c2];by_cases c3:ax h 14 2≠0
 .rw[iP c3,iP c3]
 rw[iN c3,iN c3];have AV:(nA stage (pO h)=false)↔(1<h.getD 1 0/4%4\/h.getD 1 0/4%4≠s.stage):=by
  have e1:=L.Em;have e2:=L.sm;cases stage with
  |none=>rw[e1];show decide (pO h<2)=false↔(1<pO h\/pO h≠pO h);rw[decide_eq_false_iff_not];lia
  |some n=>have:=e2 n rfl;rw[e1];show decide (pO h=n)=false↔(1<pO h\/pO h≠n);rw[decide_eq_false_iff_not];lia
 by_cases c4:nA stage (pO h)=false
 .rw[iP (AV.mp c4),iP (.inl c4)]
 rw[iN (λz=>c4 (AV.mpr z))];by_cases c5:my h=false
 .rw[iP ((JD hf).mp c5),iP (.inr c5)]
 have n45:¬(nA stage (pO h)=false\/my h=false):=by rintro(z|z);exact c4 z;exact c5 z
 rw[iN (λz=>c5 ((JD hf).mpr z)),iN n45,Jv _ _ (bw _)];cases ep:ka d with
 |none=>rfl
 |some l=>
  dsimp only;rw[L.named];by_cases c6:ik seen l=false
  .rw[iP ((FK L.nd).mp c6),iP c6]
  rw[iN (λz=>c6 ((FK L.nd).mpr z)),iN c6];have aby:(decide (128<=h.getD 1 0)&&h.getD 1 0%4==3)=decide (l9 h=3):=by
   have hat:128<=h.getD 1 0\/pO h<2:=by
    by_cases g:128<=h.getD 1 0
    .exact .inl g
    .refine .inr ?_;have:¬(1<h.getD 1 0/4%4):=λz=>c4 (AV.mpr (.inl z));unfold pO;lia
   unfold l9 toN;unfold pO at*;by_cases g:128<=h.getD 1 0
   .rw[decide_eq_true g,iP g,Ki];by_cases g2:h.getD 1 0%4=3
    .rw[g2];rfl
    .rw[decide_eq_false g2];exact beq_eq_false_iff_ne.mpr g2
   .rw[decide_eq_false g,iN g,w9,decide_eq_false ()]
  have Ys:(if decide (128<=h.getD 1 0)=true then h.getD 1 0%4 else h.getD 1 0/4%4)=l9 h:=by
   unfold l9 toN pO;by_cases g:128<=h.getD 1 0
   .rw[iP g,iP (decide_eq_true g)]
   .rw[iN g,iN (by rw[decide_eq_false g];decide)]
  have last:∀b:Bool,b=decide (stage=none)->(match L6 b s l with
    | .error e=>(il s h e 0 0 [],none)
    | .ok x=>(il {x.1 with named:=seen.map TL.tl++l.map (λp=>p.1),stage:=if decide (128<=h.getD 1 0)=true then h.getD 1 0%4 else h.getD 1 0/4%4,first:=if(decide (128<=h.getD 1 0)&&h.getD 1 0%4==3)=true then min x.1.first x.1.burst else x.1.first} h (0,0) (h.getD 1 0) (if(decide (128<=h.getD 1 0)&&h.getD 1 0%4==3)=true then c+1 else 0) ((if b=true then i9 (ag "TargetPortalGroupTag") (ag "1")else[])++x.2),some (lK {x.1 with named:=seen.map TL.tl++l.map (λp=>p.1),stage:=if decide (128<=h.getD 1 0)=true then h.getD 1 0%4 else h.getD 1 0/4%4,first:=if(decide (128<=h.getD 1 0)&&h.getD 1 0%4==3)=true then min x.1.first x.1.burst else x.1.first})))=match iJ b l with
    |some e=>(il s h (2,e) 0 0 [],none)
    |none=>Sh c s st stage h l:=λb hb=>by
   rw[Ys,aby];conv=>lhs;rw[L.kZ]
   rw[keys_eq];cases iJ b l with
   |some e=>show(il (lP s st) h (2,e) 0 0 [],none)=_;rw[<-L.kZ]
   |none=>
    dsimp only;unfold Sh Sg vi;rw[hb,L.named];have ed:∀(p:Prop)[Decidable p](α:Type)(a b:α),(if decide p=true then a else b)=if p then a else b:=λp _ α a b=>by
     by_cases g:p
     .rw[iP g,iP (decide_eq_true g)]
     .rw[iN g,iN (by rw[decide_eq_false g];decide)]
    rw[ed,ed,ed];rfl
  cases stage with
  |some n=>rw[show decide (some n=none)=false from rfl];have nb:∀p:Prop,¬(false=true/\p):=λp z=>nomatch z.1;rw[iN (nb _),iN (nb _),iN (nb _),iN (nb _),iN (show ¬some n=none from λz=>nomatch z)];exact last false rfl
  |none=>
   rw[show decide ((none:Option Nat)=none)=true from rfl,iP rfl];unfold lA;by_cases d1:(lz l "InitiatorName").getD []=[]\/223<((lz l "InitiatorName").getD []).length
   .rw[iP d1,iP ⟨rfl,d1⟩];rfl
   rw[iN d1,iN (λz=>d1 z.2)];by_cases d2:(lz l "SessionType").getD (ag "Normal")≠ag "Normal"
   .rw[iP d2,iP ⟨rfl,d2⟩];rfl
   rw[iN d2,iN (λz=>d2 z.2)];by_cases d3:lz l "TargetName"=none
   .rw[iP d3,iP ⟨rfl,d3⟩];rfl
   rw[iN d3,iN (λz=>d3 z.2)];by_cases d4:lz l "TargetName"≠some L5
   .rw[iP d4,iP ⟨rfl,d4⟩];rfl
   rw[iN d4,iN (λz=>d4 z.2)];exact last true rfl
def U2{st:cb}(h:ux st)(k v:List Nat):ux (k8 st k v).1:=by
 unfold k8;split
 .exact h
 split
 .exact h
 split
 .show ux (sumK st k v).1;unfold sumK;split
  .show ux (if _ then _ else _);split
   .nomatch h.b0,h.b9,h.t0,h.f9
   .nomatch h.b0,h.b9,h.t0,h.f9
  .exact h
 split
 .show ux (qA st k v).1;unfold qA;split
  .split
   .exact h
   .split
    .nomatch h.b0,h.b9,h.t0,h.f9
    .nomatch h.b0,h.b9,h.t0,h.f9
  .exact h
 split
 .show ux (vg st k v).1;unfold vg;split
  .rename_i b n hb hn;split
   .rename_i hr;unfold r8;split
    .rename_i c;rw[c]at hb;have:b=(512,16777215):=by unfold lZ at hb;rw[iP (.inl rfl)]at hb;exact(af hb).symm
     rw[this]at hr;nomatch h.b0,h.b9,by show 0<n;have:512<=n:=hr.1;lia,h.f9
    split
    .rename_i c;rw[c]at hb;have:b=(512,16777215):=by unfold lZ at hb;rw[iP (.inr (.inl rfl))]at hb;exact(af hb).symm
     rw[this]at hr;have:512<=n:=hr.1;nomatch by show 0<min n 262144;lia,by show min n 262144<=262144;lia,h.t0,h.f9
    split
    .nomatch h.b0,h.b9,h.t0,by show min n 65536<=65536;lia
    split
    .exact h
    split
    .exact h
    .exact h
   .exact h
  .exact h
 .exact h
theorem FL:∀(l:List Pr){st:cb},ux st->ux (iB st l).1
 | [],_,h=>h
 |q::l,_,h=>FL l (U2 h q.1 q.2)
def uT(n:Nat):fU (eE n):=λx hx=>by have:=TL.Ii n x hx;have h:48<=x/\x<=57:=this;lia
def oU(h:(ag s).all (λx=>decide (x<256))=true):fU (ag s):=λx hx=>of_decide_eq_true (dI.mp h x hx)
def U3{st:cb}{k v a:List Nat}(h:(k8 st k v).2=some a):fU a:=by
 have oR:fU fJ:=oU (by decide+kernel);have oY:fU ie:=oU (by decide+kernel);have oN:fU yH:=oU (by decide+kernel);unfold k8 at h;split at h
 .cases h
 split at h
 .obtain rfl:=af h;exact oU (by decide+kernel)
 split at h
 .obtain rfl:=af h;unfold sumK;split
  .rename_i x e;have hx:=kz e;rw[uR]at hx;rcases of_decide_eq_true hx with z|z
   .show fU x;rw[z];exact oU (by decide+kernel)
   .show fU x;rw[z];exact oU (by decide+kernel)
  .exact oR
 split at h
 .obtain rfl:=af h;unfold qA;split
  .rename_i hv;have hl:fU v:=by
    rcases hv with z|z
    .rw[z];exact oY
    .rw[z];exact oN
   split
   .exact oY
   .split
    .exact hl
    .exact hl
  .exact oR
 split at h
 .obtain rfl:=af h;unfold vg;split
  .split
   .unfold r8;split
    .exact uT _
    split
    .exact uT _
    split
    .exact uT _
    split
    .exact uT _
    split
    .exact uT _
    .exact uT _
   .exact oR
  .exact oR
 .obtain rfl:=af h;exact oU (by decide+kernel)
def JE(hk:fU k)(hv:fU v):fU (i9 k v):=by
 unfold i9;refine hk.append λx hx=>?_;rcases ak.mp hx with rfl|hx
 .decide
 .exact(hv.append (Fn 1)) x hx
theorem Dl:∀(l:List Pr)(st:cb),(∀q∈l,fU q.1)->fU (iB st l).2
 | [],_,_=>λx hx=>nomatch hx
 |q::l,st,h=>by
  rw[Aj];refine fU.append ?_ (Dl l _ λy hy=>h y (by simp[hy]));unfold UY;cases e:(k8 st q.1 q.2).2 with
  |none=>exact λx hx=>nomatch hx
  |some a=>exact JE (h q (by simp)) (U3 e)
def U4(stage:Option Nat):fU (vi stage):=by
 unfold vi;split
 .exact JE (oU (by decide+kernel)) (oU (by decide+kernel))
 .exact λx hx=>nomatch hx
def U5(h:k.all oM=true):fU k:=λx hx=>by have:=dI.mp h x hx;unfold oM at this;simp only[ky,cz,decide_eq_true_eq]at this;lia
structure He(l:List Pr):Prop where
 k63:∀q∈l,q.1.length<=63/\q.2.length<=255
 oc:∀q∈l,fU q.1
theorem MZ:∀(rs:List (List Nat))(l:List Pr),Ew rs=some l->He l/\l.length=rs.length
 | [],l,h=>by obtain rfl:=af h;nomatch⟨(λq hq=>nomatch hq),(λq hq=>nomatch hq)⟩,rfl
 |r::rs,l,h=>by
  rw[Ew]at h;cases e:iG r with
  |none=>rw[e]at h;cases h
  |some q=>
   rw[e]at h;cases e2:Ew rs with
   |none=>rw[e2]at h;cases h
   |some l2=>
    rw[e2]at h;obtain rfl:=af h;obtain⟨h1,h2⟩:=MZ rs l2 e2;obtain⟨k1,k2,k3,_⟩:=FH e;nomatch⟨λx hx=>?_,λx hx=>?_⟩,by rw[aN,aN,h2]
    .rcases ak.mp hx with rfl|hx
     .nomatch k2,k3
     .exact h1.k63 x hx
    .rcases ak.mp hx with rfl|hx
     .exact U5 k1
     .exact h1.oc x hx
def Dm(h:ka b=some l):He l/\l.length<=b.length:=by
 unfold ka at h;cases e:oK b with
 |none=>rw[e]at h;cases h
 |some bB=>rw[e]at h;obtain⟨h1,h2⟩:=MZ bB l h;nomatch h1,by rw[h2];exact(Df e).1
inductive OO(C:Cl)(vs:List V)(H:Hp)(Q:VK)(E:XK):Prop
 |mk(tr ha:aB)(bP:aB->kT)(i:Nat)(A:Act)(h:List Nat)(e:Nat)(x:aJ)(gi:List Nat)(_:vs=[.ref tr,.ref ha,.int e])(_:hG C H bP i tr A)(_:fK H ha (nV h))(_:h.length=48)(_:fU h)(_:e<256)(_:A.S.s.stage≠some 3)(_:x.stat=A.S.s.count)(_:x.cmd=A.S.s.cmd)(_:lU C H Q E bP i tr A gi (il x h (2,e) 0 0 []) none (bM A.wr))
def JF{hb b:List Nat}{s:aV}{st:cb}(h:s.stage≠some 3):AG hb b s st=pz (put hb 24 (aY 4 s.count)) b s.cmd false false:=by unfold AG de;rw[decide_eq_false h];rfl
def JG(hl:h.length=48)(m:Nat):(yo h m).length=48:=by have l4:=f_ hl (p:=16) (n:=4) #[];have l6:=f_ hl (p:=8) (n:=6) #[];unfold yo;rw[iA (by rw[iA (by rw[bU,l6];decide),bU,l4];decide),iA (by rw[bU,l6];decide),bU]
def Dq(oh:fU h)(hm:m<256):fU (yo h m):=by
 unfold yo;refine fU.put (fU.put (pC λx hx=>?_) (oh.part _ _) _) (oh.part _ _) _;rw[aO.mp hx];intro z hz;simp only[ak,ao,or_false]at hz;rcases hz with rfl|rfl
 .decide
 .exact hm
theorem fU.set(h:fU b)(hv:v<256):fU (b.set i v):=λz hz=>by
 rcases lQ hz with hz|rfl
 .exact h z hz
 .exact hv
def Si:T.IA.E P w aR C.dF 6 (OO C):=by
 refine T.IA.wY ?_;kd_p
 obtain⟨tr,ha,bP,i,A,h,e,x,gi,rfl,R,fh,hl,oh,he,kx,x1,x2,k⟩:=h;exists _,(aa (cJ 3 nd (aI (yq T) (i5 cC au))) (aa (j8 (aU T.NR) (j7 gQ au set_list)) (aa (j8 fF (j7 gQ au set_list)) (aa (bj (fG (dO T) T.cy b4 (i5 gQ (dN jk)))) (aj (bj (b_ (lG T) T.aF (aT b4 rfl))))))));have la:=JG hl 0;nomatch I,ha,h,0,rfl,fh,hl,λH1 p hp rD s1=>?_
 exists I,p,_,_,36,rfl,rfl,rD,(by unfold F5;rw[bA,la];rfl);have e2:(nV (yo h 0)).set 36 (V.int 2)=nV ((yo h 0).set 36 2):=qv _ 36 2;rw[e2];have s2:=a_.nQ s1 hp (.lst (nV ((yo h 0).set 36 2)));exists I,I,p,_,_,37,rfl,rfl,ae,(by unfold F5;rw[bA,br,la];rfl);rw[qv,bS];generalize Bl:((yo h 0).set 36 2).set 37 e=hb;have s5:=a_.nQ s1 hp (.lst (nV hb));obtain⟨dx,h1⟩:=R.tu;nomatch I,tr,dx,I,s5 _ _ h1,rfl,I,bQ _,λq6 G3=>?_
 have s6:=aS s5 G3 (.lst []);have t6:=aS (a_.refl (upd H1 p (.lst (nV hb)))) G3 (.lst []);have ehb:hb=cw [(36,[(2,e).1,(2,e).2]),(14,aY 2 0),(16,aD h 16 4),(8,aD h 8 6),(0,[35,0])]:=by rw[<-Bl];exact Od hl e
 have ep:=Jd (s:=x) x1 x2 hl (flags:=0) (uq:=0) (e:=(2,e)) [] ehb;unfold kK;refine iI (b:=[]) R.sending s6 hp (t6 _ _ ae) (by rw[<-Bl,br,br];exact la) ?_ (.inl ae) (λz hz=>nomatch hz) #[] (aL (ai (s5 _ _ R.sn) G3)) (aL (ai ae G3)) ((JF kx).trans ep) (uB R k.bad λhle H' R' V9=>?_)
 .rw[<-Bl];exact((Dq oh #[]).set #[]).set he
 obtain⟨Rk,UA⟩:=R'.tu;obtain⟨yK,sI⟩:=R'.ss.at_;have g2:H' A.f.aW=some (.ins C.Session yK (aV.fs A.S.s.counted)):=by rw[R.sa];exact sI
 exists I,tr,C.Turn,Rk,_,I,UA,T.cy,T.bX,A.f.eA,A.f.aW,yK,I,g2,rfl,A.f.aW,A.S.s.counted,yK,rfl,g2;obtain⟨R7,RO⟩:=R'.attr (dy:=yK) (s':={A.S.s.counted with closed:=true}) ⟨rfl,rfl,rfl,rfl,rfl⟩ ⟨R'.ss.oy,R'.ss.oz,R'.ss.pL⟩;rw[R.sa];exact k.ok hle _ bP _ R7 rfl rfl rfl rfl rfl rfl (V9.trans RO)
def hG.keys(R:hG C H bP i tr A)(B:gH [A.S.s.ja,A.S.s.gV] H H')(h1:H' A.S.s.ja=some (.dK Mb.kv))(h2:H' A.S.s.gV=some (.dK (g_ sn')))(ok:ux Mb)(sm:sn'.length<=64): hG C H' bP i tr {A with S:={A.S with st:=Mb,seen:=sn'}}/\Keeps i bP bP H H':=by
 obtain⟨dx,t1⟩:=R.tu;obtain⟨dy,t2⟩:=R.ss.at_;have nf:∀a∈[A.S.s.ja,A.S.s.gV],∀o u,H a≠some (.gm o u):=λa ha o u e=>by
  simp only[ak,ao,or_false]at ha;rcases ha with rfl|rfl
  .rw[R.ss.kZ]at e;cases e
  .rw[R.ss.lr]at e;cases e
 have kf:=B.iZ nf;have ni:∀c x,bP c=x->x≠ .own i .set->x≠ .own i .seen->c∉[A.S.s.ja,A.S.s.gV]:=λc x h n1 n2 m=>by
  simp only[ak,ao,or_false]at m;rcases m with rfl|rfl
  .exact n1 (h.symm.trans R.ss.oQ)
  .exact n2 (h.symm.trans R.ss.lT)
 nomatch⟨⟨dx,B _ _ t1 (ni _ _ R.FC nofun nofun)⟩,R.FC,B _ _ R.sn (ni _ _ R.uA nofun nofun),R.uA,R.mo,R.le,R.dk.pD B kf (ni _ _ R.CW nofun nofun) (ni _ _ R.yL nofun nofun),R.CW,R.yL,R.od,?_,R.sa⟩,Keeps.X4 B λa ha=>?_
 .nomatch⟨dy,B _ _ t2 (ni _ _ R.ss.la nofun nofun)⟩,h1,h2,B _ _ R.ss.ij (ni _ _ R.ss.kF nofun nofun),kf.gm R.ss.uz,λt ht=>?_,R.ss.nd,R.ss.As,R.ss.la,R.ss.oQ,R.ss.lT,R.ss.kF,ok,sm,R.ss.oy,R.ss.oz,R.ss.pL
  have q:=R.ss.nW t ht;nomatch⟨q.cm.pD B kf (ni _ _ q.la nofun nofun) (ni _ _ q.ld nofun nofun),q.la,q.ld,q.ol,q.oc,q.og,q.tg,q.gs⟩,q.wr,q.rd,q.sz,q.gl,q.ll
 .simp only [ak,ao,or_false]at ha;rcases ha with rfl|rfl
  .exact .inr (.inr ⟨_,R.ss.oQ⟩)
  .exact .inr (.inr ⟨_,R.ss.lT⟩)
structure U6(S:fS)(buf:List Nat)(x:aJ):Prop where
 kZ:x=lP x S.st
 named:x.named=S.seen.map TL.tl/\S.seen.Nodup
 stat:x.stat=S.s.count
 cmd:x.cmd=S.s.cmd
 next:x.next=iw S.s.last
 told:x.told=S.s.anew
 tasks:x.tasks.Perm (S.ts.map dG.abs)
 rY:x.buf=buf
def U6.yes(R:U6 S gi x)(hn:l9 h<2\/l9 h=3)(hnd:(S.seen++l.map λq=>cK q.1).Nodup)(e1:sn=S.seen++l.map λq=>cK q.1)(e2:Mb=(iB S.st l).1): ji {S with s:={S.s.counted with stage:=some (l9 h)},st:=Mb,seen:=sn} gi (lK (Sg x S.st h l)):=by
 subst e1 e2;nomatch⟨rfl,λn e=>?_,⟨?_,hnd⟩,rfl,rfl,rfl,rfl,rfl,rfl,?_,?_,R.cmd,R.next,R.told⟩,R.tasks,R.rY
 .obtain rfl:=af e;exact hn
 .show x.named++l.map (λp=>p.1)=(S.seen++l.map λq=>cK q.1).map TL.tl;rw[R.named.1,bW,cY];rfl
 .show(if l9 h=3 then _ else _)=if some (l9 h)=some 3 then _ else _;by_cases g:l9 h=3
  .rw[iP g,iP (by rw[g])]
  .rw[iN g,iN (λz=>g (af z))]
 .show(x.stat+1)%xd=(S.s.count+1)%4294967296;rw[R.stat];rfl
def Sj{c:Prop}[Decidable c]{A B X:Prop}(f:c->X->A)(g:¬c->X->B)(x:X):if decide c=true then A else B:=by
 split
 .rename_i h;exact f (of_decide_eq_true h) x
 .rename_i h;exact g (λz=>h (decide_eq_true z)) x
inductive OP(C:Cl)(vs:List V)(H:Hp)(Q:VK)(E:XK):Prop
 |mk(tr ha pa:aB)(bP:aB->kT)(i:Nat)(A:Act)(h:List Nat)(l:List Pr)(x:aJ)(gi:List Nat)(_:vs=[.ref tr,.ref ha,.ref pa])(_:hG C H bP i tr A)(_:fK H ha (nV h))(_:h.length=48)(_:fU h)(_:mx H pa l)(_:He l)(_:ik A.S.seen l=true)(_:A.S.s.stage≠some 3)(_:A.S.s.closed=false)(_:(l9 h<2\/l9 h=3))(_:A.S.s.line=i)(_:U6 A.S gi x)(_:lU C H Q E bP i tr A gi (Sh i x A.S.st A.S.s.stage h l).1 (Sh i x A.S.st A.S.s.stage h l).2 (bM A.wr))
def Sk:T.IB.E P w aR C.dF 6 (OP C):=by
 refine T.IB.wY ?_;kd_p
 obtain⟨tr,ha,pa,bP,i,A,h,l,x,gi,rfl,R,fh,hl,oh,hP,hPo,y6,kx,mB,hn,hli,LR,k⟩:=h;exists _,(aa (cJ 3 nd (aT b4 rfl)) (aa (cJ 4 nd (gL k_ (bO jJ (fE cX cC au (λ_ _=>rfl)) (aU T.MG)) au (bD _))) (aa (cJ 5 nd (kC (dA kS) (aI (wJ T) (fN cC)) (aI (nz T) (fN cC)))) (aa (cJ 6 nd (aI (yq T) (i5 cC (fE cX cC au (λ_ _=>rfl))))) (aa (bH (bg fD zV (aU T.QN) (bD _)) (aj (bj (aI (cH T) (va VX au au (bO eJ (aT gQ rfl) au))))) aZ) (aa (cJ 7 nd (aI (EE T) (i5 gQ fF))) (aa (bj (fG (dO T) T.cy b4 (i5 VX pv7))) (aj (ck gQ zV rfl)))))))));obtain⟨dx,h1⟩:=R.tu;obtain⟨dy,h2⟩:=R.ss.at_;have sI:H A.f.aW=some (.ins C.Session dy (aV.fs A.S.s)):=by rw[R.sa];exact h2
 have hf:=uC oh 1;exists I,tr,C.Turn,dx,_,I,h1,T.cy,T.bX,A.f.eA;exists I,ha,_,J,fh.sq,cM (gv (i:=1) ()),J,rfl;show nJ 4 (V.bl (!decide (V.int (cj ((h.getD 1 0:Nat):Int) ((2^7:Nat):Int))=V.int 0))) _ _ _;rw[wz,<-yg hf];exists I,I;refine Sj (λc z=>⟨_,rfl,ha,h,rfl,fh,hl,by rw[show toN h=l9 h by unfold l9;rw[iP c]];exact z⟩) (λc z=>⟨_,rfl,ha,h,rfl,fh,hl,by rw[show pO h=l9 h by unfold l9;rw[iN c]];exact z⟩) ?_;have la:=JG hl (h.getD 1 0);nomatch I,I,ha,_,J,fh.sq,cM (gv (i:=1) ()),ha,h,h.getD 1 0,rfl,fh,hl,λH1 p hp rD s1=>?_
 exists I,rfl,I;generalize Bl:(if l9 h=3 then put (yo h (h.getD 1 0)) 14 (aY 2 (A.S.s.line+1))else yo h (h.getD 1 0))=hb;have p3:V.int ((l9 h:Nat):Int)=V.int 3->l9 h=3:=λc=>by have:((l9 h:Nat):Int)=3:=V.int.inj c;lia
 refine Sj (λc z=>⟨_,rfl,_,rfl,A.f.aW,C.Session,dy,_,_,rfl,s1 _ _ sI,T.aF,T.n_,A.S.s.Q0,_,_,rfl,rfl,p,yo h (h.getD 1 0),14,2,A.S.s.line+1,rfl,rD,by rw[la];decide,#[],by
   rw[show put (yo h (h.getD 1 0)) 14 (aY 2 (A.S.s.line+1))=hb by rw[<-Bl,iP (p3 c)]];exact z⟩) (λc z=>by
   have z':=z;rw[show hb=yo h (h.getD 1 0) by rw[<-Bl,iN (show ¬l9 h=3 from λy=>c (by rw[y];rfl))],Rh rD]at z';exact z') ?_
 have GD:hb.length=48:=by
  rw[<-Bl];split
  .exact e9 la #[]
  .exact la
 have ohb:fU hb:=by
  rw[<-Bl];split
  .exact(Dq oh hf).put (dE _ _) _
  .exact Dq oh hf
 have s2:=a_.nQ s1 hp (.lst (nV hb));have v_:upd H1 p (.lst (nV hb)) p=some (.lst (nV hb)):=ae;generalize upd H1 p (.lst (nV hb))=H2 at s2 v_;obtain⟨nd,nin,l64⟩:=uF l _ y6;nomatch I,I,A.f.aW,pa,A.S.s,dy,A.S.st,A.S.seen,l,rfl,s2 _ _ sI,s2 _ _ R.ss.kZ,s2 _ _ R.ss.lr,c_ R.ss.oQ R.ss.lT nofun,hP.same s2,y6,hPo.k63,λH3 da LM ae5 hdl abz Yt B3=>?_
 let Hm:Hp:=λc=>if c=p then none else H3 c;have em:∀c,c≠p->Hm c=H3 c:=λc n=>iN n;have sm:a_ Hm H3:=λc o hc=>by
  by_cases z:c=p
  .have:Hm c=none:=iP z;rw[this]at hc;cases hc
  .rw[<-em c z];exact hc
 have Bm:gH [A.S.s.ja,A.S.s.gV] H Hm:=λc o hc n=>by rw[em c (ai hc hp)];exact B3 c o (s2 _ _ hc) n
 have hnd:(A.S.seen++l.map λq=>cK q.1).Nodup:=((zC l _ LR.named.2).mp y6).1;obtain⟨Rm,km⟩:=R.keys Bm (by rw[em _ (ai R.ss.kZ hp)];exact abz) (by rw[em _ (ai R.ss.lr hp)];exact Yt) (FL l R.ss.ok) (by rw[az,aK];exact l64);have Lk:H3 p=some (.lst (nV hb)):=B3 _ _ v_ (by
  simp only[ak,ao,or_false];rintro(z|z)
  .exact ai R.ss.kZ hp z.symm
  .exact ai R.ss.lr hp z.symm)
 have Zd:H3 tr=some (.ins C.Turn dx A.f.fs):=by
  obtain⟨dz,g⟩:=Rm.tu;have g2:=B3 _ _ (s2 _ _ h1) (by
   simp only[ak,ao,or_false];rintro(z|z)
   .exact c_ R.FC R.ss.oQ nofun z
   .exact c_ R.FC R.ss.lT nofun z)
  exact g2
 have abA:da≠A.f.eZ:=aL (ai (s2 _ _ R.sn) LM);have ndp:da≠p:=aL (ai v_ LM);exists I,tr,dx,I,Zd,rfl,I,I;unfold kK;have ehb:hb=cw [(36,[((0,0):Nat×Nat).1,((0,0):Nat×Nat).2]),(14,aY 2 (if l9 h=3 then i+1 else 0)),(16,aD h 16 4),(8,aD h 8 6),(0,[35,h.getD 1 0])]:=by
  rw[<-Bl,hli];by_cases c:l9 h=3
  .rw[iP c,iP c];exact Oe hl _ _
  .rw[iN c,iN c];exact Le hl _
 have ep:=Jd (s:=Sg x A.S.st h l) LR.stat LR.cmd hl (flags:=h.getD 1 0) (e:=(0,0)) (vi A.S.s.stage++(iB A.S.st l).2) ehb;have U7:({A with S:={A.S with st:=(iB A.S.st l).1,seen:=A.S.seen++l.map λq=>cK q.1}}:Act).S.s.stage≠some 3:=kx;refine iI (b:=vi A.S.s.stage++(iB A.S.st l).2) Rm.sending sm (iP rfl) Lk GD ohb (.inl ae5) ((U4 _).append (Dl _ _ hPo.oc)) () abA ndp ((JF U7).trans ep) (uB Rm (λAF H' ko=>k.bad AF H' (km.FD ko)) λhle H' R' V9=>?_);obtain⟨yK,g2⟩:=R'.ss.at_;have Ya:H' A.f.aW=some (.ins C.Session yK (aV.fs A.S.s.counted)):=by rw[R.sa];exact g2
 exists I,I,A.f.aW,C.Session,yK,I,Ya,T.aF,T.fB,aV.len _;obtain⟨R7,RO⟩:=R'.attr (dy:=yK) (s':={A.S.s.counted with stage:=some (l9 h)}) ⟨rfl,rfl,rfl,rfl,rfl⟩ ⟨R'.ss.oy,R'.ss.oz,R'.ss.pL⟩;rw[R.sa];exact k.ok hle _ bP _ R7 rfl rfl rfl rfl rfl ⟨mB,LR.yes hn hnd rfl rfl⟩ ((km.trans V9).trans RO)
def ae6{G:Prop}{X Cd:Hp->Prop}(g:(∀H',Cd H'->X H')->G)(x:∀H',Cd H'->X H'):G:=g x
def ae7{G:Prop}{X Cd:V->Hp->Prop}(g:(∀v H',Cd v H'->X v H')->G)(x:∀v H',Cd v H'->X v H'):G:=g x
theorem wN:∀(l:List Pr){b:Bool}{e:Nat},iJ b l=some e->e<256
 | [],b,e,h=>nomatch h
 |q::l,b,e,h=>by
  rw[iJ]at h;split at h
  .obtain rfl:=af h;decide
  split at h
  .obtain rfl:=af h;decide
  .exact wN l h
def JH(h:lA l=some e):e<256:=by
 unfold lA at h;split at h
 .obtain rfl:=af h;decide
 split at h
 .obtain rfl:=af h;decide
 split at h
 .obtain rfl:=af h;decide
 split at h
 .obtain rfl:=af h;decide
 .cases h
def LP{stage:Option Nat}{seen:List bL}{h:List Nat}{o:Option (List Pr)}{e:Nat}(z:kj stage seen h o=some e):e<256:=by
 unfold kj at z;split at z
 .obtain rfl:=af z;decide
 split at z
 .obtain rfl:=af z;decide
 split at z
 .obtain rfl:=af z;decide
 split at z
 .obtain rfl:=af z;decide
 cases o with
 |none=>obtain rfl:=af z;decide
 |some l=>
  have z:(if ik seen l=false then some 0 else none)=some e:=z;split at z
  .obtain rfl:=af z;decide
  .cases z
def OQ{stage:Option Nat}{seen:List bL}{h:List Nat}{o:Option (List Pr)}{e:Nat}(z:r9 stage seen h o=some e):e<256:=by
 unfold r9 at z;cases e1:kj stage seen h o with
 |some d=>rw[e1]at z;obtain rfl:=af z;exact LP e1
 |none=>
  rw[e1]at z;cases o with
  |none=>obtain rfl:=af z;decide
  |some l=>
   have z:(if stage=none then(match lA l with|some d=>some d|none=>iJ true l)else iJ false l)=some e:=z
   split at z
   .cases e2:lA l with
    |some d=>rw[e2]at z;obtain rfl:=af z;exact JH e2
    |none=>rw[e2]at z;exact wN l z
   .exact wN l z
def JI{stage:Option Nat}{seen:List bL}{h:List Nat}{o:Option (List Pr)}(z:r9 stage seen h o=none):kj stage seen h o=none:=by
 unfold r9 at z;cases e1:kj stage seen h o with
 |some d=>rw[e1]at z;cases z
 |none=>rfl
def OS{stage:Option Nat}{seen:List bL}{h:List Nat}{o:Option (List Pr)}(hf:h.getD 1 0<256)(sm:∀n,stage=some n->n<2)(z:kj stage seen h o=none):l9 h<2\/l9 h=3:=by
 unfold kj at z;split at z
 .cases z
 split at z
 .cases z
 split at z
 .cases z
 split at z
 .cases z
 rename_i hn;have h1:nA stage (pO h)=true:=by
  cases q:nA stage (pO h)with
  |true=>rfl
  |false=>exact absurd (.inl q) hn
 have h2:my h=true:=by
  cases q:my h with
  |true=>rfl
  |false=>exact absurd (.inr q) hn
 have hat:pO h<2:=by
  cases stage with
  |none=>exact of_decide_eq_true h1
  |some n=>have:pO h=n:=of_decide_eq_true h1;rw[this];exact sm n rfl
 unfold my at h2;unfold l9;have b7:=yg hf;by_cases c:128<=h.getD 1 0
 .rw[iP c];rw[decide_eq_true c]at b7;rw[iN (by rw[<-b7];decide)]at h2;have:=of_decide_eq_true h2;lia
 .rw[iN c];exact .inl hat
inductive EF(C:Cl)(vs:List V)(H:Hp)(Q:VK)(E:XK):Prop
 |mk(tr ha da:aB)(bP:aB->kT)(i:Nat)(A:Act)(h b:List Nat)(x:aJ)(_:vs=[.ref tr,.ref ha,.ref da])(_:hG C H bP i tr A)(_:fK H ha (nV h))(_:fK H da (nV b))(_:h.length=48)(_:fU h)(_:b.length<=8192)(_:A.S.s.stage≠some 3)(_:A.S.s.closed=false)(_:A.S.s.line=i)(_:ji A.S x.buf x)(_:lU C H Q E bP i tr A x.buf (k9 i x h b).1 (k9 i x h b).2 (bM A.wr))
def ji.log(SR:ji S gi x)(kx:S.s.stage≠some 3)(ec:yt=if S.s.stage=none then ax h 24 4 else S.s.cmd): (x.stage==4)=decide (S.s.stage=none)/\U6 {S with s:={S.s with cmd:=yt}} gi (if(x.stage==4)=true then{x with cmd:=ax h 24 4,stage:=h.getD 1 0/4%4}else x)/\(h.getD 1 0<256->Wd (if(x.stage==4)=true then{x with cmd:=ax h 24 4,stage:=h.getD 1 0/4%4}else x) S.st S.s.stage S.seen h):=by
 have Yu:x.first=S.st.first:=by rw[SR.first,iN kx]
 have ex:x=lP x S.st:=by have e1:=SR.heads;have e2:=SR.datas;have e3:=SR.asks;have e4:=SR.with_;have e5:=SR.theirs;have e6:=SR.burst;unfold lP;rw[<-e1,<-e2,<-e3,<-e4,<-e5,<-e6,<-Yu]
 have e0:=SR.stage;cases AV:S.s.stage with
 |none=>
  rw[AV]at e0 ec;have e4:x.stage=4:=e0;have ec:yt=ax h 24 4:=ec;rw[e4];nomatch rfl,⟨?_,SR.named,SR.stat,ec.symm,SR.next,SR.told,SR.tasks,SR.rY⟩,λhf=>⟨rfl,(λn z=>nomatch z),SR.named.1,SR.named.2,?_,hf⟩
  .show({x with cmd:=_,stage:=_}:aJ)=_;conv=>lhs;rw[ex]
   rfl
  .show({x with cmd:=_,stage:=_}:aJ)=_;conv=>lhs;rw[ex]
   rfl
 |some n=>
  rw[AV]at e0 ec;have e4:x.stage=n:=e0;have ec:yt=S.s.cmd:=ec;have hn:n<2:=by
   rcases SR.Em n AV with g|g
   .exact g
   .exact absurd (by rw[AV,g]) kx
  have eb:(x.stage==4)=false:=by rw[e4];exact beq_eq_false_iff_ne.mpr ()
  rw[eb];nomatch rfl,⟨ex,SR.named,SR.stat,SR.cmd.trans ec.symm,SR.next,SR.told,SR.tasks,SR.rY⟩,λhf=>⟨e4,λm z=>?_,SR.named.1,SR.named.2,ex,hf⟩
  obtain rfl:=af z;exact hn
def Hf:T.xJ.E P w aR C.dF 7 (EF C):=by
 refine T.xJ.wY ?_;kd_p
 obtain⟨tr,ha,da,bP,i,A,h,b,x,rfl,R,fh,fb,hl,oh,GD,kx,mB,hli,SR,k⟩:=h;exists _,(aa (cJ 3 nd (aT b4 rfl)) (aa (bH (i_ (mX (aT gQ rfl))) (aj (ck gQ (aI (dY T) (mh cC au au)) rfl)) aZ) (aa (cJ 4 nd (aI (LG T) (fN fF))) (aa (cJ 5 nd (aI (Hb T) (mh gQ cC kS))) (aj (bH (i_ (mX zV)) (aj (bj (aI (Sk T) (mh b4 cC kS)))) (aj (bj (aI (Si T) (mh b4 cC zV))))))))));obtain⟨dx,h1⟩:=R.tu;obtain⟨dy,h2⟩:=R.ss.at_;have sI:H A.f.aW=some (.ins C.Session dy (aV.fs A.S.s)):=by rw[R.sa];exact h2
 have hf:=uC oh 1;obtain⟨yt,ec⟩:∃c:Nat,c=if A.S.s.stage=none then ax h 24 4 else A.S.s.cmd:=⟨_,rfl⟩;have GZ:yt<4294967296:=by
  rw[ec];split
  .exact zt oh 24
  .exact R.ss.oz
 exists I,tr,C.Turn,dx,_,I,h1,T.cy,T.bX,A.f.eA;exists I,A.f.aW,C.Session,dy,_,I,sI,T.aF,T.fB,A.S.s.rS;refine ae6 (Cd:=λH'=>hG C H' bP i tr {A with S:={A.S with s:={A.S.s with cmd:=yt}}}/\Keeps i bP bP H H'/\js H H') (λz=>by
  cases AV:A.S.s.stage with
  |none=>
   nomatch I,fI ?_
   nomatch I,ha,h,24,4,rfl,fh.sq,λH1 s1=>⟨_,rfl,A.f.aW,C.Session,dy,_,rfl,s1 _ _ sI,T.aF,T.cT,aV.len _,?_⟩
   rw[aV.aaK,show ax h 24 4=yt by rw[ec,iP AV]];have q:=(R.same s1).RT (H':=upd H1 A.S.a (.ins C.Session dy (aV.fs {A.S.s with cmd:=yt}))) (s':={A.S.s with cmd:=yt}) ⟨dy,ae⟩ ((gU.refl _ _).upd _) ⟨rfl,rfl,rfl,rfl,rfl⟩ ⟨R.ss.oy,GZ,R.ss.pL⟩;rw[<-R.sa]at q;generalize upd H1 A.f.aW (.ins C.Session dy (aV.fs {A.S.s with cmd:=yt}))=H2 at q;exact z H2 ⟨q.1,(Keeps.same s1).trans q.2.1,λb o u e=>q.2.2 b o u (s1 _ _ e)⟩
  |some n=>
   nomatch I,gY ?_
   refine z H ⟨?_,Keeps.same (a_.refl H),λb o u e=>e⟩;have:yt=A.S.s.cmd:=by rw[ec,AV];rfl
   rw[this];exact R) ?_
 rintro H1 ⟨R1,Lp,Zo⟩;obtain⟨eb,LR,LI⟩:=SR.log (h:=h) kx ec;have LI:=LI hf;rw[OM]at k;generalize(if(x.stage==4)=true then{x with cmd:=ax h 24 4,stage:=h.getD 1 0/4%4}else x:aJ)=x1 at LR LI k;rw[eb,ON LI]at k;obtain⟨XM,t1⟩:=R1.tu;obtain⟨Uw,t2⟩:=R1.ss.at_;have t2':H1 A.f.aW=some (.ins C.Session Uw (aV.fs {A.S.s with cmd:=yt})):=by rw[R.sa];exact t2
 have RF:=Zo.gm fh;have fb1:=Zo.gm fb;refine ae7 (Cd:=λv H2=>a_ H1 H2/\Ha H2 (ka b) v) (λz=>⟨_,rfl,da,b,rfl,fb1.sq,GD,by
  cases ep:ka b with
  |some l=>
   intro H2 p hp hP s2;have q:Ha H2 (ka b) (V.ref p):=by rw[ep];nomatch p,rfl,hP,cZ (Dm ep).2 (cZ GD #[])
   generalize V.ref p=v at q;exact z v H2 ⟨s2,q⟩
  |none=>exact λH2 s2=>z V.eY H2 ⟨s2,by rw[ep];rfl⟩⟩) ?_
 rintro v H2 ⟨s2,hv⟩;have R2:=R1.same s2;nomatch I,I,I,A.f.aW,ha,v,_,Uw,A.S.seen,h,ka b,rfl,s2 _ _ t2',R2.ss.lr,R2.ss.sm,fK.same RF s2,hl,oh,hv,λl el q hq=>((Dm el).1.k63 q hq).2,λH3 s3=>⟨_,rfl,_,rfl,?_⟩
 have Pg:=s2.trans s3;have R3:=R1.same Pg;have UO:Keeps i bP bP H H3:=Lp.trans (Keeps.same Pg);cases er:r9 A.S.s.stage A.S.seen h (ka b)with
 |some e=>rw[er]at k;refine gY ?_;nomatch I,I,I,tr,ha,bP,i,_,h,e,x1,x.buf,rfl,R3,fK.same RF Pg,hl,oh,OQ er,kx,LR.stat,LR.cmd,(k.from (A1:={A with S:={A.S with s:={A.S.s with cmd:=yt}}}) UO rfl rfl rfl rfl).q
 |none=>rw[er]at k;refine fI ?_;have ef:=JI er;obtain⟨l,el,y6⟩:=FJ ef;rw[el]at hv k;obtain⟨p,rfl,hP,_⟩:=hv;nomatch I,I,I,tr,ha,p,bP,i,_,h,l,x1,x.buf,rfl,R3,fK.same RF Pg,hl,oh,hP.same s3,(Dm el).1,y6,kx,mB,OS hf LI.sm ef,hli,LR,(k.from (A1:={A with S:={A.S with s:={A.S.s with cmd:=yt}}}) UO rfl rfl rfl rfl).q
def intD(b:List Nat):List PyData:=b.map λ(n:Nat)=>PyData.int n
theorem yu:∀b:List Nat,vq K H (nV b) (intD b)
 | []=>.nil
 |x::b=>.cons (.int _) (yu b)
def Bs(b:List Nat):pP (.list (intD b))=true:=by
 have h1:∀b:List Nat,PyData.canLayAll0 (intD b)=true:=λb=>by
  induction b with
  |nil=>rfl
  |cons x b ih=>show(PyData.canLay0 _&&PyData.canLayAll0 (intD b))=true;rw[ih];rfl
 have h2:∀b:List Nat,PyData.depthAll (intD b)=0:=λb=>by
  induction b with
  |nil=>rfl
  |cons x b ih=>show max (PyData.depth _) (PyData.depthAll (intD b))=0;rw[ih];rfl
 unfold pP;have e1:PyData.canLay0 (.list (intD b))=PyData.canLayAll0 (intD b):=rfl;have e2:PyData.depth (.list (intD b))=PyData.depthAll (intD b)+1:=rfl;rw[e1,e2,h1,h2];rfl
def Sl(a b:List Nat):PyData.eqv (.list (intD a)) (.list (intD b))=decide (a=b):=by
 show PyData.eqvAll (intD a) (intD b)=_;induction a generalizing b with
 |nil=>cases b<;>rfl
 |cons x a ih=>
  cases b with
  |nil=>rfl
  |cons y b=>
   show((((x:Nat):Int)==((y:Nat):Int))&&PyData.eqvAll (intD a) (intD b))=_;rw[ih];by_cases h:x=y
   .subst h;by_cases h2:a=b
    .subst h2;simp
    .simp[h2]
   .have:(((x:Nat):Int)==((y:Nat):Int))=false:=beq_eq_false_iff_ne.mpr ();rw[this,decide_eq_false (show ¬(x::a=y::b)from λz=>h (we z).1),w9]
def oV(wk:Bool)(h:List Nat):Bool:=decide (128<=h.getD 0 0)||(decide (h.getD 4 0≠0)||(decide (8192<ax h 5 3)||(if wk=true then decide (h.getD 0 0=67\/h.getD 0 0=3)else decide (h.getD 0 0≠67))))
def gk(s:aV)(st:cb):Nat:=if(de s&&st.heads)=true then 52 else 48
def yw(s:aV)(st:cb)(n:Nat):Nat:=if 0<n/\(de s&&st.datas)=true then 4 else 0
def j2(s:aV)(st:cb)(h:List Nat):Nat:=gk s st+(ax h 5 3+3)/4*4+yw s st (ax h 5 3)
def Yf(a b:Nat):(!decide (V.int (a:Int)=V.int (b:Int)))=decide (a≠b):=by
 by_cases h:a=b
 .subst h;simp
 .rw[decide_eq_false (λz=>h (by have:=V.int.inj z;lia)),decide_eq_true h];rfl
def nX(h:fT K H b xs)(s:a_ H H'):fT K H' b xs:=by
 rcases h with(h|⟨o,h⟩)|h
 .exact .inl (.inl (s _ _ h))
 .exact .inl (.inr ⟨o,s _ _ h⟩)
 .exact .inr h
inductive AY(C:Cl)(K:aq)(vs:List V)(H:Hp)(Q:VK)(kn:XK):Prop
 |mk(sa ha s h)(_:vs=[.ref sa,.ref ha])(_:qw C H sa s)(_:fT K H ha (nV h))(_:h.length=48)(_:∀H',a_ H H'->Q (.bl (oV (de s) h)) H')
def Dr:T.uc.D P w aR 2 (AY C K):=by
 refine T.uc.ok ?_;kd_p
 obtain⟨sa,ha,s,h,rfl,⟨dy,hs⟩,fh,hl,k⟩:=h;exists _,(aa (bH (kR (bg HJ (fE cX cC au (λ_ _=>rfl)) au (bD _)) (kR (bg k_ (fE cX cC au (λ_ _=>rfl)) au (bD _)) (j6 (bg o7 (aI (dY T) (mh cC au au)) (aU T.IP) (bD _))))).pt (aj (aP kP)) aZ) (aa (bH (dA (b_ (jh T) T.aF b4)) (aj (aP (gL iq (fE cX cC au (λ_ _=>rfl)) (qr T.D7) (by with_unfolding_all rfl)))) aZ) (aj (aP (gL k_ (fE cX cC au (λ_ _=>rfl)) (aU T.Ur) (bD _))))));unfold oV at k;exists I,ha,_,J,fh,cM (gv (i:=0) ()),J,I;refine gM (λq=>?_) (λq=>?_)
 .have q:decide ((128:Int)<=((h.getD 0 0:Nat):Int))=true:=q;have q:(128:Int)<=((h.getD 0 0:Nat):Int):=of_decide_eq_true q;rw[decide_eq_true (show 128<=h.getD 0 0 by lia)]at k;exact fI (k H (a_.refl H))
 have q:decide ((128:Int)<=((h.getD 0 0:Nat):Int))=false:=q;have q:¬(128:Int)<=((h.getD 0 0:Nat):Int):=of_decide_eq_false q;rw[decide_eq_false (show ¬128<=h.getD 0 0 by lia),gc]at k;exists I,ha,_,J,fh,cM (gv (i:=4) ()),rfl,I;have e4:=Yf (h.getD 4 0) 0;show if(!decide (V.int ((h.getD 4 0:Nat):Int)=V.int ((0:Nat):Int)))=true then _ else _;rw[e4];refine gG (λq=>?_) (λq=>?_)
 .rw[decide_eq_true q]at k;exact fI (k H (a_.refl H))
 rw[decide_eq_false q,gc]at k;nomatch I,ha,h,5,3,rfl,fh,λH1 s1=>⟨_,_,rfl,rfl,_,rfl,?_⟩
 refine gM (λq=>?_) (λq=>?_)
 .have q:decide ((8192:Int)<((ax h 5 3:Nat):Int))=true:=q;have q:(8192:Int)<((ax h 5 3:Nat):Int):=of_decide_eq_true q;rw[decide_eq_true (show 8192<ax h 5 3 by lia)]at k;exact k H1 s1
 have q:decide ((8192:Int)<((ax h 5 3:Nat):Int))=false:=q;have q:¬(8192:Int)<((ax h 5 3:Nat):Int):=of_decide_eq_false q;rw[decide_eq_false (show ¬8192<ax h 5 3 by lia),gc]at k;exists I,sa,dy,I,s1 _ _ hs,rfl,sa,I,⟨s,⟨dy,s1 _ _ hs⟩,rfl⟩,I;cases hw:de s with
 |true=>
  rw[hw,iP rfl]at k;refine fI ?_;nomatch I,ha,_,J,nX fh s1,cM (gv (i:=0) ()),λta yM=>⟨ta,_,rfl,.inr yM,rfl,rfl,?_⟩
  have e:tI (V.int ((h.getD 0 0:Nat):Int)) [V.int 67,V.int 3]=decide (h.getD 0 0=67\/h.getD 0 0=3):=by
   show(((67:Int)==((h.getD 0 0:Nat):Int))||(((3:Int)==((h.getD 0 0:Nat):Int))||false))=_
   generalize h.getD 0 0=m;by_cases a:m=67
   .subst a;rfl
   by_cases b:m=3
   .subst b;rfl
   rw[decide_eq_false (),beq_eq_false_iff_ne.mpr (),beq_eq_false_iff_ne.mpr ()];rfl
  rw[<-e]at k;exact k H1 s1
 |false=>rw[hw,iN #[]]at k;refine gY ?_;exists I,ha,_,J,nX fh s1,cM (gv (i:=0) ()),rfl;rw[<-Yf]at k;exact k H1 s1
inductive EG(C:Cl)(vs:List V)(H:Hp)(Q:VK)(kn:XK):Prop
 |mk(sa s st)(_:vs=[.ref sa])(_:ki C H sa s st)(_:Q (.int (gk s st:Nat)) H)
def oW:T.xS.D P w aR 3 (EG C):=by
 refine T.xS.ok ?_;kd_p
 obtain⟨sa,s,st,rfl,hs,k⟩:=h;exists _,(aj (aP (kC (dA (b_ (j9 T) T.aF b4)) (bO eJ (aU T.h_) (aU T.rQ)) (aU T.h_))));obtain⟨⟨dy,h1⟩,h2⟩:=hs;exists I,sa,dy,I,h1,rfl,sa,I,⟨s,st,⟨⟨dy,h1⟩,h2⟩,rfl⟩,I;unfold gk at k;cases e:de s&&st.heads with
 |true=>rw[e,iP rfl]at k;exact fI ⟨_,_,rfl,rfl,k⟩
 |false=>rw[e,iN #[]]at k;exact gY k
inductive Ds(C:Cl)(K:aq)(vs:List V)(H:Hp)(Q:VK)(kn:XK):Prop
 |mk(sa ha s st h)(_:vs=[.ref sa,.ref ha])(_:ki C H sa s st)(_:fT K H ha (nV h))(_:∀H',a_ H H'->Q (.int (j2 s st h:Nat)) H')
def ki.same{H H':Hp}{a:aB}{s:aV}{st:cb}(h:ki C H a s st)(e:a_ H H'):ki C H' a s st:=by obtain⟨⟨dy,h1⟩,h2⟩:=h;nomatch⟨dy,e _ _ h1⟩,e _ _ h2
def EH:T.vO.D P w aR 4 (Ds C K):=by
 refine T.vO.ok ?_;kd_p
 obtain⟨sa,ha,s,st,h,rfl,hs,fh,k⟩:=h;exists _,(aa (cJ 2 nd (aI (dY T) (mh cC au au))) (aa (cJ 3 nd (kC (nZ (bg o7 fF au (bD _)) (lF (dA (b_ (kY T) T.aF b4)))).pt (aU T.rQ) au)) (aj (aP (bO eJ (bO eJ (aI (oW T) (fN b4)) (aI (vW T) (fN fF))) gQ)))));nomatch I,ha,h,5,3,rfl,fh,λH1 s1=>?_
 have DO:=hs.same s1;have k1:=k H1 s1;unfold j2 yw at k1;obtain⟨⟨dy,h1⟩,h2⟩:=DO;exists I,J,I;generalize ax h 5 3=n at k1;refine gM (λq=>?_) (λq=>?_)
 .have q:decide ((0:Int)<((n:Nat):Int))=true:=q;have q:(0:Int)<((n:Nat):Int):=of_decide_eq_true q;have q:0<n:=();exists I,sa,dy,I,h1,rfl,sa,I,⟨s,st,⟨⟨dy,h1⟩,h2⟩,rfl⟩,I;cases e:de s&&st.datas with
  |true=>rw[e,iP ⟨q,rfl⟩]at k1;refine fI ?_;nomatch I,sa,s,st,rfl,⟨⟨dy,h1⟩,h2⟩,I,n,rfl,J,I,J,k1
  |false=>rw[e,iN (λz=>nomatch z.2)]at k1;refine gY ?_;nomatch I,sa,s,st,rfl,⟨⟨dy,h1⟩,h2⟩,I,n,rfl,J,I,J,k1
 .have q:decide ((0:Int)<((n:Nat):Int))=false:=q;have q:¬(0:Int)<((n:Nat):Int):=of_decide_eq_false q;rw[iN (λz=>q ())]at k1;refine gY ?_;nomatch I,sa,s,st,rfl,⟨⟨dy,h1⟩,h2⟩,I,n,rfl,J,I,J,k1
def Zs(s:aV)(st:cb)(pk:List Nat):Bool:=if(de s&&st.heads)=false\/pk.length<gk s st then false else decide (aD pk 48 (gk s st-48)≠ke (pk.take 48))
def dsW(s:aV)(st:cb)(pk:List Nat)(size:Nat):Bool:=if(de s&&st.datas)=false\/pk.length<size\/size=gk s st then false else decide (aD pk (size-4) 4≠ke (aD pk (gk s st) (size-4-gk s st)))
def We(s:aV)(st:cb)(pk:List Nat)(size:Nat):Bool:=oV (de s) (pk.take 48)||(Zs s st pk||dsW s st pk size)
def Sm(a b:List Nat):(!PyData.eqv (.list (intD a)) (.list (intD b)))=decide (a≠b):=by rw[Sl,decide_not]
def Hg(s:aV)(st:cb):48<=gk s st:=by unfold gk;split<;>decide
inductive vj(C:Cl)(K:aq)(vs:List V)(H:Hp)(Q:VK)(kn:XK):Prop
 |mk(sa pa s st pk)(_:vs=[.ref sa,.ref pa])(_:ki C H sa s st)(_:fT K H pa (nV pk))(_:pk.length<=100000)(_:fU pk)(_:∀H',a_ H H'->Q (.bl (Zs s st pk)) H')
def wO:T.ph.D P w aR 4 (vj C K):=by
 refine T.ph.ok ?_;kd_p
 obtain⟨sa,pa,s,st,pk,rfl,hs,fp,A9,op,k⟩:=h;exists _,(aa (cJ 2 nd (aI (oW T) (fN b4))) (aa (bH (kR (iH (dA (b_ (j9 T) T.aF b4))) (j6 (bg tH (bZ cV (by rfl) T.gT fQ (fN cC)) fF (bD _)))).pt (aj (aP kP)) aZ) (aj (aP (gL (Qg hr.units) (ej fV cC (cS (aU T.h_)) (cS fF)) (aI (Cy T) (fN (ej fV cC oP (cS (aU T.h_))))) (bD _))))));have hs0:=hs;obtain⟨⟨dy,h1⟩,h2⟩:=hs;unfold Zs at k;exists I,sa,s,st,rfl,hs0;exists I,sa,dy,I,h1,rfl,sa,I,⟨s,st,hs0,rfl⟩,I;cases e:de s&&st.heads with
 |false=>rw[e,iP (.inl rfl)]at k;exact fI (fI (k H (a_.refl H)))
 |true=>
  refine gY ?_;exists I,_,pk.length,rfl,.inl ⟨_,fp,(bA pk).symm⟩,I,J,I;refine gM (λq=>?_) (λq=>?_)
  .have q:decide (((pk.length:Nat):Int)<((gk s st:Nat):Int))=true:=q;have q:((pk.length:Nat):Int)<((gk s st:Nat):Int):=of_decide_eq_true q;rw[iP (.inr ())]at k;exact k H (a_.refl H)
  have q:decide (((pk.length:Nat):Int)<((gk s st:Nat):Int))=false:=q;have q:¬((pk.length:Nat):Int)<((gk s st:Nat):Int):=of_decide_eq_false q;rw[iN (by rintro(z|z);rw[e]at z;cases z;lia)]at k
  have eb:=Hg s st;nomatch I,I,I,I,pa,I,fp,λp1 rD=>?_
  have c1:jv (nV pk) (some 48) (some ((gk s st:Nat):Int))=nV (aD pk 48 (gk s st-48)):=lH pk 48 _ eb;rw[c1];have s1:=aS (a_.refl H) rD (.lst (nV (aD pk 48 (gk s st-48))));nomatch I,I,pa,I,nX fp s1,λp2 v_=>?_
  have c2:jv (nV pk) none (some 48)=nV (pk.take 48):=rX pk 48;rw[c2];have s2:=aS (a_.refl (upd H p1 (.lst (nV (aD pk 48 (gk s st-48)))))) v_ (.lst (nV (pk.take 48)));nomatch p2,pk.take 48,rfl,fT.of ae,λx hx=>op x (o5 hx),λH3 p3 Lk h3 s3=>?_
  have g1:H3 p1=some (.lst (nV (aD pk 48 (gk s st-48)))):=s3 _ _ (s2 _ _ ae);exists _,_,.lst (fT.of g1) (yu _),.lst (fT.of h3) (yu _),Bs _,Bs _;rw[Sm];exact k H3 ((s1.trans s2).trans s3)
inductive yx(C:Cl)(K:aq)(vs:List V)(H:Hp)(Q:VK)(kn:XK):Prop
 |mk(sa pa:aB)(s:aV)(st:cb)(pk:List Nat)(size:Nat)(_:vs=[.ref sa,.ref pa,.int size])(_:ki C H sa s st)(_:fT K H pa (nV pk))(_:pk.length<=100000)(_:fU pk)(_:(size=gk s st\/gk s st+4<=size))(_:∀H',a_ H H'->Q (.bl (dsW s st pk size)) H')
def zD:T.qX.D P w aR 4 (yx C K):=by
 refine T.qX.ok ?_;kd_p
 obtain⟨sa,pa,s,st,pk,size,rfl,hs,fp,A9,op,hsz,k⟩:=h;exists _,(aa (cJ 3 nd (aI (oW T) (fN b4))) (aa (bH (kR (iH (dA (b_ (kY T) T.aF b4))) (kR (bg tH (bZ cV (by rfl) T.gT fQ (fN cC)) fF (bD _)) (j6 (bg fD fF gQ (bD _))))).pt (aj (aP kP)) aZ) (aa (cJ 4 nd (bO md fF (aU T.rQ))) (aj (aP (gL (Qg hr.units) (ej fV cC (cS kS) (cS fF)) (aI (Cy T) (fN (ej fV cC (cS gQ) (cS kS)))) (bD _)))))));have hs0:=hs;obtain⟨⟨dy,h1⟩,h2⟩:=hs;unfold dsW at k;exists I,sa,s,st,rfl,hs0;exists I,sa,dy,I,h1,rfl,sa,I,⟨s,st,hs0,rfl⟩,I;cases e:de s&&st.datas with
 |false=>rw[e,iP (.inl rfl)]at k;exact fI (fI (k H (a_.refl H)))
 |true=>
  refine gY ?_;exists I,_,pk.length,rfl,.inl ⟨_,fp,(bA pk).symm⟩,I,J,I;refine gM (λq=>?_) (λq=>?_)
  .have q:decide (((pk.length:Nat):Int)<((size:Nat):Int))=true:=q;have q:((pk.length:Nat):Int)<((size:Nat):Int):=of_decide_eq_true q;rw[iP (.inr (.inl ()))]at k;exact fI (k H (a_.refl H))
  have q:decide (((pk.length:Nat):Int)<((size:Nat):Int))=false:=q;have q:¬((pk.length:Nat):Int)<((size:Nat):Int):=of_decide_eq_false q;exists I,I,rfl,I;refine gG (λu=>?_) (λu=>?_)
  .have u:V.int ((size:Nat):Int)=V.int ((gk s st:Nat):Int):=u;rw[iP (.inr (.inr (by have:=V.int.inj u;lia)))]at k;exact k H (a_.refl H)
  have u:¬size=gk s st:=λz=>u (by show V.int ((size:Nat):Int)=V.int ((gk s st:Nat):Int);rw[z]);rw[iN (by rintro(z|z|z);rw[e]at z;cases z;lia;exact u z)]at k
  have eb:=Hg s st;have hsz:gk s st+4<=size:=hsz.resolve_left u;exists I,J;have e4:((size:Nat):Int)-4=((size-4:Nat):Int):=();show nJ 4 (V.int (((size:Nat):Int)-4)) _ _ _;rw[e4];nomatch I,I,I,I,I,pa,I,fp,λp1 rD=>?_
  have c1:jv (nV pk) (some ((size-4:Nat):Int)) (some ((size:Nat):Int))=nV (aD pk (size-4) 4):=by have:=lH pk (size-4) size ();rw[show size-(size-4)=4 by lia]at this;exact this
  rw[c1];have s1:=aS (a_.refl H) rD (.lst (nV (aD pk (size-4) 4)));nomatch I,I,I,I,I,pa,I,nX fp s1,λp2 v_=>?_
  have c2:jv (nV pk) (some ((gk s st:Nat):Int)) (some ((size-4:Nat):Int))=nV (aD pk (gk s st) (size-4-gk s st)):=lH pk _ _ ();rw[c2];have s2:=aS (a_.refl (upd H p1 (.lst (nV (aD pk (size-4) 4))))) v_ (.lst (nV (aD pk (gk s st) (size-4-gk s st))));nomatch p2,I,fT.of ae,fU.part op _ _,λH3 p3 Lk h3 s3=>?_
  have g1:H3 p1=some (.lst (nV (aD pk (size-4) 4))):=s3 _ _ (s2 _ _ ae);exists _,_,.lst (fT.of g1) (yu _),.lst (fT.of h3) (yu _),Bs _,Bs _;rw[Sm];exact k H3 ((s1.trans s2).trans s3)
inductive AZ(C:Cl)(K:aq)(vs:List V)(H:Hp)(Q:VK)(kn:XK):Prop
 |mk(sa pa:aB)(s:aV)(st:cb)(pk:List Nat)(size:Nat)(_:vs=[.ref sa,.ref pa,.int size])(_:ki C H sa s st)(_:fT K H pa (nV pk))(_:pk.length<=100000)(_:48<=pk.length)(_:fU pk)(_:(size=gk s st\/gk s st+4<=size))(_:∀H',a_ H H'->Q (.bl (We s st pk size)) H')
def Dt:T.ud.D P w aR 5 (AZ C K):=by
 refine T.ud.ok ?_;kd_p
 obtain⟨sa,pa,s,st,pk,size,rfl,hs,fp,A9,h48,op,hsz,k⟩:=h;exists _,(aj (aP (VE (aI (Dr T) (i5 b4 (ej fV cC oP (cS (aU T.h_))))) (VE (aI (wO T) (i5 b4 cC)) (FY (aI (zD T) (mh b4 cC fF)))))));unfold We at k;nomatch I,I,I,pa,I,fp,λp1 rD=>?_
 have c2:jv (nV pk) none (some 48)=nV (pk.take 48):=rX pk 48;rw[c2];have s1:=aS (a_.refl H) rD (.lst (nV (pk.take 48)));nomatch sa,p1,s,pk.take 48,rfl,(hs.same s1).se,fT.of ae,by rw[bf];lia,λH2 s2=>⟨_,rfl,?_⟩
 have qJ:=s1.trans s2;cases e:oV (de s) (pk.take 48)with
 |true=>rw[e]at k;exact fI (k H2 qJ)
 |false=>
  rw[e,gc]at k;refine gY ⟨_,rfl,_,rfl,sa,pa,s,st,pk,rfl,hs.same qJ,nX fp qJ,A9,op,λH3 s3=>⟨_,rfl,?_⟩⟩;have C2:=qJ.trans s3;cases e2:Zs s st pk with
  |true=>rw[e2]at k;exact fI (k H3 C2)
  |false=>rw[e2,gc]at k;exact gY ⟨_,rfl,_,rfl,_,rfl,sa,pa,s,st,pk,size,rfl,hs.same C2,nX fp C2,A9,op,hsz,λH4 s4=>k H4 (C2.trans s4)⟩
def uU(b:List Nat)(h:p+n<=m):aD (b.take m) p n=aD b p n:=by unfold aD;rw[Hy,qN,dM ()]
def M0(R:SRel0 S x):(x.stage==3)=de S.s:=by
 rw[R.stage];unfold de RB;cases S.s.stage with
 |none=>rfl
 |some n=>
  show(n==3)=decide (some n=some 3);by_cases h:n=3
  .subst h;rfl
  .rw[decide_eq_false (λz=>h (af z))];exact beq_eq_false_iff_ne.mpr h
def Sn(wk:Bool)(h:List Nat):(128<=h.getD 0 0\/h.getD 4 0≠0\/BD<ax h 5 3\/(wk=false/\h.getD 0 0≠0x43)\/(wk=true/\h.getD 0 0%64=3))↔oV wk h=true:=by
 unfold oV BD;cases wk with
 |true=>simp only[ky,decide_eq_true_eq,if_true,reduceCtorEq,false_and,false_or,true_and];lia
 |false=>simp only[ky,decide_eq_true_eq,mD,if_false,reduceCtorEq,false_and,or_false,true_and]
def fill_eq(n:Nat):n+(4-n%4)%4=(n+3)/4*4:=()
def OU(R:SRel0 S x)(hb:48<=x.buf.length):iE x= if We S.s S.st (x.buf.take (j2 S.s S.st (x.buf.take 48))) (j2 S.s S.st (x.buf.take 48))=true then some none else if(x.buf.take (j2 S.s S.st (x.buf.take 48))).length<j2 S.s S.st (x.buf.take 48)then none else some (some (x.buf.take 48,aD x.buf (gk S.s S.st) (ax (x.buf.take 48) 5 3),x.buf.drop (j2 S.s S.st (x.buf.take 48)))):=by
 unfold iE;dsimp only;rw[M0 R,R.heads,R.datas];generalize x.buf=b at hb;rw[iN (by omega)];have ep:(48+if(de S.s&&S.st.heads)=true then 4 else 0)=gk S.s S.st:=by unfold gk;split<;>rfl
 have er:(if(de S.s&&S.st.datas)=true/\0<ax (b.take 48) 5 3 then 4 else 0)=yw S.s S.st (ax (b.take 48) 5 3):=by
  unfold yw;by_cases c:0<ax (b.take 48) 5 3/\(de S.s&&S.st.datas)=true
  .rw[iP c,iP ⟨c.2,c.1⟩]
  .rw[iN c,iN (λz=>c ⟨z.2,z.1⟩)]
 rw[ep,er,fill_eq];have esz:gk S.s S.st+(ax (b.take 48) 5 3+3)/4*4+yw S.s S.st (ax (b.take 48) 5 3)=j2 S.s S.st (b.take 48):=rfl;rw[esz];have ajq:=Hg S.s S.st;have hsz:gk S.s S.st<=j2 S.s S.st (b.take 48):=by rw[<-esz];omega
 have hlen:(b.take (j2 S.s S.st (b.take 48))).length=min (j2 S.s S.st (b.take 48)) b.length:=bf;have et:(b.take (j2 S.s S.st (b.take 48))).take 48=b.take 48:=by rw[qN,dM (by omega)]
 unfold We;rw[et];by_cases c1:oV (de S.s) (b.take 48)=true
 .rw[iP ((Sn _ _).mpr c1),c1,M7,iP rfl]
 rw[iN (λz=>c1 ((Sn _ _).mp z))];have c1:oV (de S.s) (b.take 48)=false:=by simpa using c1
 rw[c1,gc];have eh:Zs S.s S.st (b.take (j2 S.s S.st (b.take 48)))=decide (¬b.length<gk S.s S.st/\gk S.s S.st=52/\aD b 48 4≠ke (b.take 48)):=by
  unfold Zs;rw[et];by_cases g:(de S.s&&S.st.heads)=true
  .have e52:gk S.s S.st=52:=by unfold gk;rw[iP g]
   by_cases g2:b.length<gk S.s S.st
   .rw[iP (.inr (by omega)),decide_eq_false (λz=>z.1 g2)]
   .rw[iN (by rintro(z|z);rw[g]at z;cases z;omega),uU b (by omega),e52]
    apply decide_eq_decide.mpr;nomatch λz=>⟨by rw[<-e52];exact g2,rfl,z⟩,λz=>z.2.2
  .have e48:gk S.s S.st=48:=by unfold gk;rw[iN g]
   rw[iP (.inl (by simpa using g)),decide_eq_false (λz=>by rw[e48]at z;exact absurd z.2.1 #[])]
 have ed:dsW S.s S.st (b.take (j2 S.s S.st (b.take 48))) (j2 S.s S.st (b.take 48))=decide (¬b.length<j2 S.s S.st (b.take 48)/\yw S.s S.st (ax (b.take 48) 5 3)=4/\aD b (gk S.s S.st+(ax (b.take 48) 5 3+3)/4*4) 4≠ke (aD b (gk S.s S.st) ((ax (b.take 48) 5 3+3)/4*4))):=by
  unfold dsW;rw[hlen];by_cases g:(de S.s&&S.st.datas)=true
  .by_cases g2:0<ax (b.take 48) 5 3
   .have e4:yw S.s S.st (ax (b.take 48) 5 3)=4:=by unfold yw;rw[iP ⟨g2,g⟩]
    rw[e4]at esz;by_cases g3:b.length<j2 S.s S.st (b.take 48)
    .rw[iP (.inr (.inl (by omega))),decide_eq_false (λz=>z.1 g3)]
    .rw[iN (by rintro(z|z|z);rw[g]at z;cases z;omega;omega)]
     rw[uU b (by omega),uU b (by omega),show j2 S.s S.st (b.take 48)-4=gk S.s S.st+(ax (b.take 48) 5 3+3)/4*4 by omega,show gk S.s S.st+(ax (b.take 48) 5 3+3)/4*4-gk S.s S.st=(ax (b.take 48) 5 3+3)/4*4 by omega];apply decide_eq_decide.mpr;nomatch λz=>⟨g3,e4,z⟩,λz=>z.2.2
   .have e0:yw S.s S.st (ax (b.take 48) 5 3)=0:=by unfold yw;rw[iN (λz=>g2 z.1)]
    rw[e0]at esz;rw[iP (.inr (.inr (by omega))),decide_eq_false (λz=>by rw[e0]at z;exact absurd z.2.1 #[])]
  .have e0:yw S.s S.st (ax (b.take 48) 5 3)=0:=by unfold yw;rw[iN (λz=>g z.2)]
   rw[iP (.inl (by simpa using g)),decide_eq_false (λz=>by rw[e0]at z;exact absurd z.2.1 #[])]
 rw[eh,ed,hlen];by_cases c2:b.length<gk S.s S.st
 .rw[iP c2,decide_eq_false (λz=>z.1 c2),decide_eq_false (λz=>z.1 (by omega)),iN #[],iP (by omega)]
 rw[iN c2];by_cases c3:gk S.s S.st=52/\aD b 48 4≠ke (b.take 48)
 .rw[iP c3,decide_eq_true ⟨c2,c3⟩,M7,iP rfl]
 rw[iN c3,decide_eq_false (λz=>c3 z.2),gc];by_cases c4:b.length<j2 S.s S.st (b.take 48)
 .rw[iP c4,decide_eq_false (λz=>z.1 c4),iN #[],iP (by omega)]
 rw[iN c4];by_cases c5:yw S.s S.st (ax (b.take 48) 5 3)=4/\aD b (gk S.s S.st+(ax (b.take 48) 5 3+3)/4*4) 4≠ke (aD b (gk S.s S.st) ((ax (b.take 48) 5 3+3)/4*4))
 .rw[iP c5,decide_eq_true ⟨c4,c5⟩,iP rfl]
 .rw[iN c5,decide_eq_false (λz=>c5 z.2),iN #[],iN (by omega)]
def abE{s:aV}{st:cb}{pk:List Nat}{size:Nat}(h:We s st pk size=false):(pk.take 48).getD 0 0<128/\ax (pk.take 48) 5 3<=8192:=by unfold We at h;rw[iD]at h;have h1:=h.1;unfold oV at h1;simp only[iD,decide_eq_false_iff_not]at h1;lia
def Hh(h:iE x=none):x.buf.length<=9000:=by
 unfold iE at h;dsimp only at h;split at h
 .lia
 split at h
 .cases h
 rename_i hw;have hn:ax (x.buf.take 48) 5 3<=8192:=by have:¬BD<ax (x.buf.take 48) 5 3:=λz=>hw (.inr (.inr (.inl z)));unfold BD at this;lia
 have hp:(if(x.stage==3&&x.heads)=true then 4 else 0)<=4:=by split<;>lia
 have hr:(if(x.stage==3&&x.datas)=true/\0<ax (x.buf.take 48) 5 3 then 4 else 0)<=4:=by split<;>lia
 generalize(if(x.stage==3&&x.heads)=true then 4 else 0)=pp at h hp;generalize(if(x.stage==3&&x.datas)=true/\0<ax (x.buf.take 48) 5 3 then 4 else 0)=rr at h hr;split at h
 .lia
 split at h
 .cases h
 split at h
 .lia
 split at h
 .cases h
 .cases h
def pF(y:eC)(i:Nat)(x:aJ)(h b:List Nat):eC×List Nat:=if x.stage=3 then gK y i x h b else(y.put i (k9 i x h b).2,(k9 i x h b).1)
def zE(h:y.line i=none):gA f y i=(y,[]):=by
 cases f with
 |zero=>rfl
 |succ f=>rw[gA,h]
def uV(h:y.line i=some x)(e:iE x=none):gA f y i=(y,[]):=by
 cases f with
 |zero=>rfl
 |succ f=>rw[gA,h];dsimp only;rw[e]
def wQ(h:y.line i=some x)(e:iE x=some none):gA (f+1) y i=(y.put i none,[]):=by rw[gA,h];dsimp only;rw[e]
def Hi(hx:y.line i=some x)(e:iE x=some (some (h,b,r))):gA (f+1) y i=((gA f (pF y i {x with buf:=r} h b).1 i).1,(pF y i {x with buf:=r} h b).2++(gA f (pF y i {x with buf:=r} h b).1 i).2):=by rw[gA,hx];dsimp only;rw[e];dsimp only;unfold pF;rfl
def i7(i:Nat)(y y':eC):Prop:=∀(j:Nat)(x':aJ),j≠i->y'.lines[j]? =some (some x')->∃x,y.lines[j]? =some (some x)/\x'.buf=x.buf
def i7.refl(i:Nat)(y:eC):i7 i y y:=λj x' _ h=>⟨x',h,rfl⟩
theorem i7.trans(a:i7 i y y1)(b:i7 i y1 y2):i7 i y y2:=λj x' hj h=>by obtain⟨x1,h1,e1⟩:=b j x' hj h;obtain⟨x0,h0,e0⟩:=a j x1 hj h1;nomatch x0,h0,e1.trans e0
theorem i7.set(i:Nat)(y:eC)(d:jR)(z:Option aJ):i7 i y {y with disk:=d,lines:=y.lines.set i z}:=λj x' hj h=>by have h:(y.lines.set i z)[j]? =some (some x'):=h;rw[bC,iN (aL hj)]at h;nomatch x',h,rfl
def OV(x:aJ):(jE x).buf=x.buf:=by unfold jE;split<;>rfl
def i7.again(i:Nat)(y:eC)(z:Option aJ):i7 i y {y with lines:=(y.lines.map λo=>o.map jE).set i z}:=λj x' hj h=>by
 have h:((y.lines.map λo=>o.map jE).set i z)[j]? =some (some x'):=h;rw[bC,iN (aL hj),bz]at h;cases e:y.lines[j]? with
 |none=>rw[e]at h;cases h
 |some o=>
  rw[e]at h;cases o with
  |none=>cases h
  |some x=>exists x,rfl;obtain rfl:=af (af h);exact OV x
def So(y:eC)(i:Nat)(x:aJ)(h b:List Nat):i7 i y (gK y i x h b).1:=by
 by_cases e5:h.getD 0 0%64=5
 .rw[Lu e5];exact i7.set i y _ _
 by_cases e:h.getD 0 0%64=0\/h.getD 0 0%64=1\/h.getD 0 0%64=2\/h.getD 0 0%64=6;rotate_left
 .rw[Lz e e5];exact i7.set i y _ _
 by_cases hp:decide (64<=h.getD 0 0)=false/\ax h 24 4≠x.cmd
 .rw[zB e hp];exact i7.set i y _ _
 rcases e with e|e|e|e
 .rw[Lv e hp];exact i7.set i y _ _
 .rw[Lw e hp];exact i7.set i y _ _
 .rw[Lx e hp];unfold AQ;split
  .exact i7.again i y _
  .exact i7.set i y y.disk _
 .rw[Ly e hp];exact i7.set i y _ _
def Sq(y:eC)(i:Nat)(x:aJ)(h b:List Nat):i7 i y (pF y i x h b).1:=by
 unfold pF;split
 .exact So y i x h b
 .exact i7.set i y y.disk _
def kG.same(k:kG C H Q E bP i tr A ss gi out y)(s:a_ H H1):kG C H1 Q E bP i tr A ss gi out y:=⟨λh H' ko=>k.bad h H' λc o hc e=>ko c o (s c o hc) e,λh H' cQ A' jC W ef es SR eh m kq=>k.ok h H' cQ A' jC W ef es SR eh m λc o hc e=>kq c o (s c o hc) e⟩
inductive Du(C:Cl)(K:aq)(vs:List V)(H:Hp)(Q:VK)(E:XK):Prop
 |mk(tr pa:aB)(bP:aB->kT)(i:Nat)(A:Act)(ss:List (Option fS))(pk:List Nat)(x:aJ)(y:eC)(_:vs=[.ref tr,.ref pa])(_:j1 C H bP i tr A ss)(_:ly A ss i y)(_:fT K H pa (nV pk))(_:48<=pk.length)(_:fU pk)(_:(pk.take 48).getD 0 0<128)(_:ax (pk.take 48) 5 3<=8192)(_:A.S.s.closed=false)(_:ji A.S x.buf x)(_:kG C H Q E bP i tr A ss x.buf (pF y i x (pk.take 48) (aD pk (gk A.S.s A.S.st) (ax (pk.take 48) 5 3))).2 (pF y i x (pk.take 48) (aD pk (gk A.S.s A.S.st) (ax (pk.take 48) 5 3))).1)
def EI:T.vP.E P w aR C.dF 14 (Du C K):=by
 refine T.vP.wY ?_;kd_p
 obtain⟨tr,pa,bP,i,A,ss,pk,x,y,rfl,W,YR,fp,h48,op,Yd,hn,mB,SR,k⟩:=h;exists _,(aa (cJ 2 nd (jm (ej fV cC oP (cS (aU T.h_))))) (aa (cJ 3 nd (aI (oW T) (fN (aT b4 rfl)))) (aa (cJ 4 nd (jm (ej fV cC (cS gQ) (cS (bO eJ gQ (aI (dY T) (mh fF au au))))))) (aj (bH (dA (b_ (jh T) T.aF (aT b4 rfl))) (aj (bj (aI (Js T) (mh b4 fF kS)))) (aj (bj (aI (Hf T).iZ (mh b4 fF kS)))))))));have c2:jv (nV pk) none (some 48)=nV (pk.take 48):=rX pk 48;nomatch I,I,pa,I,fp,λp1 rD=>⟨p1,_,rfl,ae,λod=>?_⟩
 rw[bS,c2];have s1:=aS (a_.refl H) rD (.gm od (.lst (nV (pk.take 48))));have f1:fK (upd H p1 (.gm od (.lst (nV (pk.take 48))))) p1 (nV (pk.take 48)):=⟨od,ae⟩;generalize upd H p1 (.gm od (.lst (nV (pk.take 48))))=H1 at s1 f1;have hl:(pk.take 48).length=48:=by rw[bf];lia
 have R1:=(W.same s1).act;obtain⟨dx,t1⟩:=R1.tu;obtain⟨dy,t2⟩:=R1.ss.at_;have m8:=R1.sa;exists I,tr,C.Turn,dx,_,I,t1,T.cy,T.bX,A.f.eA,A.f.aW,A.S.s,A.S.st,rfl,⟨by rw[m8];exact R1.ss.at_,R1.ss.kZ⟩;generalize hbn:gk A.S.s A.S.st=bn at k;generalize hnn:ax (pk.take 48) 5 3=n at k hn;nomatch I,I,I,I,I,p1,pk.take 48,5,3,rfl,f1.sq,λH2 s2=>⟨_,_,rfl,rfl,_,rfl,pa,_,rfl,nX fp (s1.trans s2),λp3 Lk=>⟨p3,_,rfl,ae,λod3=>?_⟩⟩
 have c3:jv (nV pk) (some ((bn:Nat):Int)) (some (((bn:Nat):Int)+((ax (pk.take 48) 5 3:Nat):Int)))=nV (aD pk bn n):=by have:=lH pk bn (bn+n) ();rw[show bn+n-bn=n by lia]at this;rw[hnn];exact this
 rw[bS,c3];have s3:=aS (a_.refl H2) Lk (.gm od3 (.lst (nV (aD pk bn n))));have f3:fK (upd H2 p3 (.gm od3 (.lst (nV (aD pk bn n))))) p3 (nV (aD pk bn n)):=⟨od3,ae⟩;generalize upd H2 p3 (.gm od3 (.lst (nV (aD pk bn n))))=H3 at s3 f3;have Pg:=s2.trans s3;have C2:=s1.trans Pg;have W3:=W.same C2;have R3:=W3.act;obtain⟨Ze,u1⟩:=R3.tu;obtain⟨dy3,u2⟩:=R3.ss.at_;have u2':H3 A.f.aW=some (.ins C.Session dy3 (aV.fs A.S.s)):=by rw[m8];exact u2
 have lb:(aD pk bn n).length<=8192:=by unfold aD;rw[bf];lia
 exists I,tr,C.Turn,Ze,_,I,u1,T.cy,T.bX,A.f.eA,A.f.aW,dy3,I,u2',rfl,A.f.aW,I,⟨A.S.s,⟨dy3,u2'⟩,rfl⟩,I;have k3:=k.same C2;have hw:=M0 SR.toSRel0;unfold pF at k3;refine gM (λq=>?_) (λq=>?_)
 .have q:de A.S.s=true:=q;have kx:A.S.s.stage=some 3:=of_decide_eq_true q;rw[q]at hw;have hx:x.stage=3:=beq_iff_eq.mp hw;rw[iP hx]at k3;nomatch I,I,I,tr,p1,p3,bP,i,A,ss,_,_,x,y,rfl,W3,YR,fK.same f1 Pg,f3,hl,fU.take op 48,Yd,fU.part op _ _,lb,kx,mB,SR,k3.q
 .have q:de A.S.s=false:=q;have kx:A.S.s.stage≠some 3:=of_decide_eq_false q;rw[q]at hw;have hx:x.stage≠3:=beq_eq_false_iff_ne.mp hw;rw[iN hx]at k3;have ey:y.put i (k9 i x (pk.take 48) (aD pk bn n)).2={y with disk:=bM A.wr,lines:=y.lines.set i (k9 i x (pk.take 48) (aD pk bn n)).2}:=by rw[<-YR.disk];rfl
  rw[show(y.put i (k9 i x (pk.take 48) (aD pk bn n)).2,(k9 i x (pk.take 48) (aD pk bn n)).1).1=y.put i (k9 i x (pk.take 48) (aD pk bn n)).2 from rfl,ey]at k3;nomatch I,I,I,tr,p1,p3,bP,i,A,_,_,x,rfl,R3,fK.same f1 Pg,f3,hl,fU.take op 48,lb,kx,mB,W.ln,SR,kG.r W3 YR k3.q
def U8(b:List Nat)(n:Nat):jv (nV b) (some (n:Int)) none=nV (b.drop n):=by
 unfold jv nV;rw[HT.pU,aK];show((b.map λ(x:Nat)=>V.int (x:Int)).drop (min n b.length)).take (b.length-min n b.length)=_;rw[<-sR,<-sQ,cA (by rw[cO];lia)];by_cases h:n<=b.length
 .rw[dM h]
 .rw[jb (),lJ,uZ ()]
theorem JJ(i:Nat):∀(f:Nat)(y:eC),i7 i y (gA f y i).1
 |0,y=>i7.refl i y
 |f+1,y=>by
  cases hx:y.line i with
  |none=>rw[zE hx];exact i7.refl i y
  |some x=>
   cases e:iE x with
   |none=>rw[uV hx e];exact i7.refl i y
   |some o=>
    cases o with
    |none=>rw[wQ hx e];exact i7.set i y y.disk none
    |some q=>obtain⟨h,b,r⟩:=q;rw[Hi hx e];exact(Sq y i _ h b).trans (JJ i f _)
def JK(h:x.buf.length<48):iE x=none:=by unfold iE;dsimp only;rw[iP h]
def U9(s:aV)(st:cb)(h:List Nat):j2 s st h=gk s st\/gk s st+4<=j2 s st h:=by unfold j2 yw;generalize ax h 5 3=n;split<;>lia
def U_(s:aV)(st:cb)(h:List Nat):gk s st+ax h 5 3<=j2 s st h:=by unfold j2;generalize ax h 5 3=n;lia
theorem ly.put(R:ly A ss i y)(z:Option aJ):ly A ss i (y.put i z):=by
 nomatch R.disk,by show(y.lines.set i z).length=_;rw[br];exact R.len,λj o x hj h1 h2=>?_
 have h2:(y.lines.set i z)[j]? =some x:=h2;rw[bC,iN (aL hj)]at h2;exact R.mC j o x hj h1 h2
def ly.own(R:ly A ss i y)(ed:A'.wr=A.wr)(z:Option fS):ly A' (ss.set i z) i y:=by
 nomatch by rw[ed];exact R.disk,by rw[br];exact R.len,λj o x hj h1 h2=>?_
 rw[bC,iN (aL hj)]at h1;exact R.mC j o x hj h1 h2
def JL{y:eC}{i:Nat}{z:Option aJ}(h:i<y.lines.length):(y.put i z).line i=z:=C7 (d:=y.disk) h
theorem hG.held{H:Hp}{bP:aB->kT}{i:Nat}{tr:aB}{A:Act}{q dy:aB}{od:mU}{b:List Nat}(R:hG C H bP i tr A)(hq:H q=none): hG C (upd (upd H q (.gm od (.lst (nV b)))) A.S.a (.ins C.Session dy (aV.fs {A.S.s with held:=q}))) bP i tr {A with S:={A.S with s:={A.S.s with held:=q},held:=b}}/\ Keeps i bP bP H (upd (upd H q (.gm od (.lst (nV b)))) A.S.a (.ins C.Session dy (aV.fs {A.S.s with held:=q})))/\js H (upd (upd H q (.gm od (.lst (nV b)))) A.S.a (.ins C.Session dy (aV.fs {A.S.s with held:=q}))):=by
 obtain⟨dx,h1⟩:=R.tu;obtain⟨dz,h2⟩:=R.ss.at_;have s1:=aS (a_.refl H) hq (.gm od (.lst (nV b)));have hqa:q≠A.S.a:=aL (ai h2 hq);generalize Pk:upd (upd H q (.gm od (.lst (nV b)))) A.S.a (.ins C.Session dy (aV.fs {A.S.s with held:=q}))=H2;have Zr:H2 q=some (.gm od (.lst (nV b))):=by rw[<-Pk,aG hqa];exact ae
 have ha2:H2 A.S.a=some (.ins C.Session dy (aV.fs {A.S.s with held:=q})):=by rw[<-Pk];exact ae
 have B:gH [A.S.a] H H2:=λc o hc nc=>by rw[<-Pk,aG (λz=>nc (by rw[z];simp))];exact s1 c o hc
 have kf:=B.iZ λa ha o u e=>by rw[aO.mp ha,h2]at e;cases e
 have ni:∀c x,bP c=x->x≠ .own i .uq->c∉[A.S.a]:=λc x h n m=>by rw[aO.mp m]at h;exact n (h.symm.trans R.ss.la)
 nomatch⟨⟨dx,B _ _ h1 (ni _ _ R.FC nofun)⟩,R.FC,B _ _ R.sn (ni _ _ R.uA nofun),R.uA,R.mo,R.le,R.dk.pD B kf (ni _ _ R.CW nofun) (ni _ _ R.yL nofun),R.CW,R.yL,R.od,?_,R.sa⟩,Keeps.X4 B λa ha=>?_,kf
 .nomatch⟨dy,ha2⟩,B _ _ R.ss.kZ (ni _ _ R.ss.oQ nofun),B _ _ R.ss.lr (ni _ _ R.ss.lT nofun),B _ _ R.ss.ij (ni _ _ R.ss.kF nofun),⟨od,Zr⟩,λt ht=>?_,R.ss.nd,R.ss.As,R.ss.la,R.ss.oQ,R.ss.lT,R.ss.kF,R.ss.ok,R.ss.sm,R.ss.oy,R.ss.oz,R.ss.pL
  have q':=R.ss.nW t ht;nomatch⟨q'.cm.pD B kf (ni _ _ q'.la nofun) (ni _ _ q'.ld nofun),q'.la,q'.ld,q'.ol,q'.oc,q'.og,q'.tg,q'.gs⟩,q'.wr,q'.rd,q'.sz,q'.gl,q'.ll
 .rw[aO.mp ha];exact .inr (.inr ⟨_,R.ss.la⟩)
structure abF(C:Cl)(H:Hp)(Q:VK)(E:XK)(bP:aB->kT)(i:Nat)(tr:aB)(A:Act)(r:eC×List Nat):Prop where
 bad:A.f.most<A.sb.length+r.2.length->∀H',sJ bP H H'->E (.ref C.dF) none H'
 ok:A.sb.length+r.2.length<=A.f.most->∀H' cQ A' jC,j1 C H' cQ i tr A' jC->A'.f=A.f->A'.sb=A.sb++r.2->ly A' jC i r.1->
  (match r.1.line i with|some x=>A'.S.s.closed=false/\ji A'.S A'.S.held x/\A'.S.held.length<=9000/\fU A'.S.held|none=>A'.S.s.closed=true)->mw bP cQ H H'->Q .eY H'
inductive Dv(C:Cl)(vs:List V)(H:Hp)(Q:VK)(E:XK):Prop
 |mk(tr oa:aB)(bP:aB->kT)(i:Nat)(A:Act)(ss:List (Option fS))(o:List Nat)(x:aJ)(y:eC)(_:vs=[.ref tr,.ref oa])(_:j1 C H bP i tr A ss)(_:ly A ss i y)(_:fK H oa (nV o))(_:fU o)(_:o.length<=65536)(_:A.S.s.closed=false)(_:ji A.S A.S.held x)(_:A.S.held.length<=9000)(_:fU A.S.held)(_:abF C H Q E bP i tr A (gA (x.buf.length+o.length+1) (y.put i (some {x with buf:=x.buf++o})) i))
structure JM(C:Cl)(H:Hp)(bP:aB->kT)(i:Nat)(tr:aB)(A:Act)(b:List Nat)(R:eC×List Nat)(p:aB)(n fu:Nat)(H':Hp)(cQ:aB->kT)(A':Act)(jC:List (Option fS))(y':eC):Prop where
 w:j1 C H' cQ i tr A' jC
 ef:A'.f=A.f
 yr:ly A' jC i y'
 fp:fK H' p (nV b)
 kq:mw bP cQ H H'
 e2:A'.sb++(gA fu y' i).2=A.sb++R.2
 e1:(gA fu y' i).1=R.1
 le:n<=b.length
 li:match y'.line i with|some x'=>A'.S.s.closed=false/\ji A'.S (b.drop n) x'/\b.length-n<fu|none=>A'.S.s.closed=true
theorem JM.same(L:JM C H bP i tr A b R p n fu H' cQ A' jC y')(s:a_ H' GV):JM C H bP i tr A b R p n fu GV cQ A' jC y':=⟨L.w.same s,L.ef,L.yr,fK.same L.fp s,L.kq.trans (mw.same s),L.e2,L.e1,L.le,L.li⟩
def abG{G:Prop}{X Cd:L2.St->Hp->Prop}(g:(∀σ H',Cd σ H'->X σ H')->G)(x:∀σ H',Cd σ H'->X σ H'):G:=g x
inductive LC(C:Cl)(H:Hp)(bP:aB->kT)(i:Nat)(tr:aB)(A:Act)(b:List Nat)(RR:eC×List Nat)(p oa:aB)(σ:L2.St)(H':Hp):Prop
 |mk(n fu:Nat)(v5 v6:Option V)(cQ:aB->kT)(A':Act)(jC:List (Option fS))(y':eC)(_:σ=[some (.ref tr),some (.ref oa),some (.ref A.f.aW),some (.ref p),some (.int (n:Nat)),v5,v6])(_:JM C H bP i tr A b RR p n fu H' cQ A' jC y')(_:gA fu y' i=(y',[])/\∀x',y'.line i=some x'->iE x'=none)
inductive LA(C:Cl)(H:Hp)(bP:aB->kT)(i:Nat)(tr:aB)(A:Act)(b:List Nat)(RR:eC×List Nat)(p oa:aB)(m:Nat)(σ:L2.St)(H':Hp):Prop
 |mk(n fu:Nat)(v5 v6:Option V)(cQ:aB->kT)(A':Act)(jC:List (Option fS))(y':eC)(_:σ=[some (.ref tr),some (.ref oa),some (.ref A.f.aW),some (.ref p),some (.int (n:Nat)),v5,v6])(_:JM C H bP i tr A b RR p n fu H' cQ A' jC y')(_:m=b.length-n+(if A'.S.s.closed=true then 0 else 1))
def EJ:T.vQ.E P w aR C.dF 15 (Dv C):=by
 refine T.vQ.wY ?_;kd_p
 obtain⟨tr,oa,bP,i,A,ss,o,x,y,rfl,W,YR,fo,oo,ol,mB,SR,hhl,oh,k⟩:=h;exists _,(aa (cJ 2 nd (aT b4 rfl)) (aa (cJ 3 nd (jm (bO oS (aT fF rfl) cC))) (aa (cJ 4 nd au) (aa (BH Nb (nZ (iH (dA (aT fF rfl))) (lF (bg HJ (bO md (bZ cV (by rfl) T.gT fQ (fN gQ)) kS) (aU T.h_) (bD _)))).pt (aa (cJ 5 nd (aI (EH T) (i5 fF (ej fV gQ (cS kS) (cS (bO eJ kS (aU T.h_))))))) (aa (cJ 6 nd (ej fV gQ (cS kS) (cS (bO eJ kS zV)))) (aj (bH (dA (aI (Dt T) (mh fF VX zV))) (aj (bj (b_ (lG T) T.aF fF))) (aj (bH (bg tH (bZ cV (by rfl) T.gT fQ (fN VX)) zV (bD _)) (aj PH) (aa (bj (aI (EI T).iZ (i5 b4 VX))) (aj (cJ 4 nd (bO eJ kS zV))))))))))) (aj (ck fF (jm (ej fV gQ (cS kS) oP)) rfl))))));obtain⟨dx,h1⟩:=W.act.tu;obtain⟨dy,h2⟩:=W.act.ss.at_;have sI:H A.f.aW=some (.ins C.Session dy (aV.fs A.S.s)):=by rw[W.act.sa];exact h2
 have hi:i<y.lines.length:=by rw[YR.len];exact(aE.mp W.me).1
 have ob:fU (A.S.held++o):=oh.append oo;have lb:(A.S.held++o).length<=75000:=by rw[az];lia
 have eb:x.buf++o=A.S.held++o:=by rw[SR.rY]
 have ef:x.buf.length+o.length=(A.S.held++o).length:=by rw[<-eb,az]
 exists I,tr,C.Turn,dx,_,I,h1,T.cy,T.bX,A.f.eA;nomatch I,A.f.aW,C.Session,dy,_,I,sI,T.aF,T.jZ,A.S.s.Q1,I,A.S.s.held,oa,J,W.act.ss.uz.rd,fo.rd,(by rw[bA,bA,sizeLine_eq];lia),λp hp=>⟨p,_,rfl,ae,λod=>?_⟩
 rw[bS,<-jB];have s1:=aS (a_.refl H) hp (.gm od (.lst (nV (A.S.held++o))));have fp1:fK (upd H p (.gm od (.lst (nV (A.S.held++o))))) p (nV (A.S.held++o)):=⟨od,ae⟩;generalize upd H p (.gm od (.lst (nV (A.S.held++o))))=H1 at s1 fp1;generalize WZ:gA (x.buf.length+o.length+1) (y.put i (some {x with buf:=x.buf++o})) i=RR at k;generalize A.S.held++o=b at ob lb eb ef fp1;refine abG (Cd:=LC C H bP i tr A b RR p oa) (λz=>by
  exists LA C H bP i tr A b RR p oa,⟨_,0,x.buf.length+o.length+1,none,none,bP,A,ss,y.put i (some {x with buf:=x.buf++o}),rfl,⟨W.same s1,rfl,YR.put _,fp1,mw.same s1,by rw[WZ],by rw[WZ],bQ _,?_⟩,rfl⟩
  .rw[JL hi];nomatch mB,⟨⟨SR.stage,SR.Em,SR.named,SR.heads,SR.datas,SR.asks,SR.with_,SR.theirs,SR.burst,SR.first,SR.stat,SR.cmd,SR.next,SR.told⟩,SR.tasks,eb⟩,()
  rintro m σ H' ⟨n,fu,v5,v6,cQ,A',jC,y',rfl,L,hm⟩;have R':=L.w.act;obtain⟨yK,g2⟩:=R'.ss.at_;have sa':A.f.aW=A'.S.a:=by rw[<-L.ef];exact R'.sa
  have Ya:H' A.f.aW=some (.ins C.Session yK (aV.fs A'.S.s)):=by rw[sa'];exact g2
  have U7:ki C H' A.f.aW A'.S.s A'.S.st:=⟨⟨yK,Ya⟩,R'.ss.kZ⟩;have li:=L.li;exists I,A.f.aW,C.Session,yK,_,I,Ya,T.aF,T.iu,A'.S.s.Cz,I;cases hc:A'.S.s.closed with
  |true=>
   refine gY (gY (z _ _ ⟨n,fu,v5,v6,cQ,A',jC,y',rfl,L,?_⟩));cases eL:y'.line i with
   |some x'=>rw[eL]at li;rw[hc]at li;cases li.1
   |none=>nomatch zE eL,(λx' hx=>nomatch hx)
  |false=>
   rw[hc,iN #[]]at hm;obtain⟨x',eL⟩:∃x',y'.line i=some x':=by
    cases eL:y'.line i with
    |some x'=>nomatch x',rfl
    |none=>rw[eL]at li;rw[hc]at li;cases li
   rw[eL]at li;obtain⟨_,G7,hfu⟩:=li;have abI:x'.buf=b.drop n:=G7.rY;have hle:=L.le;have GD:x'.buf.length=b.length-n:=by rw[abI,cO]
   refine fI ?_;exists I,_,b.length,rfl,.inl ⟨_,L.fp.sq,(bA b).symm⟩,I,J,J,I;refine gM (λq=>?_) (λq=>?_);rotate_left
   .have q:decide ((48:Int)<=((b.length:Nat):Int)-((n:Nat):Int))=false:=q;have q:¬(48:Int)<=((b.length:Nat):Int)-((n:Nat):Int):=of_decide_eq_false q;have fr:iE x'=none:=JK ();refine z _ _ ⟨n,fu,v5,v6,cQ,A',jC,y',rfl,L,uV eL fr,λx2 Tc=>?_⟩;rw[eL]at Tc;obtain rfl:=af Tc;exact fr
   have q:decide ((48:Int)<=((b.length:Nat):Int)-((n:Nat):Int))=true:=q;have q:(48:Int)<=((b.length:Nat):Int)-((n:Nat):Int):=of_decide_eq_true q;have q48:n+48<=b.length:=();exists fun σ' GV=>∃m',m'<m/\LA C H bP i tr A b RR p oa m' σ' GV,fun σ' GV h=>h;obtain⟨g,rfl⟩:∃g,fu=g+1:=⟨fu-1,()⟩;have FE:=OU G7.toSRel0 ();rw[abI]at FE;have c1:jv (nV b) (some ((n:Nat):Int)) (some (((n:Nat):Int)+48))=nV (aD b n 48):=zj b n 48;nomatch I,I,I,I,I,J,I,p,I,L.fp.sq,λq1 X0=>?_
   rw[c1];have t1:=aS (a_.refl H') X0 (.lst (nV (aD b n 48)));nomatch A.f.aW,q1,A'.S.s,A'.S.st,aD b n 48,rfl,U7.same t1,fT.of ae,λH2 t2=>?_
   have t12:=t1.trans t2;have e48:aD b n 48=(b.drop n).take 48:=rfl;rw[e48];have hbg:=Hg A'.S.s A'.S.st;have hsk:=U9 A'.S.s A'.S.st ((b.drop n).take 48);have YX:=U_ A'.S.s A'.S.st ((b.drop n).take 48);generalize j2 A'.S.s A'.S.st ((b.drop n).take 48)=sz at FE hsk YX;have c2:jv (nV b) (some ((n:Nat):Int)) (some (((n:Nat):Int)+((sz:Nat):Int)))=nV (aD b n sz):=zj b n sz;nomatch I,I,I,I,I,J,I,p,I,(fK.same L.fp t12).sq,λq2 Zr=>?_
   rw[c2];have t3:=aS (a_.refl H2) Zr (.lst (nV (aD b n sz)));have f3:fT K (upd H2 q2 (.lst (nV (aD b n sz)))) q2 (nV (aD b n sz)):=fT.of ae;generalize upd H2 q2 (.lst (nV (aD b n sz)))=H3 at t3 f3;have t13:=t12.trans t3;have ep:aD b n sz=(b.drop n).take sz:=rfl;have opk:fU (aD b n sz):=ob.part _ _;rw[ep]at f3 opk;have lpk:((b.drop n).take sz).length=min sz (b.length-n):=by rw[bf,cO]
   have etk:((b.drop n).take sz).take 48=(b.drop n).take 48:=by rw[qN,dM ()]
   nomatch I,I,I,A.f.aW,q2,A'.S.s,A'.S.st,(b.drop n).take sz,sz,rfl,U7.same t13,f3,(),(),opk,hsk,λH4 t4=>⟨_,rfl,?_⟩
   have t14:=t13.trans t4;have f4:=nX f3 t4;have L4:=L.same t14;refine gM (λc=>?_) (λc=>?_)
   .
    have c:We A'.S.s A'.S.st ((b.drop n).take sz) sz=true:=c;rw[iP c]at FE;have G:=wQ (f:=g) eL FE;have hi':i<y'.lines.length:=by rw[L.yr.len];exact(aE.mp L.w.me).1
    exists I,A.f.aW,yK,I,t14 _ _ Ya,rfl,A.f.aW,A'.S.s,yK,rfl,t14 _ _ Ya;have q:=L4.w.act.RT (H':=upd H4 A'.S.a (.ins C.Session yK (aV.fs {A'.S.s with closed:=true}))) (s':={A'.S.s with closed:=true}) ⟨yK,ae⟩ ((gU.refl _ _).upd _) ⟨rfl,rfl,rfl,rfl,rfl⟩ ⟨R'.ss.oy,R'.ss.oz,R'.ss.pL⟩;rw[<-sa']at q;generalize upd H4 A.f.aW (.ins C.Session yK (aV.fs {A'.S.s with closed:=true}))=H5 at q;obtain⟨R7,RO,kf7⟩:=q;have e2:=L.e2;have e1:=L.e1;rw[G]at e2 e1;exists b.length-n,(),n,0,_,_,cQ,_,jC.set i _,y'.put i none,rfl,⟨L4.w.lift R7 RO kf7 rfl rfl,L.ef,(L.yr.put none).own (by rfl) _,kf7.gm L4.fp,L4.kq.trans RO.q,e2,e1,hle,?_⟩
    .rw[JL hi']
    .show _=_+(if true=true then 0 else 1);rw[iP rfl];rfl
   .have c:We A'.S.s A'.S.st ((b.drop n).take sz) sz=false:=c;rw[iN (by rw[c];decide)]at FE;exists I,_,((b.drop n).take sz).length,rfl,.inl ⟨_,f4,(bA _).symm⟩,I,J,I;refine gM (λd=>?_) (λd=>?_)
    .
     have d:decide (((((b.drop n).take sz).length:Nat):Int)<((sz:Nat):Int))=true:=d;have d:((((b.drop n).take sz).length:Nat):Int)<((sz:Nat):Int):=of_decide_eq_true d;rw[iP ()]at FE;refine z _ _ ⟨n,g+1,_,_,cQ,A',jC,y',rfl,L4,uV eL FE,λx2 Tc=>?_⟩;rw[eL]at Tc;obtain rfl:=af Tc;exact FE
    have d:decide (((((b.drop n).take sz).length:Nat):Int)<((sz:Nat):Int))=false:=d;have d:¬((((b.drop n).take sz).length:Nat):Int)<((sz:Nat):Int):=of_decide_eq_false d;rw[iN ()]at FE;have hsz:n+sz<=b.length:=();have G:=Hi (f:=g) eL FE;obtain⟨hd1,hd2⟩:=abE c;have ept:aD ((b.drop n).take sz) (gk A'.S.s A'.S.st) (ax ((b.drop n).take 48) 5 3)=aD (b.drop n) (gk A'.S.s A'.S.st) (ax ((b.drop n).take 48) 5 3):=uU _ YX;have edr:(b.drop n).drop sz=b.drop (n+sz):=gX;have e2:=L.e2;have e1:=L.e1;rw[G]at e2 e1;rw[edr]at e2 e1;have x8:=congrArg hU e2;rw[az,az,az]at x8;have e2a:A'.sb++((pF y' i {x' with buf:=b.drop (n+sz)} ((b.drop n).take 48) (aD (b.drop n) (gk A'.S.s A'.S.st) (ax ((b.drop n).take 48) 5 3))).2++(gA g (pF y' i {x' with buf:=b.drop (n+sz)} ((b.drop n).take 48) (aD (b.drop n) (gk A'.S.s A'.S.st) (ax ((b.drop n).take 48) 5 3))).1 i).2)=A.sb++RR.2:=e2;have e1a:(gA g (pF y' i {x' with buf:=b.drop (n+sz)} ((b.drop n).take 48) (aD (b.drop n) (gk A'.S.s A'.S.st) (ax ((b.drop n).take 48) 5 3))).1 i).1=RR.1:=e1;have x8:=congrArg hU e2a;rw[az,az,az]at x8;exists I,I,tr,q2,cQ,i,A',jC,(b.drop n).take sz,{x' with buf:=b.drop (n+sz)},y',rfl,L4.w,L.yr,f4,(),opk,hd1,hd2,hc,⟨⟨G7.stage,G7.Em,G7.named,G7.heads,G7.datas,G7.asks,G7.with_,G7.theirs,G7.burst,G7.first,G7.stat,G7.cmd,G7.next,G7.told⟩,G7.tasks,rfl⟩;rw[etk,ept];generalize pF y' i {x' with buf:=b.drop (n+sz)} ((b.drop n).take 48) (aD (b.drop n) (gk A'.S.s A'.S.st) (ax ((b.drop n).take 48) 5 3))=G2 at e2a e1a x8;nomatch λAF H5 ko=>k.bad (by rw[L.ef]at AF;lia) H5 (L4.kq.FD ko),λajw H5 afd A5 ss5 W5 ef5 es5 YR5 eh5 m5 kq5 kf5=>?_
    exists I,I,J;nomatch _,?_,n+sz,g,_,_,afd,A5,ss5,G2.1,rfl,⟨W5,ef5.trans L.ef,YR5,kf5.gm L4.fp,L4.kq.trans kq5,?_,e1a,hsz,?_⟩,rfl
    .have:(if A5.S.s.closed=true then 0 else 1)<=1:=by split<;>lia
     lia
    .rw[es5,dW];exact e2a
    .cases e5:G2.1.line i with
     |none=>rw[e5]at m5;exact m5
     |some x5=>rw[e5]at m5;nomatch m5.1,m5.2,()) ?_
 rintro σ H' ⟨n,fu,v5,v6,cQ,A',jC,y',rfl,L,G,y6⟩;obtain⟨yK,g2⟩:=L.w.act.ss.at_;have sa':A.f.aW=A'.S.a:=by rw[<-L.ef];exact L.w.act.sa
 nomatch I,I,I,p,I,L.fp.sq,λq hq=>⟨q,_,rfl,ae,λod'=>?_⟩
 rw[bS,U8];have s2:=aS (a_.refl H') hq (.gm od' (.lst (nV (b.drop n))));exists I,A.f.aW,C.Session,yK,I,(by rw[sa'];exact s2 _ _ g2),T.aF,T.jZ,aV.len _;rw[aV.Xy,sa'];obtain⟨R7,RO,kf7⟩:=L.w.act.held (dy:=yK) (od:=od') (b:=b.drop n) hq;have e2:=L.e2;have e1:=L.e1;rw[G]at e2 e1;have e2:A'.sb=A.sb++RR.2:=by rw[<-e2];exact(eT _).symm
 have e1:y'=RR.1:=e1;have li:=L.li;rw[e1]at li y6;have hle:=L.w.act.le;rw[e2,L.ef,az]at hle;refine k.ok hle _ cQ _ _ (L.w.lift R7 RO kf7 rfl rfl) L.ef e2 (by rw[<-e1];exact L.yr.own (by rfl) _) ?_ (L.kq.trans RO.q);cases eL:RR.1.line i with
 |none=>rw[eL]at li;exact li
 |some x'=>rw[eL]at li;obtain⟨c1,c2,_⟩:=li;have c3:=Hh (y6 x' eL);rw[c2.rY]at c3;nomatch c1,⟨⟨c2.stage,c2.Em,c2.named,c2.heads,c2.datas,c2.asks,c2.with_,c2.theirs,c2.burst,c2.first,c2.stat,c2.cmd,c2.next,c2.told⟩,c2.tasks,c2.rY⟩,c3,λz hz=>ob z (jy hz)
def Dx{G:Hp->Prop}{H0:Hp}(F:Hp->Prop)(f:F H0)(g:∀H',F H'->G H'):G H0:=g H0 f
section
variable{a c d g h i j:Nat}{b e f:aB}
def Sr(x:Nat):fm "marks" (V.int x) (cf.fs ⟨a,b,c,d,e,f,g,h,i,j⟩)=cf.fs ⟨x,b,c,d,e,f,g,h,i,j⟩:=rfl
def abJ(x:aB):fm "where" (V.ref x) (cf.fs ⟨a,b,c,d,e,f,g,h,i,j⟩)=cf.fs ⟨a,x,c,d,e,f,g,h,i,j⟩:=rfl
def Yv(x:Nat):fm "tag" (V.int x) (cf.fs ⟨a,b,c,d,e,f,g,h,i,j⟩)=cf.fs ⟨a,b,x,d,e,f,g,h,i,j⟩:=rfl
def Va(x:Nat):fm "size" (V.int x) (cf.fs ⟨a,b,c,d,e,f,g,h,i,j⟩)=cf.fs ⟨a,b,c,x,e,f,g,h,i,j⟩:=rfl
def abK(x:aB):fm "what" (V.ref x) (cf.fs ⟨a,b,c,d,e,f,g,h,i,j⟩)=cf.fs ⟨a,b,c,d,x,f,g,h,i,j⟩:=rfl
def Ss(x:Nat):fm "asked" (V.int x) (cf.fs ⟨a,b,c,d,e,f,g,h,i,j⟩)=cf.fs ⟨a,b,c,d,e,f,x,h,i,j⟩:=rfl
def OW(x:Nat):fm "number" (V.int x) (cf.fs ⟨a,b,c,d,e,f,g,h,i,j⟩)=cf.fs ⟨a,b,c,d,e,f,g,x,i,j⟩:=rfl
def Su(x:Nat):fm "limit" (V.int x) (cf.fs ⟨a,b,c,d,e,f,g,h,i,j⟩)=cf.fs ⟨a,b,c,d,e,f,g,h,x,j⟩:=rfl
def OX(x:Nat):fm "pieces" (V.int x) (cf.fs ⟨a,b,c,d,e,f,g,h,i,j⟩)=cf.fs ⟨a,b,c,d,e,f,g,h,i,x⟩:=rfl
end
inductive Hj(C:Cl)(vs:List V)(H:Hp)(Q:VK)(kn:XK):Prop
 |mk(ta:aB)(t:cf)(fW dC got:List Nat)(_:vs=[.ref ta])(_:pK C H ta t fW dC got)(_:∀H' p ad,H p=none->H ad=none->pK C H' p {t with ad:=ad} fW dC got->a_ H H'->Q (.ref p) H')
def JN:T.z6.D P w mg aR 4 (Hj C):=by
 refine T.z6.ok ?_;kd_p
 obtain⟨ta,t,fW,dC,got,rfl,M,k⟩:=h;exists _,(aa (cJ 1 nd (nj (Q_ T) (i5 (bO tK (dN (fN au)) au) (aT b4 rfl)))) (aa (ck cC (aT b4 rfl) rfl) (aa (ck cC (aT b4 rfl) rfl) (aa (ck cC (aT b4 rfl) rfl) (aa (ck cC (aT b4 rfl) rfl) (aa (ck cC (aT b4 rfl) rfl) (aa (ck cC (aT b4 rfl) rfl) (aa (ck cC (aT b4 rfl) rfl) (aa (ck cC (aT b4 rfl) rfl) (aa (ck cC (aT b4 rfl) rfl) (aj (aP cC))))))))))));obtain⟨dt,h1⟩:=M.at_;nomatch(by show 1<=aH;decide),λp1 g1=>⟨p1,48,_,rfl,rfl,ae,#[],#[],by show 1*48<=aH;decide,λp2 g2=>?_⟩
 have s1:=aS (a_.refl H) g1 (.lst [V.int 0]);have e0:(aQ (48:Int).toNat [V.int 0]).flatten=nV (aQ 48 0):=Cv 48;rw[e0];have s2:=aS s1 g2 (.lst (nV (aQ 48 0)));have z2:upd (upd H p1 (.lst [V.int 0])) p2 (.lst (nV (aQ 48 0))) p2=some (.lst (nV (aQ 48 0))):=ae;generalize upd (upd H p1 (.lst [V.int 0])) p2 (.lst (nV (aQ 48 0)))=H2 at s2 z2;exists I,ta,C.Task,dt,_,I,s2 _ _ h1,T.bh,T.gu,t.CC;intro x dx hx CL sU;have s3:=j5 hx CL (.own x) (.ins C.Task dx []);nomatch x,dx,p2,t.ad,aQ 48 0,got,rfl,ae,ai z2 hx,ai (s2 _ _ M.mF) hx,fT.of (s3 _ _ z2),fT.of (s3 _ _ (s2 _ _ M.mF)),#[],λH4 aw ah ad e4 _ _ g4 Ra _ _ B4=>⟨rfl,?_⟩
 have s4:a_ H H4:=λc o hc=>B4 c o (s3 _ _ (s2 _ _ hc)) (ai (s2 _ _ hc) hx);have XS:H x=none:=s2.free hx;have X_:H ad=none:=by
  cases q:H ad with
  |none=>rfl
  |some o=>rw[s3 _ _ (s2 _ _ q)]at Ra;cases Ra
 have nt:ta≠x:=ai h1 XS;have yM:∀u:cf,upd H4 x (.ins C.Task dx (cf.fs u)) ta=some (.ins C.Task dt t.fs):=λu=>by rw[aG nt];exact s4 _ _ h1
 unfold GA at e4;generalize(aQ 48 0).getD 1 0=m0 at e4;generalize ax (aQ 48 0) 16 4=m1 at e4;generalize ax (aQ 48 0) 20 4=m2 at e4;exists I,ta,C.Task,dt,_,I,s4 _ _ h1,T.bh,T.j4,t.Bg,I,x,C.Task,dx,I,e4,T.bh,T.j4,cf.len _;rw[Sr];exists I,ta,C.Task,dt,_,I,yM _,T.bh,T.lg,t.Xz,I,x,C.Task,dx,I,ae,T.bh,T.lg,cf.len _;rw[abJ,bS];exists I,ta,C.Task,dt,_,I,yM _,T.bh,T.jc,t.CB,I,x,C.Task,dx,I,ae,T.bh,T.jc,cf.len _;rw[Yv,bS];exists I,ta,C.Task,dt,_,I,yM _,T.bh,T.fe,t.m4,I,x,C.Task,dx,I,ae,T.bh,T.fe,cf.len _;rw[Va,bS];exists I,ta,C.Task,dt,_,I,yM _,T.bh,T.jd,t.N5,I,x,C.Task,dx,I,ae,T.bh,T.jd,cf.len _;rw[abK,bS];exists I,ta,C.Task,dt,_,I,yM _,T.bh,T.jn,t.Bh,I,x,C.Task,dx,I,ae,T.bh,T.jn,cf.len _;rw[Ss,bS];exists I,ta,C.Task,dt,_,I,yM _,T.bh,T.i0,t.x3,I,x,C.Task,dx,I,ae,T.bh,T.i0,cf.len _;rw[OW,bS];exists I,ta,C.Task,dt,_,I,yM _,T.bh,T.lh,t.ML,I,x,C.Task,dx,I,ae,T.bh,T.lh,cf.len _;rw[Su,bS];exists I,ta,C.Task,dt,_,I,yM _,T.bh,T.i3,t.CD,I,x,C.Task,dx,I,ae,T.bh,T.i3,cf.len _;rw[OX,bS];exists I;have s5:=a_.nQ s4 XS (.ins C.Task dx (cf.fs {t with ad:=ad}));refine k _ x ad XS X_ ⟨⟨dx,ae⟩,fK.same M.vd s5,fK.same M.oT s5,?_,M.ll,M.lc⟩ s5;show upd H4 x _ ad=_;rw[aG (bV g4 e4 nofun)];exact g4
structure Yw(u:HO):Prop where
 i:∀c dx fs,u≠ .ins c dx fs
 l:∀xs,u≠ .lst xs
 f:∀o xs,u≠ .gm o (.lst xs)
def LQ(kv:List (Key×V)):Yw (.dK kv):=⟨(λ_ _ _ z=>nomatch z),(λ_ z=>nomatch z),(λ_ _ z=>nomatch z)⟩
def Yx(od:mU)(kv:List (Key×V)):Yw (.gm od (.dK kv)):=⟨(λ_ _ _ z=>nomatch z),(λ_ z=>nomatch z),(λ_ _ z=>by injection z with _ z;cases z)⟩
def pK.M3(M:pK C H ta t fW dC got)(hd:H d=some u)(hu:Yw u)(B:gU d H H'):pK C H' ta t fW dC got:=by obtain⟨dx,h1⟩:=M.at_;have fz:∀{b:aB}{xs:List V},fK H b xs->fK H' b xs:=fun{b xs}⟨o,e⟩=>⟨o,B _ _ e (bV e hd (aL (hu.f _ _)))⟩;nomatch⟨dx,B _ _ h1 (bV h1 hd (aL (hu.i _ _ _)))⟩,fz M.vd,fz M.oT,B _ _ M.mF (bV M.mF hd (aL (hu.l _))),M.ll,M.lc
def oI.re(R:oI C H bP i t)(cm:pK C H' t.a t.f t.lun t.cdb t.got)(la:cQ t.a=bP t.a)(ld:cQ t.f.ad=bP t.f.ad):oI C H' cQ i t:=⟨⟨cm,la.trans R.la,ld.trans R.ld,R.ol,R.oc,R.og,R.tg,R.gs⟩,R.wr,R.rd,R.sz,R.gl,R.ll⟩
def JO{ts ts':List dG}(h:ts'.map dG.abs=ts.map dG.abs):ts'.map (λt=>t.f.tag)=ts.map λt=>t.f.tag:=by have:=congrArg (List.map Ql73.Task_.itt) h;rw[cY,cY]at this;exact this
inductive EK(C:Cl)(vs:List V)(H:Hp)(Q:VK)(kn:XK):Prop
 |mk(sa dy:aB)(s:aV)(bP Dy:aB->kT)(j:Nat)(ts:List dG)(_:vs=[.ref sa])(_:H sa=some (.ins C.Session dy s.fs))(_:H s.cD=some (.dK (cp ts)))(_:(∀t∈ts,oI C H bP j t))(_:(ts.map λt=>t.f.tag).Nodup)(_:ts.length<=8)(_:∀(H':Hp)(p:aB)(ts':List dG)(cQ:aB->kT),H p=none->H' p=some (.dK (cp ts'))->cQ p= .own j .tasks->(∀t∈ts',oI C H' cQ j t)->ts'.map dG.abs=ts.map dG.abs->(∀c o,H c=some o->cQ c=Dy c)->a_ H H'->Q (.ref p) H')
inductive F1I(C:Cl)(H:Hp)(sa p:aB)(od:mU)(s:aV)(ts:List dG)(j:Nat)(Dy:aB->kT)(i m:Nat)(σ:L2.St)(H':Hp):Prop
 |mk(v2 v3:Option V)(ts':List dG)(cQ:aB->kT)(_:σ=[some (.ref sa),some (.ref p),v2,v3])(_:m=ts.length-i)(_:i<=ts.length)(_:H' s.cD=some (.gm od (.dK (cp ts))))(_:H' p=some (.dK (cp ts')))(_:ts'.map dG.abs=(ts.take i).map dG.abs)(_:(∀t∈ts',oI C H' cQ j t))(_:(∀c o,H c=some o->cQ c=Dy c))(_:cQ p= .own j .tasks)(_:gU s.cD H H')
def uG:T.nN.D P w mg aR 5 (EK C):=by
 refine T.nN.ok ?_;kd_p
 obtain⟨sa,dy,s,bP,Dy,j,ts,rfl,h1,h2,hT,ndl,As,k⟩:=h;have hu:=lS hr;exists _,(aa (cJ 1 nd tP) (aa (T7 (mY d9 rfl (Qt (aT b4 rfl)) (F0 rfl (nL (Cc 2 nd) (nL (Cc 3 nd) A8))) (aj (ng hu cC fF (b_ (JN T) T.bh gQ) rfl)))) (aj (aP cC))));intro p hp;have ndp:s.cD≠p:=ai h2 hp;nomatch s.cD,.dK (cp ts),(by rw[aG ndp];exact h2),trivial,λod=>?_
 have B0:gU s.cD H (upd (upd H p (.dK [])) s.cD (.gm od (.dK (cp ts)))):=((gU.refl _ H).new hp _).upd _;have hp0:upd (upd H p (.dK [])) s.cD (.gm od (.dK (cp ts))) p=some (.dK []):=by rw[aG (aL ndp)];exact ae
 have hd0:upd (upd H p (.dK [])) s.cD (.gm od (.dK (cp ts))) s.cD=some (.gm od (.dK (cp ts))):=ae;generalize upd (upd H p (.dK [])) s.cD (.gm od (.dK (cp ts)))=H0 at B0 hp0 hd0;have nsd:sa≠s.cD:=bV h1 h2 nofun;exists I,sa,C.Session,dy,_,I,B0 _ _ h1 nsd,T.aF,T.dR,s.mr,s.cD,od,cp ts,rfl,hd0;exists F1I C H sa p od s ts j Dy,⟨_,none,none,[],(λc=>if c=p then .own j .tasks else Dy c),rfl,rfl,bQ _,hd0,hp0,rfl,(λt ht=>nomatch ht),λc o hc=>iN (ai hc hp),iP rfl,B0⟩;rintro i m σ H' ⟨v2,v3,ts',cQ,rfl,rfl,hi,DN,Rf,QX,hT',VB,Zq,B'⟩;have lkv:(cp ts).length=ts.length:=by unfold cp;rw[aK]
 by_cases oB:i<ts.length;rotate_left
 .have ei:i=ts.length:=();subst ei;rw[gJ]at QX;refine .inl ⟨⟨DN,by rw[lkv];exact bw _⟩,DN,?_⟩;have B2:gU s.cD H' (upd H' s.cD (.dK (cp ts))):=(gU.refl _ H').upd _;nomatch I,k _ p ts' cQ hp (by rw[aG (aL ndp)];exact Rf) Zq (λt ht=>(hT' t ht).re ((hT' t ht).cm.M3 DN (Yx _ _) B2) rfl rfl) QX VB λc o hc=>?_
  by_cases z:c=s.cD
  .subst z;rw[h2]at hc;rw[<-hc];exact ae
  .exact B2 _ _ (B' _ _ hc z) z
 have et:ts[i]? =some ts[i]:=aX oB;have mt:ts[i]∈ts:=tj oB;generalize htt:ts[i]=t at et mt;have ekv:(cp ts)[i]? =some (.inl (t.f.tag:Int),.ref t.a):=by unfold cp;rw[bz,et];rfl
 refine .inr ⟨⟨DN,by rw[lkv];exact oB⟩,fun σ' GV=>∃m',m'<ts.length-i/\F1I C H sa p od s ts j Dy (i+1) m' σ' GV,fun σ' GV h=>h,?_⟩;rintro x H1 ⟨tu,kk,vv,Xg,rfl,htu,rfl⟩;rw[ekv]at Xg;obtain⟨rfl,rfl⟩:=di (af Xg);have s1:=aS (a_.refl H') htu (.tup [kV (.inl (t.f.tag:Int)),.ref t.a]);have Rt:=hT t mt;have cm':pK C H' t.a t.f t.lun t.cdb t.got:=Rt.cm.M3 h2 (LQ _) B';obtain⟨dt,g1⟩:=cm'.at_;exists tu,I,l_.of ae,rfl,_,I,J;nomatch I,t.a,dt,I,s1 _ _ g1,rfl,t.a,t.f,t.lun,t.cdb,t.got,rfl,cm'.same s1,λH2 q ad hq Ra CM s2=>?_
 have qJ:=s1.trans s2;have Zi:p≠q:=ai (s1 _ _ Rf) hq;have hpa:p≠ad:=ai (s1 _ _ Rf) Ra;obtain⟨dq,gq⟩:=CM.at_;have hqa:q≠ad:=bV gq CM.mF nofun;have Kv:∀y∈ts',y.f.tag≠t.f.tag:=λy hy e=>by
  have h3:y.f.tag∈ts'.map λt=>t.f.tag:=cG.mpr ⟨y,hy,rfl⟩;rw[JO QX,e]at h3;obtain⟨z,hz,ez⟩:=cG.mp h3;obtain⟨n,hn,en⟩:=List.mem_iff_getElem.mp hz;rw[bf]at hn;rw[List.getElem_take]at en;have g1:(ts.map λt=>t.f.tag)[n]? =some t.f.tag:=by rw[bz,aX (),en];show some z.f.tag=_;rw[ez]
  have g2:(ts.map λt=>t.f.tag)[i]? =some t.f.tag:=by rw[bz,et];rfl
  have:=aan ndl g1 g2;lia
 have hv:jl (cp ts') (.inl (t.f.tag:Int))=none:=by
  rw[m9];have:(ts'.find? λy=>y.f.tag==t.f.tag)=none:=kl.mpr λy hy=>by simp[Kv y hy]
  rw[this];rfl
 have aff:putK (cp ts') (.inl (t.f.tag:Int)) (V.ref q)=cp (ts'++[{t with a:=q,f:={t.f with ad:=ad}}]):=by rw[xr _ hv];unfold cp;rw[bW];rfl
 have ajG:ts'.length=i:=by have:=congrArg hU QX;rw[aK,aK,bf]at this;lia
 have hsz:(cp ts').length<aH:=by unfold cp;rw[aK,sizeLine_eq];lia
 have v_:H2 p=some (.dK (cp ts')):=qJ _ _ Rf;have hd2:H2 s.cD=some (.gm od (.dK (cp ts))):=qJ _ _ DN;exists I,I,p,I,u_.k (k:=eQ (t.f.tag:Int)) v_ hsz;rw[aff];have B2:gU p H2 (upd H2 p (.dK (cp (ts'++[{t with a:=q,f:={t.f with ad:=ad}}])))):=(gU.refl _ H2).upd _;have qH':H' q=none:=s1.free hq;have aH':H' ad=none:=s1.free Ra;have fr:∀c,H' c=none->H c=none\/c=s.cD:=λc hc=>by
  cases e:H c with
  |none=>exact .inl rfl
  |some o=>
   by_cases z:c=s.cD
   .exact .inr z
   .rw[B' c o e z]at hc;cases hc
 have nqd:q≠s.cD:=aL (ai DN qH');have nad:ad≠s.cD:=aL (ai DN aH');have lq:∀c,c≠q->c≠ad->(if c=q then kT.own j (.task t.f.tag)else if c=ad then .own j (.data t.f.tag)else cQ c)=cQ c:=λc h1 h2=>by rw[iN h1,iN h2]
 nomatch _,(),_,_,ts'++[{t with a:=q,f:={t.f with ad:=ad}}],(λc=>if c=q then kT.own j (.task t.f.tag)else if c=ad then .own j (.data t.f.tag)else cQ c),rfl,rfl,oB,?_,ae,?_,λy hy=>?_,λc o hc=>?_,?_,λc o hc n=>?_
 .rw[aG (aL (bV v_ hd2 nofun))];exact hd2
 .rw[bW,QX,fP,et,bW];rfl
 .rcases du.mp hy with hy|hy
  .have q1:=hT' y hy;obtain⟨d1,g1⟩:=q1.cm.at_;exact q1.re ((q1.cm.same qJ).M3 v_ (LQ _) B2) (lq _ (ai g1 qH') (ai g1 aH')) (lq _ (ai q1.cm.mF qH') (ai q1.cm.mF aH'))
  .rw[aO.mp hy];nomatch⟨CM.M3 v_ (LQ _) B2,iP rfl,by show(if ad=q then _ else _)=_;rw[iN (aL hqa),iP rfl],Rt.ol,Rt.oc,Rt.og,Rt.tg,Rt.gs⟩,Rt.wr,Rt.rd,Rt.sz,Rt.gl,Rt.ll
 .have HC:H c=none->False:=λz=>by rw[hc]at z;cases z
  exact(lq c (λz=>by subst z;rcases fr _ qH' with z|z;exact HC z;exact nqd z) (λz=>by subst z;rcases fr _ aH' with z|z;exact HC z;exact nad z)).trans (VB c o hc)
 .show(if p=q then _ else _)=_;rw[iN Zi,iN hpa];exact Zq
 .exact B2 _ _ (qJ _ _ (B' _ _ hc n)) (ai hc hp)
def A3:cb:=⟨false,false,true,true,8192,262144,65536⟩
def wd(l:Nat)(hd st sn tk:aB):aV:=⟨l,false,hd,none,1,0,0,true,st,sn,tk⟩
def gU.free(B:gU t H H1)(hp:H1 p=none)(n:p≠t):H p=none:=by
 cases q:H p with
 |none=>rfl
 |some o=>rw[B p o q n]at hp;cases hp
inductive A4(C:Cl)(vs:List V)(H:Hp)(Q:VK)(kn:XK):Prop
 |mk(t dx:aB)(l:Nat)(_:vs=[.ref t,.int l])(_:H t=some (.ins C.Session dx []))(_:∀H' hd st sn tk,H' t=some (.ins C.Session dx (wd l hd st sn tk).fs)->fK H' hd (nV [])->H' st=some (.dK A3.kv)->H' sn=some (.dK [])->H' tk=some (.dK [])->H hd=none->H st=none->H sn=none->H tk=none->st≠sn->st≠tk->sn≠tk->gU t H H'->Q .eY H')
def FN:T.tV.D P w aR 1 (A4 C):=by
 refine T.tV.ok ?_;kd_p
 obtain⟨t,dx,l,rfl,h1,k⟩:=h;obtain⟨fa,hfm,hfd⟩:=T.K2;exists _,(aa (ck b4 cC rfl) (aa (ck b4 kP rfl) (aa (ck b4 (jm (dN jk)) rfl) (aa (ck b4 jz rfl) (aa (ck b4 au rfl) (aa (ck b4 au rfl) (aa (ck b4 au rfl) (aa (ck b4 kP rfl) (aa (ck b4 (iW KN (by rfl) T.zg uL (fN (rH (v:=.ref fa) (by rfl) hfm rfl #[]))) rfl) (aa (ck b4 tP rfl) (aj (ck b4 tP rfl))))))))))));exists I,I,t,C.Session,dx,I,h1,T.aF,T.n_,(by show 0<1000;decide);exists I,t,C.Session,dx,I,ae,T.aF,T.iu,(by show 1<1000;decide);rw[bS];refine Dx (λH'=>gU t H H'/\H' t=some (.ins C.Session dx [("line",.int l),("closed",.bl false)])) ⟨(gU.refl t H).upd _,ae⟩ ?_;rintro H1 ⟨B1,e1⟩;nomatch bQ _,λhd ghd=>⟨hd,_,rfl,ae,λod=>?_⟩
 rw[bS];have n1:t≠hd:=ai e1 ghd;exists I,t,C.Session,dx,I,(by rw[aG n1];exact e1),T.aF,T.jZ,(by show 2<1000;decide);refine Dx (λH'=>gU t H H'/\H' t=some (.ins C.Session dx [("line",.int l),("closed",.bl false),("held",.ref hd)])/\H' hd=some (.gm od (.lst []))) ⟨(B1.new ghd _).upd _,ae,by rw[aG (aL n1)];exact ae⟩ ?_;rintro H2 ⟨B2,e2,f2⟩;exists I,t,C.Session,dx,I,e2,T.aF,T.fB,(by show 3<1000;decide);exists I,t,C.Session,dx,I,ae,T.aF,T.g8,(by show 4<1000;decide);exists I,t,C.Session,dx,I,ae,T.aF,T.cT,(by show 5<1000;decide);exists I,t,C.Session,dx,I,ae,T.aF,T.dJ,(by show 6<1000;decide);exists I,t,C.Session,dx,I,ae,T.aF,T.gR,(by show 7<1000;decide);rw[bS,bS,bS,bS];refine Dx (λH'=>gU t H H'/\H' t=some (.ins C.Session dx [("line",.int l),("closed",.bl false),("held",.ref hd),("stage",.eY),("count",.int 1),("command_number",.int 0),("last_asked",.int 0),("anew",.bl true)])/\H' hd=some (.gm od (.lst []))) ⟨B2.upd _,ae,by rw[aG (aL n1)];exact f2⟩ ?_;rintro H3 ⟨B3,e3,f3⟩;nomatch fa,I,hfd,λst gst=>?_
 have n2:t≠st:=ai e3 gst;exists I,t,C.Session,dx,I,(by rw[aG n2];exact e3),T.aF,T.dn,(by show 8<1000;decide);refine Dx (λH'=>gU t H H'/\H' t=some (.ins C.Session dx [("line",.int l),("closed",.bl false),("held",.ref hd),("stage",.eY),("count",.int 1),("command_number",.int 0),("last_asked",.int 0),("anew",.bl true),("settings",.ref st)])/\H' hd=some (.gm od (.lst []))/\H' st=some (.dK A3.kv)) ⟨(B3.new gst _).upd _,ae,by rw[aG (aL n1),aG (ai f3 gst)];exact f3,by rw[aG (aL n2)];exact ae⟩ ?_;rintro H4 ⟨B4,e4,f4,d4⟩;intro sn Te;have n3:t≠sn:=ai e4 Te;exists I,t,C.Session,dx,I,(by rw[aG n3];exact e4),T.aF,T.ig,(by show 9<1000;decide);refine Dx (λH'=>gU t H H'/\H' t=some (.ins C.Session dx [("line",.int l),("closed",.bl false),("held",.ref hd),("stage",.eY),("count",.int 1),("command_number",.int 0),("last_asked",.int 0),("anew",.bl true),("settings",.ref st),("seen_keys",.ref sn)])/\H' hd=some (.gm od (.lst []))/\H' st=some (.dK A3.kv)/\H' sn=some (.dK [])) ⟨(B4.new Te _).upd _,ae,by rw[aG (aL n1),aG (ai f4 Te)];exact f4,by rw[aG (aL n2),aG (ai d4 Te)];exact d4,by rw[aG (aL n3)];exact ae⟩ ?_;rintro H5 ⟨B5,e5,f5,d5,k5⟩;intro tk Wf;have n4:t≠tk:=ai e5 Wf;exists I,t,C.Session,dx,I,(by rw[aG n4];exact e5),T.aF,T.dR,(by show 10<1000;decide);refine k _ hd st sn tk (ae.trans rfl) ⟨od,by rw[aG (aL n1),aG (ai f5 Wf)];exact f5⟩ (by rw[aG (aL n2),aG (ai d5 Wf)];exact d5) (by rw[aG (aL n3),aG (ai k5 Wf)];exact k5) (by rw[aG (aL n4)];exact ae) (B1.free ghd (aL n1)) (B3.free gst (aL n2)) (B4.free Te (aL n3)) (B5.free Wf (aL n4)) (ai d4 Te) (ai d5 Wf) (ai k5 Wf) ((B5.new Wf _).upd _)
section
variable{a e f g:Nat}{b h:Bool}{c i j k:aB}{d:Option Nat}
def OY(x:Bool):fm "closed" (V.bl x) (aV.fs ⟨a,b,c,d,e,f,g,h,i,j,k⟩)=aV.fs ⟨a,x,c,d,e,f,g,h,i,j,k⟩:=rfl
def Vb(x:aB):fm "held" (V.ref x) (aV.fs ⟨a,b,c,d,e,f,g,h,i,j,k⟩)=aV.fs ⟨a,b,x,d,e,f,g,h,i,j,k⟩:=rfl
def Sv(x:Option Nat):fm "stage" (zl x) (aV.fs ⟨a,b,c,d,e,f,g,h,i,j,k⟩)=aV.fs ⟨a,b,c,x,e,f,g,h,i,j,k⟩:=rfl
def Sw(x:Nat):fm "count" (V.int x) (aV.fs ⟨a,b,c,d,e,f,g,h,i,j,k⟩)=aV.fs ⟨a,b,c,d,x,f,g,h,i,j,k⟩:=rfl
def Yy(x:Nat):fm "command_number" (V.int x) (aV.fs ⟨a,b,c,d,e,f,g,h,i,j,k⟩)=aV.fs ⟨a,b,c,d,e,x,g,h,i,j,k⟩:=rfl
def Vc(x:Nat):fm "last_asked" (V.int x) (aV.fs ⟨a,b,c,d,e,f,g,h,i,j,k⟩)=aV.fs ⟨a,b,c,d,e,f,x,h,i,j,k⟩:=rfl
def Vd(x:Bool):fm "anew" (V.bl x) (aV.fs ⟨a,b,c,d,e,f,g,h,i,j,k⟩)=aV.fs ⟨a,b,c,d,e,f,g,x,i,j,k⟩:=rfl
def Ve(x:aB):fm "settings" (V.ref x) (aV.fs ⟨a,b,c,d,e,f,g,h,i,j,k⟩)=aV.fs ⟨a,b,c,d,e,f,g,h,x,j,k⟩:=rfl
def Sx(x:aB):fm "seen_keys" (V.ref x) (aV.fs ⟨a,b,c,d,e,f,g,h,i,j,k⟩)=aV.fs ⟨a,b,c,d,e,f,g,h,i,x,k⟩:=rfl
def OZ(x:aB):fm "tasks" (V.ref x) (aV.fs ⟨a,b,c,d,e,f,g,h,i,j,k⟩)=aV.fs ⟨a,b,c,d,e,f,g,h,i,j,x⟩:=rfl
end
structure Ak(S S':fS):Prop where
 s:S'.s={S.s with held:=S'.s.held,ja:=S'.s.ja,gV:=S'.s.gV,cD:=S'.s.cD}
 st:S'.st=S.st
 seen:S'.seen=S.seen
 held:S'.held=S.held
 ts:S'.ts.map dG.abs=S.ts.map dG.abs
def Ak.rel(W:Ak S S')(R:ji S S.held x):ji S' S'.held x:=by
 have e:=W.s;exists⟨?_,?_,?_,?_,?_,?_,?_,?_,?_,?_,?_,?_,?_,?_⟩,?_
 .rw[e];exact R.stage
 .rw[e];exact R.Em
 .rw[W.seen];exact R.named
 .rw[W.st];exact R.heads
 .rw[W.st];exact R.datas
 .rw[W.st];exact R.asks
 .rw[W.st];exact R.with_
 .rw[W.st];exact R.theirs
 .rw[W.st];exact R.burst
 .rw[e,W.st];exact R.first
 .rw[e];exact R.stat
 .rw[e];exact R.cmd
 .rw[e];exact R.next
 .rw[e];exact R.told
 .rw[W.ts];exact R.tasks
 .rw[W.held];exact R.rY
inductive sN(C:Cl)(vs:List V)(H:Hp)(Q:VK)(kn:XK):Prop
 |mk(bP Dy:aB->kT)(j:Nat)(S:fS)(_:vs=[.ref S.a])(_:lj C H bP j S)(_:∀(H':Hp)(S':fS)(cQ:aB->kT),H S'.a=none->lj C H' cQ j S'->Ak S S'->(∀c o,H c=some o->cQ c=Dy c)->a_ H H'->Q (.ref S'.a) H')
def Dz:T.tW.D P w mg aR 6 (sN C):=by
 refine T.tW.ok ?_;kd_p
 obtain⟨bP,Dy,j,S,rfl,R,k⟩:=h;exists _,(aa (cJ 1 nd (nj (FN T) (fN (aT b4 rfl)))) (aa (ck cC (aT b4 rfl) rfl) (aa (ck cC (jm (iW xm (by rfl) T.QT MN (fN (aT b4 rfl)))) rfl) (aa (ck cC (aT b4 rfl) rfl) (aa (ck cC (aT b4 rfl) rfl) (aa (ck cC (aT b4 rfl) rfl) (aa (ck cC (aT b4 rfl) rfl) (aa (ck cC (aT b4 rfl) rfl) (aa (ck cC (iW rO (by rfl) T.zg uL (fN (aT b4 rfl))) rfl) (aa (ck cC (iW rO (by rfl) T.zg uL (fN (aT b4 rfl))) rfl) (aa (ck cC (b_ (uG T) T.aF b4) rfl) (aj (aP cC)))))))))))));obtain⟨dy,h1⟩:=R.at_;exists I,S.a,C.Session,dy,_,I,h1,T.aF,T.n_,S.s.Q0;intro x dx hx CL sU;nomatch x,dx,S.s.line,rfl,ae,λH1 hd st sn tk e1 _ _ _ _ _ _ _ _ _ _ _ B1=>⟨rfl,?_⟩
 unfold wd at e1;have s1:a_ H H1:=a_.made hx CL B1;have nx:S.a≠x:=ai h1 hx;have m8:∀{H':Hp}(u:aV),a_ H H'->upd H' x (.ins C.Session dx (aV.fs u)) S.a=some (.ins C.Session dy S.s.fs):=fun{H'} u s=>by rw[aG nx];exact s _ _ h1
 exists I,S.a,C.Session,dy,_,I,s1 _ _ h1,T.aF,T.iu,S.s.Cz,I,x,C.Session,dx,I,e1,T.aF,T.iu,aV.len _;rw[OY];have s2:=a_.nQ s1 hx (.ins C.Session dx (aV.fs ⟨S.s.line,S.s.closed,hd,none,1,0,0,true,st,sn,tk⟩));have fh2:=fK.same R.uz s2;nomatch I,S.a,C.Session,dy,_,I,m8 _ s1,T.aF,T.jZ,S.s.Q1,S.s.held,I,.inl fh2.sq,λq gq=>⟨q,_,rfl,ae,λod=>?_⟩
 rw[bS];have nq:x≠q:=ai ae gq;exists I,x,C.Session,dx,I,(by rw[aG nq];exact ae),T.aF,T.jZ,aV.len _;rw[Vb];have N_:H q=none:=s2.free gq;refine Dx (λH'=>a_ H H'/\H' x=some (.ins C.Session dx (aV.fs ⟨S.s.line,S.s.closed,q,none,1,0,0,true,st,sn,tk⟩))/\H' q=some (.gm od (.lst (nV S.held)))) ⟨a_.nQ (aS s2 gq _) hx _,ae,by rw[aG (aL nq)];exact ae⟩ ?_;rintro H3 ⟨s3,e3,f3⟩;exists I,S.a,C.Session,dy,_,I,s3 _ _ h1,T.aF,T.fB,S.s.rS,I,x,C.Session,dx,I,e3,T.aF,T.fB,aV.len _;rw[Sv];exists I,S.a,C.Session,dy,_,I,m8 _ s3,T.aF,T.g8,S.s.Bf,I,x,C.Session,dx,I,ae,T.aF,T.g8,aV.len _;rw[Sw,bS];exists I,S.a,C.Session,dy,_,I,m8 _ s3,T.aF,T.cT,S.s.IX,I,x,C.Session,dx,I,ae,T.aF,T.cT,aV.len _;rw[Yy,bS];exists I,S.a,C.Session,dy,_,I,m8 _ s3,T.aF,T.dJ,S.s.CA,I,x,C.Session,dx,I,ae,T.aF,T.dJ,aV.len _;rw[Vc,bS];exists I,S.a,C.Session,dy,_,I,m8 _ s3,T.aF,T.gR,S.s.K5,I,x,C.Session,dx,I,ae,T.aF,T.gR,aV.len _;rw[Vd,bS];refine Dx (λH'=>a_ H H'/\H' x=some (.ins C.Session dx (aV.fs ⟨S.s.line,S.s.closed,q,S.s.stage,S.s.count,S.s.cmd,S.s.last,S.s.anew,st,sn,tk⟩))/\H' q=some (.gm od (.lst (nV S.held)))) ⟨a_.nQ s3 hx _,ae,by rw[aG (aL nq)];exact f3⟩ ?_;rintro H4 ⟨s4,e4,f4⟩;nomatch I,S.a,C.Session,dy,_,I,s4 _ _ h1,T.aF,T.dn,S.s.rT,S.s.ja,I,.inl (s4 _ _ R.kZ),λa1 g1=>?_
 have n1:x≠a1:=ai e4 g1;exists I,x,C.Session,dx,I,(by rw[aG n1];exact e4),T.aF,T.dn,aV.len _;rw[Ve];have h1H:H a1=none:=s4.free g1;refine Dx (λH'=>a_ H H'/\H' x=some (.ins C.Session dx (aV.fs ⟨S.s.line,S.s.closed,q,S.s.stage,S.s.count,S.s.cmd,S.s.last,S.s.anew,a1,sn,tk⟩))/\H' q=some (.gm od (.lst (nV S.held)))/\H' a1=some (.dK S.st.kv)) ⟨a_.nQ (aS s4 g1 _) hx _,ae,by rw[aG (aL nq),aG (ai f4 g1)];exact f4,by rw[aG (aL n1)];exact ae⟩ ?_;rintro H5 ⟨s5,e5,f5,d5⟩;nomatch I,S.a,C.Session,dy,_,I,s5 _ _ h1,T.aF,T.ig,S.s.Gy,S.s.gV,I,.inl (s5 _ _ R.lr),λa2 g2=>?_
 have n2:x≠a2:=ai e5 g2;have n12:a1≠a2:=ai d5 g2;exists I,x,C.Session,dx,I,(by rw[aG n2];exact e5),T.aF,T.ig,aV.len _;rw[Sx];have h2H:H a2=none:=s5.free g2;refine Dx (λH'=>a_ H H'/\H' x=some (.ins C.Session dx (aV.fs ⟨S.s.line,S.s.closed,q,S.s.stage,S.s.count,S.s.cmd,S.s.last,S.s.anew,a1,a2,tk⟩))/\H' q=some (.gm od (.lst (nV S.held)))/\H' a1=some (.dK S.st.kv)/\H' a2=some (.dK (g_ S.seen))) ⟨a_.nQ (aS s5 g2 _) hx _,ae,by rw[aG (aL nq),aG (ai f5 g2)];exact f5,by rw[aG (aL n1),aG n12];exact d5,by rw[aG (aL n2)];exact ae⟩ ?_;rintro H6 ⟨s6,e6,f6,d6,k6⟩;have R6:=R.same s6;nomatch I,S.a,dy,I,s6 _ _ h1,rfl,S.a,dy,S.s,bP,(λc=>if c=x then kT.own j .uq else if c=a1 then .own j .set else if c=a2 then .own j .seen else Dy c),j,S.ts,rfl,s6 _ _ h1,s6 _ _ R.ij,R6.nW,R.nd,R.As,λH7 p ts' cQ hp e7 Zq hT7 ha7 hl7 s7=>?_
 have lx:cQ x= .own j .uq:=by rw[hl7 _ _ e6];exact iP rfl
 have l1:cQ a1= .own j .set:=by rw[hl7 _ _ d6];show(if a1=x then _ else _)=_;rw[iN (aL n1),iP rfl]
 have l2:cQ a2= .own j .seen:=by rw[hl7 _ _ k6];show(if a2=x then _ else _)=_;rw[iN (aL n2),iN (aL n12),iP rfl]
 exists I,x,C.Session,dx,I,s7 _ _ e6,T.aF,T.dR,aV.len _;rw[OZ];exists I;have B8:gU x H7 (upd H7 x (.ins C.Session dx (aV.fs ⟨S.s.line,S.s.closed,q,S.s.stage,S.s.count,S.s.cmd,S.s.last,S.s.anew,a1,a2,p⟩))):=(gU.refl _ H7).upd _;have BL:gH [x] H7 (upd H7 x (.ins C.Session dx (aV.fs ⟨S.s.line,S.s.closed,q,S.s.stage,S.s.count,S.s.cmd,S.s.last,S.s.anew,a1,a2,p⟩))):=λc o hc nc=>B8 c o hc λz=>nc (by rw[z];simp);have kf:=BL.iZ λa ha o u e=>by rw[aO.mp ha,s7 _ _ e6]at e;cases e
 have s8:a_ H (upd H7 x (.ins C.Session dx (aV.fs ⟨S.s.line,S.s.closed,q,S.s.stage,S.s.count,S.s.cmd,S.s.last,S.s.anew,a1,a2,p⟩))):=a_.nQ (s6.trans s7) hx _;have ni:∀c y,cQ c=y->y≠ .own j .uq->c∉[x]:=λc y h n m=>by rw[aO.mp m]at h;exact n (h.symm.trans lx)
 refine k _ ⟨x,{S.s with held:=q,ja:=a1,gV:=a2,cD:=p},S.st,S.seen,S.held,ts'⟩ cQ hx ?_ ⟨rfl,rfl,rfl,rfl,ha7⟩ (λc o hc=>?_) s8
 .nomatch⟨dx,ae⟩,B8 _ _ (s7 _ _ d6) (aL n1),B8 _ _ (s7 _ _ k6) (aL n2),B8 _ _ e7 (bV e7 (s7 _ _ e6) nofun),⟨od,B8 _ _ (s7 _ _ f6) (aL nq)⟩,λt ht=>?_,by show(ts'.map λt=>t.f.tag).Nodup;rw[JO ha7];exact R.nd,?_,lx,l1,l2,Zq,R.ok,R.sm,R.oy,R.oz,R.pL
  .have q7:=hT7 t ht;exact q7.re (q7.cm.pD BL kf (ni _ _ q7.la nofun) (ni _ _ q7.ld nofun)) rfl rfl
  .have:=congrArg hU ha7;rw[aK,aK]at this;show ts'.length<=8;rw[this];exact R.As
 .rw[hl7 c o (s6 _ _ hc)];show(if c=x then _ else _)=_;rw[iN (ai hc hx),iN (ai hc h1H),iN (ai hc h2H)]
structure jI(C:Cl)(H:Hp)(bP:aB->kT)(ta:aB)(f:iS)(df:jt)(wr:List sH)(ss:List (Option fS))(y:eC):Prop where
 at_:XD C H ta f
 sl:H f.bT=some (.lst (ss.map iF))
 ls:bP f.bT= .mC
 len:ss.length=4
 dk:jH C H f.disk df wr
 od:∀p,bM wr p<256
 se:∀(j:Nat) S,ss[j]? =some (some S)->lj C H bP j S/\S.s.closed=false/\S.s.line=j/\S.held.length<=9000/\fU S.held
 disk:y.disk=bM wr
 JP:y.lines.length=4
 rel:∀(j:Nat) o x,ss[j]? =some o->y.lines[j]? =some x->Bo o x
theorem jI.same(W:jI C H bP ta f df wr ss y)(s:a_ H H'):jI C H' bP ta f df wr ss y:=by obtain⟨dx,h1⟩:=W.at_;nomatch⟨dx,s _ _ h1⟩,s _ _ W.sl,W.ls,W.len,W.dk.same s,W.od,λj S h=>⟨(W.se j S h).1.same s,(W.se j S h).2⟩,W.disk,W.JP,W.rel
def jI.list(W:jI C H bP ta f df wr ss y)(h:H tl=some (.lst xs))(hl:bP tl= .mC)(n:tl≠f.bT)(ys:List V):jI C (upd H tl (.lst ys)) bP ta f df wr ss y:=by
 obtain⟨dx,h1⟩:=W.at_;have B:gH [tl] H (upd H tl (.lst ys)):=λc o hc nc=>by rw[aG (λz=>nc (by rw[z];simp))];exact hc
 have kf:=B.iZ λa ha o u e=>by rw[aO.mp ha,h]at e;cases e
 obtain⟨dd,g1⟩:=W.dk.at_;nomatch⟨dx,by rw[aG (bV h1 h nofun)];exact h1⟩,by rw[aG (aL n)];exact W.sl,W.ls,W.len,W.dk.pD B kf (by rw[aO];exact bV g1 h nofun) (by rw[aO];exact bV W.dk.rh h nofun),W.od,λj S hS=>⟨(W.se j S hS).1.keeps (λc o hc⟨k,hk⟩=>⟨B c o hc ?_,rfl⟩) kf,(W.se j S hS).2⟩,W.disk,W.JP,W.rel
 rw[aO];exact c_ hk hl nofun
def JQ(a:xf):List V:=V.int a.v::nV a.out
def Goes(C:Cl)(H:Hp)(bP:aB->kT)(ta:aB)(f:iS)(Q:VK)(ans:List V)(y':eC):Prop:=∀(H':Hp)(p:aB)(cQ:aB->kT)(f':iS)(Tf:jt)(wr':List sH)(jC:List (Option fS)),H p=none->H' p=some (.lst ans)->jI C H' cQ ta f' Tf wr' jC y'->(∀c o,H c=some o->c≠ta->c≠f.bT->H' c=some o)->(f'.bT=f.bT\/H f'.bT=none)->(∀c o,H c=some o->bP c= .mC->cQ c= .mC)->Q (.ref p) H'
theorem Goes.same(k:Goes C H bP ta f Q ans y)(W:jI C H bP ta f df wr ss y)(s:a_ H H1)(hp:H1 p=none):Q (.ref p) (upd H1 p (.lst ans)):=by have s2:=aS s hp (.lst ans);exact k _ p bP f df wr ss (s.free hp) ae (W.same s2) (λc o hc _ _=>s2 c o hc) (.inl rfl) λ_ _ _ e=>e
inductive yy(C:Cl)(q:Int->yI)(vs:List V)(H:Hp)(Q:VK)(kn:XK):Prop
 |mk(ta:aB)(z:Int)(bP:aB->kT)(f:iS)(df:jt)(wr:List sH)(ss:List (Option fS))(y y1:eC)(a:xf)(_:vs=[.ref ta,.int z])(_:jI C H bP ta f df wr ss y)(_:mL (some y) (q z)=(some y1,a))(_:Goes C H bP ta f Q (JQ a) y1)
def uW:T.Fj.D P w aR 1 (λvs H Q _=>∃z:Int,vs=[.int z]/\Q (.bl (fZ z)) H):=by
 refine T.Fj.ok ?_ (λvs H Q E h=>by obtain⟨z,rfl,_⟩:=h;rfl);kd_p
 obtain⟨z,rfl,k⟩:=h;exists _,(aj (aP (P0 zO tH au b4 (aU T.MI))));exists I,J,I;unfold fZ at k;refine gG (λh1=>?_) (λh1=>?_)
 .have h1:(0:Int)<=z:=h1;rw[decide_eq_true h1,Ki]at k;nomatch J,k
 .have h1:¬(0:Int)<=z:=h1;rw[decide_eq_false h1,w9]at k;exact k
def Wg:bM []=λ_=>0:=by funext p;show(aQ 512 0).getD (p%512) 0=0;rw[bK,mH];split<;>rfl
inductive DA(C:Cl)(vs:List V)(H:Hp)(Q:VK)(kn:XK):Prop
 |mk(t dx:aB)(_:vs=[.ref t])(_:H t=some (.ins C.Target dx []))(_:∀H' f df,H' t=some (.ins C.Target dx (iS.fs f))->jH C H' f.disk df []->H' f.bT=some (.lst [.eY,.eY,.eY,.eY])->H f.bT=none->gU t H H'->Q .eY H')
def JR:T.vR.D P w aR 3 (DA C):=by
 refine T.vR.ok ?_;kd_p
 obtain⟨t,dx,rfl,h1,k⟩:=h;exists _,(aa (ck b4 (xA (Rq T)) rfl) (aj (ck b4 (bO tK (dN (fN jz)) (aU T.MI)) rfl)));intro d dd hd hdd sU;nomatch d,dd,rfl,ae,λH1 wa ba e1 e2 e3 Zf B1=>⟨rfl,?_⟩
 have s1:a_ H H1:=a_.made hd hdd B1;have ntd:t≠d:=ai h1 hd;exists I,t,C.Target,dx,I,s1 _ _ h1,T.fL,T.mj,(by show 0<1000;decide);have D1:jH C H1 d ⟨wa,ba⟩ []:=⟨⟨dd,e1⟩,e2,e3,(λx hx=>nomatch hx),nG⟩;refine Dx (λH'=>gU t H H'/\gU t H1 H'/\H' t=some (.ins C.Target dx [("disk",.ref d)])) ⟨λc o hc nc=>by rw[aG nc];exact s1 c o hc,(gU.refl t H1).upd _,ae⟩ ?_;rintro H2 ⟨B2,B12,e4⟩;nomatch(by show 1<=aH;decide),λp1 g1=>⟨p1,4,_,rfl,rfl,ae,#[],#[],by show 1*4<=aH;decide,λp2 g2=>?_⟩
 have er:(aQ (4:Int).toNat [V.eY]).flatten=[V.eY,V.eY,V.eY,V.eY]:=rfl;rw[er];have s3:=aS (a_.refl H2) g1 (.lst [V.eY]);have s4:=aS s3 g2 (.lst [V.eY,V.eY,V.eY,V.eY]);exists I,t,C.Target,dx,I,s4 _ _ e4,T.fL,T.ff,(by show 1<1000;decide);have ntp:t≠p2:=ai (s3 _ _ e4) g2;have v_:H2 p2=none:=s3.free g2;have BB:gU t H1 (upd (upd (upd H2 p1 (.lst [V.eY])) p2 (.lst [V.eY,V.eY,V.eY,V.eY])) t (.ins C.Target dx (fm "sessions" (.ref p2) [("disk",.ref d)]))):=gU.upd (λc o hc nc=>s4 c o (B12 c o hc nc)) _;have BL:gH [t] H1 (upd (upd (upd H2 p1 (.lst [V.eY])) p2 (.lst [V.eY,V.eY,V.eY,V.eY])) t (.ins C.Target dx (fm "sessions" (.ref p2) [("disk",.ref d)]))):=λc o hc nc=>BB c o hc λz=>nc (by rw[z];simp);refine k _ ⟨d,p2⟩ ⟨wa,ba⟩ (ae.trans rfl) (D1.pD BL (BL.iZ λa ha o u e=>by rw[aO.mp ha,s1 _ _ h1]at e;cases e) (by rw[aO];exact aL ntd) (by rw[aO];exact bV e2 (s1 _ _ h1) nofun)) ?_ (B2.free v_ (aL ntp)) (gU.upd (λc o hc nc=>s4 c o (B2 c o hc nc)) _);show upd _ t _ p2=_;rw[aG (aL ntp)];exact ae
def jI.new(h:H ta=some (.ins C.Target dx f.fs))(D:jH C H f.disk df [])(hs:H f.bT=some (.lst [.eY,.eY,.eY,.eY])):jI C H (λ_=>.mC) ta f df [] [none,none,none,none] Hz:=by
 have no:∀(j:Nat)(S:fS),([none,none,none,none]:List (Option fS))[j]? =some (some S)->False:=λj S h=>by
  match j,h with
  |0,h=>cases h
  |1,h=>cases h
  |2,h=>cases h
  |3,h=>cases h
  |j+4,h=>simp at h
 nomatch⟨dx,h⟩,hs,rfl,rfl,D,λp=>by rw[Wg];show 0<256;decide,λj S h=>(no j S h).elim,Wg.symm,rfl,λj o x h1 h2=>?_
 have ho:o=none:=by
  cases o with
  |none=>rfl
  |some S=>exact(no j S h1).elim
 have hx:x=none:=by
  have h2:(aQ 4 (none:Option aJ))[j]? =some x:=h2;rw[mH]at h2;split at h2
  .exact(af h2).symm
  .cases h2
 subst ho hx;trivial
def Sy(h:n<m):F5 m (n:Int)=some n:=by unfold F5;rw[iP (),iP ()];rfl
def yz(h:fZ z=true):∃n:Nat,z=(n:Int)/\n<4:=by unfold fZ at h;rw[cz,decide_eq_true_eq,decide_eq_true_eq]at h;nomatch z.toNat,(),()
def Hk(W:jI C H bP ta f df wr ss y)(h:n<4):∃o,ss[n]? =some o/\(ss.map iF)[n]? =some (iF o)/\y.lines[n]? =some (y.line n)/\Bo o (y.line n):=by
 have hl:n<ss.length:=by rw[W.len];exact h
 have h1:ss[n]? =some ss[n]:=aX hl;have h2:y.lines[n]? =some (y.line n):=by unfold sY;rw[bK,aX (by rw[W.JP];exact h)];rfl
 nomatch ss[n],h1,by rw[bz,h1];rfl,h2,W.rel n _ _ h1 h2
def Vf:ux A3:=⟨#[],#[],#[],#[]⟩
def O0(S:fS){l:Nat}{hd st sn tk:aB}(h1:S.s=wd l hd st sn tk)(h2:S.st=A3)(h3:S.seen=[])(h4:S.held=[])(h5:S.ts=[]):ji S S.held Aq:=by obtain⟨a,s,Mb,seen,held,ts⟩:=S;dsimp only at h1 h2 h3 h4 h5;subst h1 h2 h3 h4 h5;nomatch⟨rfl,(λn z=>nomatch z),⟨rfl,nG⟩,rfl,rfl,rfl,rfl,rfl,rfl,rfl,rfl,rfl,rfl,rfl⟩,SS _,rfl
def zF:T.qY.D P w mg aR 3 (yy C .open_):=by
 refine T.qY.ok ?_;kd_p
 obtain⟨ta,z,bP,f,df,wr,ss,y,y1,a,rfl,W,he,k⟩:=h;exists _,(aa (bH (iH (dA (aI (uW T) (fN cC)))) (aj (aP (dN (fN (zN tG au))))) aZ) (aa (j8 (nj (FN T) (fN cC)) (j7 (aT b4 rfl) cC set_list)) (aj (aP (dN (fN au))))));obtain⟨dt,h1⟩:=W.at_;have he:(if fZ z=false then(some y,gh (-2))else(some (y.put z.toNat (some Aq)),gh 0))=(some y1,a):=he;exists I,z,rfl,I;cases hz:fZ z with
 |false=>rw[hz,iP rfl]at he;obtain⟨e1,rfl⟩:=di he;obtain rfl:=af e1;refine fI ?_;nomatch I,(by show 1<=aH;decide),λp hp=>k.same W (a_.refl H) hp
 |true=>
  rw[hz,iN #[]]at he;obtain⟨e1,rfl⟩:=di he;obtain rfl:=af e1;obtain⟨n,rfl,hn⟩:=yz hz;refine gY ?_;exists I;intro x dx hx CL sU;nomatch x,dx,n,rfl,ae,λH1 hd st sn tk q1 f1 d1 k1 t1 hhd kx hsn R9 n1 n2 n3 B1=>⟨rfl,?_⟩
  have s1:a_ H H1:=a_.made hx CL B1;have frH:∀c,upd (upd H dx (.own x)) x (.ins C.Session dx []) c=none->H c=none:=λc hc=>(j5 hx CL _ _).free hc;exists I,ta,C.Target,dt,_,I,s1 _ _ h1,T.fL,T.ff,f.jq,I,f.bT,_,_,n,rfl,rfl,s1 _ _ W.sl,(by rw[aK,W.len];exact Sy hn);have em:(ss.map iF).set n (V.ref x)=(ss.set n (some ⟨x,wd n hd st sn tk,A3,[],[],[]⟩)).map iF:=by rw[M_];rfl
  rw[em];nomatch(by show 1<=aH;decide),λp hp=>?_
  have Yz:p≠f.bT:=λz=>by rw[z,ae]at hp;cases hp
  rw[aG Yz]at hp;have B2:gU f.bT H1 (upd (upd H1 f.bT (.lst ((ss.set n (some ⟨x,wd n hd st sn tk,A3,[],[],[]⟩)).map iF))) p (.lst [V.int 0])):=((gU.refl _ H1).upd _).new (by rw[aG Yz];exact hp) _;have e2:upd (upd H1 f.bT (.lst ((ss.set n (some ⟨x,wd n hd st sn tk,A3,[],[],[]⟩)).map iF))) p (.lst [V.int 0]) f.bT=some (.lst ((ss.set n (some ⟨x,wd n hd st sn tk,A3,[],[],[]⟩)).map iF)):=by rw[aG (aL Yz)];exact ae
  have p2:upd (upd H1 f.bT (.lst ((ss.set n (some ⟨x,wd n hd st sn tk,A3,[],[],[]⟩)).map iF))) p (.lst [V.int 0]) p=some (.lst [V.int 0]):=ae;generalize upd (upd H1 f.bT (.lst ((ss.set n (some ⟨x,wd n hd st sn tk,A3,[],[],[]⟩)).map iF))) p (.lst [V.int 0])=H2 at B2 e2 p2;have BL:gH [f.bT] H1 H2:=λc o hc nc=>B2 c o hc λz=>nc (by rw[z];simp);have kf:=BL.iZ λa ha o u e=>by rw[aO.mp ha,s1 _ _ W.sl]at e;cases e
  have nl:∀{c o},H1 c=some o->(∀xs,o≠ .lst xs)->c≠f.bT:=fun{c o} hc sU=>bV hc (s1 _ _ W.sl) (sU _);have D1:=W.dk.same s1;obtain⟨dd,g1⟩:=D1.at_;have nxs:x≠st:=bV q1 d1 nofun;have nxn:x≠sn:=bV q1 k1 nofun;have nxt:x≠tk:=bV q1 t1 nofun;have VB:∀c o,H c=some o->(if c=x then kT.own n .uq else if c=st then .own n .set else if c=sn then .own n .seen else if c=tk then .own n .tasks else bP c)=bP c:=λc o hc=>by rw[iN (ai hc hx),iN (ai hc (frH _ kx)),iN (ai hc (frH _ hsn)),iN (ai hc (frH _ R9))]
  refine k H2 p (λc=>if c=x then kT.own n .uq else if c=st then .own n .set else if c=sn then .own n .seen else if c=tk then .own n .tasks else bP c) f df wr (ss.set n (some ⟨x,wd n hd st sn tk,A3,[],[],[]⟩)) (s1.free hp) p2 ?_ (λc o hc _ n2=>B2 c o (s1 _ _ hc) n2) (.inl rfl) (λc o hc e=>(VB c o hc).trans e);nomatch⟨dt,B2 _ _ (s1 _ _ h1) (nl (s1 _ _ h1) (by intro xs z;cases z))⟩,e2,(VB _ _ W.sl).trans W.ls,by rw[br];exact W.len,D1.pD BL kf (by rw[aO];exact nl g1 (by intro xs z;cases z)) (by rw[aO];exact nl D1.rh (by intro xs z;cases z)),W.od,λj S hS=>?_,W.disk,by show(y.lines.set n _).length=4;rw[br];exact W.JP,λj o x' g1 g2=>?_
  .rw[bC]at hS;by_cases hj:n=j
   .subst hj;rw[iP rfl,iP (by rw[W.len];exact hn)]at hS;obtain rfl:=af (af hS);nomatch⟨⟨dx,B2 _ _ q1 (nl q1 (by intro xs z;cases z))⟩,B2 _ _ d1 (nl d1 (by intro xs z;cases z)),B2 _ _ k1 (nl k1 (by intro xs z;cases z)),B2 _ _ t1 (nl t1 (by intro xs z;cases z)),kf.gm f1,(λt ht=>nomatch ht),nG,by show 0<=8;decide,iP rfl,?_,?_,?_,Vf,by show 0<=64;decide,by show 0<4294967295;decide,by show 0<4294967296;decide,by show 1<4294967296;decide⟩,rfl,rfl,by show 0<=9000;decide,λz hz=>nomatch hz
    .show(if st=x then kT.own n .uq else if st=st then kT.own n .set else _)=_;rw[iN (aL nxs),iP rfl]
    .show(if sn=x then kT.own n .uq else if sn=st then kT.own n .set else if sn=sn then kT.own n .seen else _)=_;rw[iN (aL nxn),iN (aL n1),iP rfl]
    .show(if tk=x then kT.own n .uq else if tk=st then kT.own n .set else if tk=sn then kT.own n .seen else if tk=tk then kT.own n .tasks else _)=_;rw[iN (aL nxt),iN (aL n2),iN (aL n3),iP rfl]
   .rw[iN hj]at hS;obtain⟨RS,r2⟩:=W.se j S hS;nomatch RS.keeps (λc o hc⟨kk,hk⟩=>⟨B2 c o (s1 _ _ hc) ?_,VB c o hc⟩) (λb o u e=>kf b o u (s1 _ _ e)),r2
    exact c_ hk W.ls nofun
  .rw[bC]at g1;have g2:(y.lines.set n (some Aq))[j]? =some x':=g2;rw[bC]at g2;by_cases hj:n=j
   .subst hj;rw[iP rfl,iP (by rw[W.len];exact hn)]at g1;rw[iP rfl,iP (by rw[W.JP];exact hn)]at g2;obtain rfl:=af g1;obtain rfl:=af g2;exact O0 _ rfl rfl rfl rfl rfl
   .rw[iN hj]at g1 g2;exact W.rel j o x' g1 g2
def wR:T.pj.D P w mg aR 3 (yy C .closed):=by
 refine T.pj.ok ?_;kd_p
 obtain⟨ta,z,bP,f,df,wr,ss,y,y1,a,rfl,W,he,k⟩:=h;exists _,(aa (bH (iH (dA (aI (uW T) (fN cC)))) (aj (aP (dN (fN (zN tG au))))) aZ) (aj (aP (dN (fN (kC (i_ (mX (fE cX (aT b4 rfl) cC (λ_ _=>rfl)))) au au))))));obtain⟨dt,h1⟩:=W.at_;have he:(some y,gh (if fZ z=false then -2 else if(y.line z.toNat).isNone=true then 1 else 0))=(some y1,a):=he;obtain⟨e1,rfl⟩:=di he;obtain rfl:=af e1;exists I,z,rfl,I;cases hz:fZ z with
 |false=>rw[hz,iP rfl]at k;refine fI ?_;nomatch I,(by show 1<=aH;decide),λp hp=>k.same W (a_.refl H) hp
 |true=>
  rw[hz,iN #[]]at k;obtain⟨n,rfl,hn⟩:=yz hz;obtain⟨o,g1,g2,_,g4⟩:=Hk W hn;refine gY ?_;exists I,ta,C.Target,dt,_,I,h1,T.fL,T.ff,f.jq,I,f.bT,_,J,fT.of W.sl,cM g2,I;cases o with
  |none=>
   have e:y.line n=none:=by
    cases q:y.line n with
    |none=>rfl
    |some x=>rw[q]at g4;exact g4.elim
   rw[show((n:Nat):Int).toNat=n from rfl,e]at k;refine fI ?_;nomatch(by show 1<=aH;decide),λp hp=>k.same W (a_.refl H) hp
  |some S=>
   obtain⟨x,e⟩:∃x,y.line n=some x:=by
    cases q:y.line n with
    |some x=>nomatch x,rfl
    |none=>rw[q]at g4;exact g4.elim
   rw[show((n:Nat):Int).toNat=n from rfl,e]at k;refine gY ?_;nomatch(by show 1<=aH;decide),λp hp=>k.same W (a_.refl H) hp
def yA:T.p9.D P w mg aR 3 (yy C .tasks):=by
 refine T.p9.ok ?_;kd_p
 obtain⟨ta,z,bP,f,df,wr,ss,y,y1,a,rfl,W,he,k⟩:=h;exists _,(aa (bH (iH (dA (aI (uW T) (fN cC)))) (aj (aP (dN (fN (zN tG au))))) aZ) (aa (bH (i_ (mX (fE cX (aT b4 rfl) cC (λ_ _=>rfl)))) (aj (aP (dN (fN (zN tG au))))) aZ) (aj (aP (dN (fN (bZ za (by rfl) T.gT fQ (fN (aT (fE cX (aT b4 rfl) cC (λ_ _=>rfl)) rfl)))))))));obtain⟨dt,h1⟩:=W.at_;have he:(some y,gh (if fZ z=false then -2 else match y.line z.toNat with|none=> -9|some s=>(s.tasks.length:Nat)))=(some y1,a):=he
 obtain⟨e1,rfl⟩:=di he;obtain rfl:=af e1;exists I,z,rfl,I;cases hz:fZ z with
 |false=>rw[hz,iP rfl]at k;refine fI ?_;nomatch I,(by show 1<=aH;decide),λp hp=>k.same W (a_.refl H) hp
 |true=>
  rw[hz,iN #[]]at k;obtain⟨n,rfl,hn⟩:=yz hz;obtain⟨o,g1,g2,_,g4⟩:=Hk W hn;refine gY ?_;exists I,ta,C.Target,dt,_,I,h1,T.fL,T.ff,f.jq,I,f.bT,_,J,fT.of W.sl,cM g2,I;cases o with
  |none=>
   have e:y.line n=none:=by
    cases q:y.line n with
    |none=>rfl
    |some x=>rw[q]at g4;exact g4.elim
   rw[show((n:Nat):Int).toNat=n from rfl,e]at k;refine fI ?_;nomatch I,(by show 1<=aH;decide),λp hp=>k.same W (a_.refl H) hp
  |some S=>
   obtain⟨x,e⟩:∃x,y.line n=some x:=by
    cases q:y.line n with
    |some x=>nomatch x,rfl
    |none=>rw[q]at g4;exact g4.elim
   rw[e]at g4;have g4:ji S S.held x:=g4;have el:x.tasks.length=S.ts.length:=by rw[g4.tasks.length_eq,aK]
   rw[show((n:Nat):Int).toNat=n from rfl,e]at k;obtain⟨RS,_⟩:=W.se n S g1;obtain⟨dy,q1⟩:=RS.at_;refine gY ?_;nomatch I,ta,C.Target,dt,_,I,h1,T.fL,T.ff,f.jq,I,f.bT,_,J,fT.of W.sl,cM g2,S.a,C.Session,dy,_,I,q1,T.aF,T.dR,S.s.mr,S.s.cD,I,RS.ij,(by show 1<=aH;decide),λp hp=>?_
   have e3:(cp S.ts).length=x.tasks.length:=by unfold cp;rw[aK,el]
   rw[e3];exact k.same W (a_.refl H) hp
def yB:T.p_.D P w mg aR 3 (yy C .block):=by
 refine T.p_.ok ?_;kd_p
 obtain⟨ta,z,bP,f,df,wr,ss,y,y1,a,rfl,W,he,k⟩:=h;exists _,(aa (bH (iH (xk zO tH au cC (aU T.Ck))) (aj (aP (dN (fN (zN tG au))))) aZ) (aa (cJ 2 nd (fG (pA T) T.mi (aT b4 rfl) (i5 cC au))) (aj (aP (bO oS (dN (fN au)) (fE cX fF au (λ_ _=>rfl)))))));obtain⟨dt,h1⟩:=W.at_;have he:(some y,if z<0\/(o6:Int)<=z then gh (-2)else⟨0,jS y.disk z.toNat 1⟩)=(some y1,a):=he;obtain⟨e1,rfl⟩:=di he;obtain rfl:=af e1;have no:z<0\/(2048:Int)<=z->∀p,H p=none->Q (.ref p) (upd H p (.lst [V.int (-2)])):=λhn p hp=>by rw[iP (show z<0\/(o6:Int)<=z from hn)]at k;exact k.same W (a_.refl H) hp
 exists I,J,I;refine gG (λz0=>?_) (λz0=>?_);rotate_left
 .have z0:¬(0:Int)<=z:=z0;nomatch I,fI ⟨_,rfl,(by show 1<=aH;decide),λp hp=>no (.inl ()) p hp⟩
 have z0:(0:Int)<=z:=z0;exists J,I;cases hz:decide (z<2048)with
 |false=>have hz:=of_decide_eq_false hz;exact fI ⟨_,rfl,(by show 1<=aH;decide),λp hp=>no (.inr ()) p hp⟩
 |true=>
  have hz:=of_decide_eq_true hz;refine gY ?_;obtain⟨n,rfl⟩:∃n:Nat,z=(n:Int):=⟨z.toNat,()⟩;have hn:n<2048:=();rw[iN (show ¬(((n:Nat):Int)<0\/(o6:Int)<=((n:Nat):Int))from λh=>by rcases h with h|h;lia;exact absurd (show(2048:Int)<=((n:Nat):Int)from h) ())]at k
  obtain⟨dd,g1⟩:=W.dk.at_;nomatch I,ta,C.Target,dt,_,I,h1,T.fL,T.mj,f.CF,f.disk,dd,I,g1,rfl,I,f.disk,df,wr,n,1,rfl,W.dk,(),#[],λH1 p hp hR s1=>?_
  obtain⟨as,r1,r2,r3⟩:=hR;have r2:as.length=1:=r2;obtain⟨c,rfl⟩:∃c,as=[c]:=by
   match as,r2 with
   | [c],_=>nomatch c,rfl
  have fc:fK H1 c (nV (nS wr n)):=r3 0 c _ rfl rfl;have hl:(nS wr n).length=512:=uN (λx hx=>(W.dk.row x hx).1) n;nomatch(by show 1<=aH;decide),λp1 rD=>?_
  have s2:=aS (a_.refl H1) rD (.lst [V.int 0]);nomatch I,p,_,J,(fK.same r1 s2).sq,cM (j:=0) rfl,p1,c,J,.inl ae,(fK.same fc s2).rd,(by rw[bA,hl,sizeLine_eq];decide),λp2 v_=>?_
  have e:JQ ⟨0,jS y.disk n 1⟩=[V.int 0]++nV (nS wr n):=by have:=Ft (wr:=wr) (λx hx=>(W.dk.row x hx).1) n 1;rw[W.disk,<-this];show V.int 0::nV _=V.int 0::nV _;congr 2;show[nS wr (n+0)].flatten=_;rw[qE];exact eT _
  have k:Goes C H bP ta f Q (JQ ⟨0,jS y.disk n 1⟩) y:=k;rw[e]at k;exact k.same W (s1.trans s2) v_
inductive Hl(C:Cl)(vs:List V)(H:Hp)(Q:VK)(kn:XK):Prop
 |mk(t dx d sl a:aB)(n most:Nat)(xs:List V)(_:vs=[.ref t,.ref d,.ref sl,.int n,.int most])(_:H t=some (.ins C.Turn dx []))(_:H sl=some (.lst xs))(_:xs[n]? =some (.ref a))(_:∀H' sn,H' t=some (.ins C.Turn dx (jg.fs ⟨d,sl,a,most,sn⟩))->H' sn=some (.lst [])->H sn=none->gU t H H'->Q .eY H')
def YA:T.z7.D P w aR 1 (Hl C):=by
 refine T.z7.ok ?_;kd_p
 obtain⟨t,dx,d,sl,a,n,most,xs,rfl,h1,h2,h3,k⟩:=h;exists _,(aa (ck b4 cC rfl) (aa (ck b4 fF rfl) (aa (ck b4 (fE cX fF gQ (λ_ _=>rfl)) rfl) (aa (ck b4 kS rfl) (aj (ck b4 (dN jk) rfl))))));have Rc:sl≠t:=bV h2 h1 nofun;exists I,I,t,C.Turn,dx,I,h1,T.cy,T.rP,(by show 0<1000;decide);exists I,I,t,C.Turn,dx,I,ae,T.cy,T.mZ,(by show 1<1000;decide);rw[bS];exists I,I,sl,_,J,fT.of (by rw[aG Rc];exact h2),cM h3,I,t,C.Turn,dx,I,ae,T.cy,T.bX,(by show 2<1000;decide);rw[bS];exists I,I,t,C.Turn,dx,I,ae,T.cy,T.xT,(by show 3<1000;decide);rw[bS];refine Dx (λH'=>gU t H H'/\H' t=some (.ins C.Turn dx [("disk",.ref d),("sessions",.ref sl),("session",.ref a),("most",.int most)])) ⟨(gU.refl t H).upd _,ae⟩ ?_;rintro H1 ⟨B1,e1⟩;nomatch bQ _,λsn Te=>?_
 have n1:t≠sn:=ai e1 Te;exists I,t,C.Turn,dx,I,(by rw[aG n1];exact e1),T.cy,T.kL,(by show 4<1000;decide);exact k _ sn (ae.trans rfl) (by rw[aG (aL n1)];exact ae) (B1.free Te (aL n1)) ((B1.new Te _).upd _)
def Wh:Option fS->Option fS->Prop
 |none,none=>True
 |some S,some S'=>Ak S S'
 |_,_=>False
inductive JS(C:Cl)(vs:List V)(H:Hp)(Q:VK)(kn:XK):Prop
 |mk(ta:aB)(n most:Nat)(bP:aB->kT)(f:iS)(df:jt)(wr:List sH)(ss:List (Option fS))(S:fS)(y:eC)(_:vs=[.ref ta,.int n,.int most])(_:jI C H bP ta f df wr ss y)(_:ss[n]? =some (some S))(_:most<=4194304)(_:∀(H':Hp)(cQ:aB->kT)(tr:aB)(A:Act)(jC:List (Option fS)),j1 C H' cQ n tr A jC->ly A jC n y->A.f.most=most->A.sb=[]->Ak S A.S->H A.f.bT=none->(∀c o,H c=some o->cQ c= .mC)->a_ H H'->Q (.ref tr) H')
inductive F4I(C:Cl)(H:Hp)(D:aB)(ss:List (Option fS))(i:Nat)(H':Hp):Prop
 |mk(jC:List (Option fS))(cQ:aB->kT)(_:H' D=some (.lst (jC.map iF)))(_:jC.length=i)(_:(∀(j:Nat) S',jC[j]? =some (some S')->lj C H' cQ j S'))(_:(∀(j:Nat) o o',ss[j]? =some o->jC[j]? =some o'->Wh o o'))(_:(∀c o,H c=some o->cQ c= .mC))(_:cQ D= .mC)(_:a_ H H')
def yC:T.qb.D P w mg aR 7 (JS C):=by
 refine T.qb.ok ?_;kd_p
 obtain⟨ta,n,most,bP,f,df,wr,ss,S,y,rfl,W,hS,hm,k⟩:=h;exists _,(aa (HX (i:=3) (own:=[("session",4)]) rfl nd rfl rfl rfl (kI (aT b4 rfl)) (show vt ["self","line","most","sessions","session"] (cW xB) _ _ from⟨rfl,by decide+kernel,by decide+kernel,by decide+kernel,by decide+kernel⟩) (λs H C cl fp=>Cc 4 nd) (λs H C cl fp=>uK) (te:=tIf (tB (ZE (jU 4))) (tC .eY) (EU C.Session "twin" (sN C) [] E0 (jU 4) kK)) (λs H C' cl fp=>kC (i_ (mX kS)) jz (b_ (Dz T) T.aF kS))) (aj (aP (nj (YA T) (va (b_ (Jf T) T.mi (aT b4 rfl)) gQ cC fF)))));obtain⟨dt,h1⟩:=W.at_;nomatch I,ta,C.Target,dt,_,I,h1,T.fL,T.ff,f.jq,f.bT,rfl,⟨_,fT.of W.sl⟩,λD hD=>A_ (K:=K) (a:=f.bT) (xs:=ss.map iF) (F4I C H D ss) ⟨[],(λ_=>.mC),ae,rfl,(λj S' h=>nomatch h),(λj o o' _ h=>nomatch h),(λ_ _ _=>rfl),rfl,aS (a_.refl H) hD _⟩ (λi H' _⟨_,_,_,_,_,_,_,_,g⟩=>fT.of (g _ _ W.sl)) ?_ ?_
 .rintro i v H' hi ⟨jC,cQ,g1,g2,g3,g4,g5,g6,g7⟩;rw[bz]at hi;cases eo:ss[i]? with
  |none=>rw[eo]at hi;cases hi
  |some o=>
   rw[eo]at hi;obtain rfl:=(af hi).symm;have hi4:i<4:=by rw[<-W.len];exact(aE.mp eo).1
   have hz:(jC.map iF).length<aH:=by rw[aK,g2,sizeLine_eq];lia
   exists rfl;unfold Nt;refine fI ?_;have fin:∀(H2:Hp)(ks:aB->kT)(o':Option fS),a_ H' H2->(∀c u,H' c=some u->ks c=cQ c)->Wh o o'->(∀S',o'=some S'->lj C H2 ks i S')->∃acc,H2 D=some (.lst acc)/\acc.length<aH/\F4I C H D ss (i+1) (upd H2 D (.lst (acc++[iF o']))):=λH2 ks o' s2 tS hw hR=>by
    have lD:ks D= .mC:=(tS _ _ g1).trans g6;have B:gU D H2 (upd H2 D (.lst (jC.map iF++[iF o']))):=(gU.refl _ H2).upd _;have kf:js H2 (upd H2 D (.lst (jC.map iF++[iF o']))):=λb o u e=>B _ _ e (bV e (s2 _ _ g1) nofun);nomatch _,s2 _ _ g1,hz,jC++[o'],ks,ae.trans (by rw[bW];rfl),by rw[az,g2];rfl,λj S' hj=>?_,λj o1 o2 h1 h2=>?_,λc u hc=>(tS _ _ (g7 _ _ hc)).trans (g5 c u hc),lD,λc u hc=>by rw[aG (ai hc hD)];exact s2 _ _ (g7 _ _ hc)
    .by_cases hji:j<jC.length
     .rw[ft hji]at hj;refine(g3 j S' hj).keeps (λc u hc⟨kk,hk⟩=>⟨B _ _ (s2 _ _ hc) (c_ hk g6 nofun),tS _ _ hc⟩) (λb u x e=>kf _ _ _ (s2 _ _ e))
     .rw[fX ()]at hj;have e0:j-jC.length=0:=by
       cases q:j-jC.length with
       |zero=>rfl
       |succ m=>rw[q]at hj;cases hj
      rw[e0]at hj;have hj:o'=some S':=af hj;obtain rfl:j=i:=();exact(hR S' hj).keeps (λc u hc⟨kk,hk⟩=>⟨B _ _ hc (c_ hk lD nofun),rfl⟩) kf
    .by_cases hji:j<jC.length
     .rw[ft hji]at h2;exact g4 j o1 o2 h1 h2
     .rw[fX ()]at h2;have e0:j-jC.length=0:=by
       cases q:j-jC.length with
       |zero=>rfl
       |succ m=>rw[q]at h2;cases h2
      rw[e0]at h2;have h2:o'=o2:=af h2;obtain rfl:j=i:=();rw[eo]at h1;obtain rfl:=af h1;rw[<-h2];exact hw
   exists I,I;cases o with
   |none=>refine fI ?_;exact fin H' cQ none (a_.refl H') (λ_ _ _=>rfl) trivial (λ_ z=>nomatch z)
   |some S1=>refine gY ?_;have R1:=((W.se i S1 eo).1).same g7;obtain⟨dy,q1⟩:=R1.at_;nomatch I,S1.a,dy,I,q1,rfl,bP,cQ,i,S1,rfl,R1,λH2 S2 ks ha R2 TW tS s2=>fin H2 ks (some S2) s2 tS TW (λS' e=>by obtain rfl:=af e;exact R2)
 .rintro H1 ⟨jC,cQ,g1,g2,g3,g4,g5,g6,g7⟩;rw[aK,W.len]at g2;have hDH:H D=none:=hD;obtain⟨dd,q1⟩:=W.dk.at_;nomatch I,ta,C.Target,dt,_,I,g7 _ _ h1,T.fL,T.mj,f.CF,f.disk,dd,I,g7 _ _ q1,rfl,f.disk,df,wr,rfl,W.dk.same g7,λH2 pd Tf hpd hwd DR s2=>⟨_,rfl,_,rfl,_,rfl,?_⟩
  intro tr dx Zk CL sU;have s3:=j5 Zk CL (.own tr) (.ins C.Turn dx []);have hn4:n<4:=by rw[<-W.len];exact(aE.mp hS).1
  obtain⟨S',eS'⟩:∃S',jC[n]? =some (some S'):=by
   have afk:n<jC.length:=();have e:=aX afk;have:=g4 n _ _ hS e;cases q:jC[n]with
   |none=>rw[q]at this;exact this.elim
   |some S'=>nomatch S',by rw[e,q]
  have TW:Ak S S':=g4 n _ _ hS eS';have gD3:upd (upd H2 dx (.own tr)) tr (.ins C.Turn dx []) D=some (.lst (jC.map iF)):=s3 _ _ (s2 _ _ g1);nomatch tr,dx,pd,D,S'.a,n,most,jC.map iF,rfl,ae,gD3,by rw[bz,eS'];rfl,λH4 sn e4 f4 hsn B4=>⟨rfl,?_⟩
  have s4:a_ H2 H4:=a_.made Zk CL B4;have Zh:a_ H1 H4:=s2.trans s4;have OL:H2 sn=none:=s3.free hsn;have DR4:=DR.same s4;obtain⟨dp,qd⟩:=DR.at_;have n1:tr≠sn:=bV e4 f4 nofun;have n2:Tf.written≠sn:=ai DR.rh OL;have n3:pd≠sn:=ai qd OL;have n4:tr≠Tf.written:=aL (ai DR.rh Zk);have n5:pd≠Tf.written:=bV qd DR.rh nofun;have hl3:∀c o,H1 c=some o->(if c=sn then kT.eZ else if c=Tf.written then .rh else if c=tr\/c=pd then .mC else cQ c)=cQ c:=λc o hc=>by rw[iN (ai (s2 _ _ hc) OL),iN (ai hc hwd),iN (by rintro(z|z);exact ai (s2 _ _ hc) Zk z;exact ai hc hpd z)]
  have UO:∀{j S1},jC[j]? =some (some S1)->lj C H4 (λc=>if c=sn then kT.eZ else if c=Tf.written then .rh else if c=tr\/c=pd then .mC else cQ c) j S1:=fun{j S1} h=>(g3 j S1 h).keeps (λc o hc _=>⟨Zh _ _ hc,hl3 c o hc⟩) (λb o u e=>Zh _ _ e);have eln:∀{j S0 S1},ss[j]? =some (some S0)->Ak S0 S1->S1.s.closed=false/\S1.s.line=j:=fun{j S0 S1} h tw=>by obtain⟨_,c1,c2,_⟩:=W.se j S0 h;rw[tw.s];nomatch c1,c2
  refine k H4 (λc=>if c=sn then kT.eZ else if c=Tf.written then .rh else if c=tr\/c=pd then .mC else cQ c) tr ⟨⟨pd,D,S'.a,most,sn⟩,Tf,wr,S',[]⟩ jC ⟨⟨⟨dx,e4⟩,?_,f4,iP rfl,hm,bQ _,DR4,?_,?_,W.od,UO eS',rfl⟩,Zh _ _ g1,(hl3 _ _ g1).trans g6,eS',(eln hS TW).2,λj S1 hj h=>?_⟩ ⟨W.disk,by rw[W.JP,g2],λj o x hj h1 h2=>?_⟩ rfl rfl TW hDH (λc o hc=>(hl3 c o (g7 _ _ hc)).trans (g5 c o hc)) (g7.trans Zh)
  .show(if tr=sn then _ else _)=_;rw[iN n1,iN n4,iP (.inl rfl)]
  .show(if pd=sn then _ else _)=_;rw[iN n3,iN n5,iP (.inr rfl)]
  .show(if Tf.written=sn then _ else _)=_;rw[iN n2,iP rfl]
  .have Zt:j<4:=by rw[<-g2];exact(aE.mp h).1
   have hjs:j<ss.length:=by rw[W.len];exact Zt
   have e:=aX hjs;have tw:=g4 j _ _ e h;cases q:ss[j]with
   |none=>rw[q]at tw;exact tw.elim
   |some S0=>rw[q]at tw e;nomatch UO h,(eln e tw).1,(eln e tw).2
  .have Zt:j<4:=by rw[<-g2];exact(aE.mp h1).1
   have hjs:j<ss.length:=by rw[W.len];exact Zt
   have e:=aX hjs;have tw:=g4 j _ _ e h1;have rl:=W.rel j _ _ e h2;cases q:ss[j]with
   |none=>
    rw[q]at tw rl;cases o with
    |none=>exact rl
    |some S1=>exact tw.elim
   |some S0=>
    rw[q]at tw rl;cases o with
    |none=>exact tw.elim
    |some S1=>
     cases x with
     |none=>exact rl.elim
     |some x=>exact Ak.rel tw rl
inductive Vg(C:Cl)(vs:List V)(H:Hp)(Q:VK)(kn:XK):Prop
 |mk(ta tr dx dy dz:aB)(f:iS)(tf:jg)(s:aV)(n:Nat)(xs:List V)(_:vs=[.ref ta,.ref tr,.int n])(_:H ta=some (.ins C.Target dx f.fs))(_:H tr=some (.ins C.Turn dy tf.fs))(_:H tf.aW=some (.ins C.Session dz s.fs))(_:H tf.bT=some (.lst xs))(_:n<xs.length)(_:∀H',H' ta=some (.ins C.Target dx (iS.fs ⟨tf.disk,tf.bT⟩))->H' tf.bT=some (.lst (if s.closed=true then xs.set n .eY else xs))->(∀c o,H c=some o->c≠ta->c≠tf.bT->H' c=some o)->Q .eY H')
def M4(T:Txt P w K mg C):C.Turn≠C.Target:=by have:=T.VZ;simp only[cU,ak,not_or]at this;exact this.2.2.2.1.2.1
def Vh(T:Txt P w K mg C):C.Session≠C.Target:=by have:=T.VZ;simp only[cU,ak,not_or]at this;exact this.2.2.1.2.2.1
def Vi(T:Txt P w K mg C):C.Disk≠C.Target:=by have:=T.VZ;simp only[cU,ak,not_or]at this;exact this.1.2.2.2.2.1
def EL:T.vS.D P w mg aR 1 (Vg C):=by
 refine T.vS.ok ?_;kd_p
 obtain⟨ta,tr,dx,dy,dz,f,tf,s,n,xs,rfl,h1,h2,h3,h4,hn,k⟩:=h;exists _,(aa (ck b4 (aT cC rfl) rfl) (aa (ck b4 (aT cC rfl) rfl) (aj (bH (dA (aT (aT cC rfl) rfl)) (aj (j8 jz (j7 (aT b4 rfl) fF set_list))) aZ))));have n1:tr≠ta:=ox h2 h1 (M4 T);have n2:tf.aW≠ta:=ox h3 h1 (Vh T);have n3:tf.bT≠ta:=bV h4 h1 nofun;exists I,tr,C.Turn,dy,_,I,h2,T.cy,T.rP,tf.CF,I,ta,C.Target,dx,I,h1,T.fL,T.mj,iS.len _;rw[iS.XC];exists I,tr,C.Turn,dy,_,I,(by rw[aG n1];exact h2),T.cy,T.mZ,tf.jq,I,ta,C.Target,dx,I,ae,T.fL,T.ff,iS.len _;rw[iS.K7,bS];exists I,tr,C.Turn,dy,_,I,(by rw[aG n1];exact h2),T.cy,T.bX,tf.eA,tf.aW,C.Session,dz,_,I,(by rw[aG n2];exact h3),T.aF,T.iu,s.Cz,I;refine gM (λc=>?_) (λc=>?_)
 .have c:s.closed=true:=c;exists I,ta,C.Target,dx,_,I,ae,T.fL,T.ff,iS.jq _,I,tf.bT,xs,_,n,rfl,rfl,(by rw[aG n3];exact h4),Sy hn;refine k _ (by rw[aG (aL n3)];exact ae) (by rw[iP c];exact ae) λc o hc nc1 nc2=>?_;rw[aG nc2,aG nc1];exact hc
 .have c:s.closed=false:=c;refine k _ ae (by rw[iN (by rw[c];decide),aG n3];exact h4) λc o hc nc1 nc2=>?_;rw[aG nc1];exact hc
def Sz(y:eC)(i:Nat)(x:aJ)(h b:List Nat):(gK y i x h b).1.lines.length=y.lines.length:=by
 by_cases e5:h.getD 0 0%64=5
 .rw[Lu e5];exact br
 by_cases e:h.getD 0 0%64=0\/h.getD 0 0%64=1\/h.getD 0 0%64=2\/h.getD 0 0%64=6;rotate_left
 .rw[Lz e e5];exact br
 by_cases hp:decide (64<=h.getD 0 0)=false/\ax h 24 4≠x.cmd
 .rw[zB e hp];exact br
 rcases e with e|e|e|e
 .rw[Lv e hp];exact br
 .rw[Lw e hp];exact br
 .rw[Lx e hp];unfold AQ;split
  .show((y.lines.map _).set i _).length=_;rw[br,aK]
  .exact br
 .rw[Ly e hp];exact br
def SA(y:eC)(i:Nat)(x:aJ)(h b:List Nat):(pF y i x h b).1.lines.length=y.lines.length:=by
 unfold pF;split
 .exact Sz y i x h b
 .exact br
theorem JT(i:Nat):∀(f:Nat)(y:eC),(gA f y i).1.lines.length=y.lines.length
 |0,y=>rfl
 |f+1,y=>by
  cases hx:y.line i with
  |none=>rw[zE hx]
  |some x=>
   cases e:iE x with
   |none=>rw[uV hx e]
   |some o=>
    cases o with
    |none=>rw[wQ hx e];exact br
    |some q=>obtain⟨h,b,r⟩:=q;rw[Hi hx e];exact(JT i f _).trans (SA y i _ h b)
def Vj(W:jI C H bP ta f df wr ss y)(O:i7 n y y')(hj:j≠n)(hx:y'.lines[j]? =some (some x)):x.buf.length<=9000/\fU x.buf:=by
 obtain⟨x0,h0,e0⟩:=O j x hj hx;have Zt:j<4:=by rw[<-W.JP];exact(aE.mp h0).1
 have hjs:j<ss.length:=by rw[W.len];exact Zt
 have e:=aX hjs;have rl:=W.rel j _ _ e h0;cases q:ss[j]with
 |none=>rw[q]at rl;exact rl.elim
 |some S0=>rw[q]at rl e;obtain⟨_,_,_,c1,c2⟩:=W.se j S0 e;have rl:ji S0 S0.held x0:=rl;rw[e0,rl.rY];nomatch c1,c2
def M5{y:eC}{n:Nat}(h:n<y.lines.length):y.lines[n]? =some (y.line n):=by unfold sY;rw[bK,aX h];rfl
def jI.turn(W:jI C H bP ta f df wr ss y)(nc:C.Disk≠C.Target)(W2:j1 C H2 ks n tr A2 J9)(YB:ly A2 J9 n r)(O:i7 n y r)(hl:r.lines.length=4) (m2:match r.line n with|some x=>A2.S.s.closed=false/\ji A2.S A2.S.held x/\A2.S.held.length<=9000/\fU A2.S.held|none=>A2.S.s.closed=true) (yM:H2 ta=some (.ins C.Target dt f.fs)) (lta:ks ta= .mC) (k1:H3 ta=some (.ins C.Target dt (iS.fs ⟨A2.f.disk,A2.f.bT⟩))) (k2:H3 A2.f.bT=some (.lst (if A2.S.s.closed=true then(J9.map iF).set n .eY else J9.map iF))) (k3:∀c o,H2 c=some o->c≠ta->c≠A2.f.bT->H3 c=some o): jI C H3 ks ta ⟨A2.f.disk,A2.f.bT⟩ A2.df A2.wr (if A2.S.s.closed=true then J9.set n none else J9) r:=by
 have tS:J9.length=4:=by rw[<-YB.len];exact hl
 have hn:n<4:=by rw[<-tS];exact(aE.mp W2.me).1
 have BL:gH [ta,A2.f.bT] H2 H3:=λc o hc nc=>k3 c o hc (λz=>nc (by rw[z];simp)) (λz=>nc (by rw[z];simp));have kf:=BL.iZ λa ha o u e=>by
  simp only[ak,ao,or_false]at ha;rcases ha with rfl|rfl
  .rw[yM]at e;cases e
  .rw[W2.sl]at e;cases e
 obtain⟨dd,g1⟩:=W2.act.dk.at_;have kp:∀{j S},lj C H2 ks j S->lj C H3 ks j S:=fun{j S} RS=>RS.keeps (λc o hc⟨kk,hk⟩=>⟨k3 c o hc (c_ hk lta nofun) (c_ hk W2.RP nofun),rfl⟩) kf;have mC:∀(j:Nat) S,j≠n->J9[j]? =some (some S)->lj C H3 ks j S/\S.s.closed=false/\S.s.line=j/\S.held.length<=9000/\fU S.held:=λj S hj hS=>by
  obtain⟨RS,c1,c2⟩:=W2.mC j S hj hS;have Zt:j<4:=by rw[<-tS];exact(aE.mp hS).1
  have hx:=M5 (y:=r) (n:=j) ();have rl:=YB.mC j _ _ hj hS hx;cases q:r.line j with
  |none=>rw[q]at rl;exact rl.elim
  |some x=>rw[q]at rl hx;have rl:ji S S.held x:=rl;have:=Vj W O hj hx;rw[rl.rY]at this;nomatch kp RS,c1,c2,this.1,this.2
 have rln:=M5 (y:=r) (n:=n) ();have aR:∀(Zu:List (Option fS)),Zu.length=4->H3 A2.f.bT=some (.lst (Zu.map iF))->(∀(j:Nat) S,Zu[j]? =some (some S)->lj C H3 ks j S/\S.s.closed=false/\S.s.line=j/\S.held.length<=9000/\fU S.held)->(∀(j:Nat) o x,Zu[j]? =some o->r.lines[j]? =some x->Bo o x)->jI C H3 ks ta ⟨A2.f.disk,A2.f.bT⟩ A2.df A2.wr Zu r:=λZu h1 h2 h3 h4=>⟨⟨dt,k1⟩,h2,W2.RP,h1,W2.act.dk.pD BL kf (by simp only[ak,ao,or_false,not_or];nomatch ox g1 yM nc,bV g1 W2.sl nofun) (by simp only[ak,ao,or_false,not_or];nomatch bV W2.act.dk.rh yM nofun,bV W2.act.dk.rh W2.sl nofun),W2.act.od,h3,YB.disk,hl,h4⟩;cases hc:A2.S.s.closed with
 |true=>
  rw[hc,iP rfl]at k2;rw[iP rfl];have eL:r.line n=none:=by
   cases q:r.line n with
   |none=>rfl
   |some x=>rw[q]at m2;rw[hc]at m2;cases m2.1
  refine aR _ (by rw[br];exact tS) (by rw[k2,M_];rfl) (λj S hS=>?_) (λj o x h1 h2=>?_)
  .rw[bC]at hS;by_cases hj:n=j
   .rw[iP hj]at hS;split at hS<;>cases hS
   .rw[iN hj]at hS;exact mC j S (aL hj) hS
  .rw[bC]at h1;by_cases hj:n=j
   .subst hj;rw[iP rfl,iP ()]at h1;rw[rln,eL]at h2;obtain rfl:=af h1;obtain rfl:=af h2;trivial
   .rw[iN hj]at h1;exact YB.mC j o x (aL hj) h1 h2
 |false=>
  rw[hc,iN #[]]at k2;rw[iN #[]];obtain⟨x,eL⟩:∃x,r.line n=some x:=by
   cases q:r.line n with
   |some x=>nomatch x,rfl
   |none=>rw[q]at m2;rw[hc]at m2;cases m2
  rw[eL]at m2 rln;obtain⟨_,c2,c3,c4⟩:=m2;refine aR _ tS k2 (λj S hS=>?_) (λj o x' h1 h2=>?_)
  .by_cases hj:j=n
   .subst hj;rw[W2.me]at hS;obtain rfl:=af (af hS);nomatch kp W2.act.ss,hc,W2.ln,c3,c4
   .exact mC j S hj hS
  .by_cases hj:j=n
   .subst hj;rw[W2.me]at h1;rw[rln]at h2;obtain rfl:=af h1;obtain rfl:=af h2;exact c2
   .exact YB.mC j o x' hj h1 h2
inductive LS(C:Cl)(vs:List V)(H:Hp)(Q:VK)(kn:XK):Prop
 |mk(ta:aB)(z:Int)(most:Nat)(oa:aB)(o:List Nat)(bP:aB->kT)(f:iS)(df:jt)(wr:List sH)(ss:List (Option fS))(y y1:eC)(a:xf)(_:vs=[.ref ta,.int z,.int most,.ref oa])(_:jI C H bP ta f df wr ss y)(_:fK H oa (nV o))(_:fU o)(_:o.length<=65536)(_:mL (some y) (.recv z o o.length most)=(some y1,a))(_:Goes C H bP ta f Q (JQ a) y1)
def zG:T.qZ.D P w mg aR 16 (LS C):=by
 refine T.qZ.ok ?_;kd_p
 obtain⟨ta,z,most,oa,o,bP,f,df,wr,ss,y,y1,a,rfl,W,fo,oo,ol,he,k⟩:=h;obtain⟨bm,nid,XE,Bn,iid,FB⟩:=T.Fl;exists _,(aa (bH (kR (iH (dA (aI (uW T) (fN cC)))) (kR (bg o7 (bZ cV (by rfl) T.gT fQ (fN gQ)) (aU T.Gr) (bD _)) (j6 (bg o7 fF (aU T.Gs) (bD _))))).pt (aj (aP (dN (fN (zN tG au))))) aZ) (aa (bH (i_ (mX (fE cX (aT b4 rfl) cC (λ_ _=>rfl)))) (aj (aP (dN (fN (zN tG au))))) aZ) (aa (cJ 4 nd (fG (yC T) T.fL b4 (i5 cC fF))) (aa (Uj XE FB rfl rfl rfl (λD pn Ex hp=>aj (bj (aI (EJ T) (i5 kS gQ) hr hp))) (λe=>aj (aP (dN (fN (zN tG au)))))) (aa (bj (fG (EL T) T.fL b4 (i5 kS cC))) (aj (aP (bO oS (dN (fN (bZ cV (by rfl) T.gT fQ (fN (aT kS rfl))))) (aT kS rfl)))))))));obtain⟨dt,h1⟩:=W.at_;have he:(if fZ z=false\/Vw<o.length\/DQ<most then(some y,gh (-2))else if(y.line z.toNat).isNone=true then(some y,gh (-9))else if most<(gZ y z.toNat o).2.length then(some y,gh (-5))else(some (gZ y z.toNat o).1,⟨((gZ y z.toNat o).2.length:Nat),(gZ y z.toNat o).2⟩))=(some y1,a):=he;have no2:(fZ z=false\/Vw<o.length\/DQ<most)->∀p,H p=none->Q (.ref p) (upd H p (.lst [V.int (-2)])):=λhn p hp=>by rw[iP hn]at he;obtain⟨e1,rfl⟩:=di he;obtain rfl:=af e1;exact k.same W (a_.refl H) hp
 exists I,z,rfl,I;cases hz:fZ z with
 |false=>exact fI (fI ⟨_,rfl,(by show 1<=aH;decide),λp hp=>no2 (.inl hz) p hp⟩)
 |true=>
  refine gY ?_;exists I,_,o.length,rfl,.inl ⟨_,fo.sq,(bA o).symm⟩,J,I;refine gM (λq=>?_) (λq=>?_)
  .have q:decide ((65536:Int)<((o.length:Nat):Int))=true:=q;have q:(65536:Int)<((o.length:Nat):Int):=of_decide_eq_true q;omega
  exists I,J,I;refine gM (λq=>?_) (λq=>?_)
  .have q:decide ((4194304:Int)<((most:Nat):Int))=true:=q;have q:(4194304:Int)<((most:Nat):Int):=of_decide_eq_true q;nomatch I,(by show 1<=aH;decide),λp hp=>no2 (.inr (.inr (by show 4194304<most;omega))) p hp
  have q:decide ((4194304:Int)<((most:Nat):Int))=false:=q;have q:¬(4194304:Int)<((most:Nat):Int):=of_decide_eq_false q;rw[iN (by rw[hz];rintro(z|z|z);cases z;exact absurd (show 65536<o.length from z) (by omega);exact absurd (show 4194304<most from z) (by omega))]at he
  obtain⟨n,rfl,hn⟩:=yz hz;obtain⟨so,g1,g2,_,g4⟩:=Hk W hn;rw[show((n:Nat):Int).toNat=n from rfl]at he;exists I,ta,C.Target,dt,_,I,h1,T.fL,T.ff,f.jq,I,f.bT,_,J,fT.of W.sl,cM g2,I;cases so with
  |none=>
   have e:y.line n=none:=by
    cases q:y.line n with
    |none=>rfl
    |some x=>rw[q]at g4;exact g4.elim
   rw[e,iP (show(none:Option aJ).isNone=true from rfl)]at he;obtain⟨e1,rfl⟩:=di he;obtain rfl:=af e1;refine fI ?_;nomatch I,(by show 1<=aH;decide),λp hp=>k.same W (a_.refl H) hp
  |some S=>
   obtain⟨x,ex⟩:∃x,y.line n=some x:=by
    cases q:y.line n with
    |some x=>nomatch x,rfl
    |none=>rw[q]at g4;exact g4.elim
   rw[ex]at g4;have g4:ji S S.held x:=g4;have ef:gZ y n o=gA (x.buf.length+o.length+1) (y.put n (some {x with buf:=x.buf++o})) n:=by unfold gZ;rw[ex]
   have OT:i7 n y (gZ y n o).1:=by rw[ef];exact(i7.set n y y.disk (some {x with buf:=x.buf++o})).trans (JJ n _ _)
   have LT:(gZ y n o).1.lines.length=4:=by rw[ef,JT];show(y.lines.set n _).length=4;rw[br];exact W.JP
   rw[ex,iN (show ¬(some x:Option aJ).isNone=true from λz=>nomatch z)]at he;obtain⟨_,sc,_,sh,so⟩:=W.se n S g1;refine gY ?_;nomatch I,ta,dt,I,h1,rfl,I,I,ta,n,most,bP,f,df,wr,ss,S,y,rfl,W,g1,by omega,λH1 pM tr A1 ss1 W1 Ye em es TW hsl J7 s1=>?_
   have mB:A1.S.s.closed=false:=by rw[TW.s];exact sc
   exists I,I,tr,oa,pM,n,A1,ss1,o,x,y,rfl,W1,Ye,fK.same fo s1,oo,ol,mB,TW.rel g4,by rw[TW.held];exact sh,by rw[TW.held];exact so
   rw[<-ef];generalize gZ y n o=r at he OT LT;have l1:∀c u,H c=some u->pM c= .mC:=J7;nomatch λAF H2 ko=>?_,λhle H2 ks A2 J9 W2 ef2 es2 YB m2 kq=>?_
   .
    rw[em,es]at AF;rw[iP (by have:([]:List Nat).length+r.2.length=r.2.length:=qD _;omega)]at he;obtain⟨e1,rfl⟩:=di he;obtain rfl:=af e1;nomatch I,(by show 1<=aH;decide),λp hp=>k.same W (λc u hc=>ko c u (s1 _ _ hc) (l1 c u hc)) hp
   .
    rw[em,es]at hle;rw[iN (by have:([]:List Nat).length+r.2.length=r.2.length:=qD _;omega)]at he;obtain⟨e1,rfl⟩:=di he;obtain rfl:=af e1;have esb:A2.sb=r.2:=by rw[es2,es];rfl
    have s2:a_ H H2:=λc u hc=>(kq _ _ (s1 _ _ hc) (l1 c u hc)).1;have l2:∀c u,H c=some u->ks c= .mC:=λc u hc=>(kq _ _ (s1 _ _ hc) (l1 c u hc)).2;obtain⟨dr,t1⟩:=W2.act.tu;obtain⟨dz,t2⟩:=W2.act.ss.at_;have YC:H A2.f.bT=none:=by rw[ef2];exact hsl
    have ZT:n<(J9.map iF).length:=by rw[aK];exact(aE.mp W2.me).1
    nomatch I,ta,dt,I,s2 _ _ h1,rfl,I,I,ta,tr,dt,dr,dz,f,A2.f,A2.S.s,n,J9.map iF,rfl,s2 _ _ h1,t1,(by rw[W2.act.sa];exact t2),W2.sl,ZT,λH3 k1 k2 k3=>?_
    have W3:=W.turn (Vi T) W2 YB OT LT m2 (s2 _ _ h1) (l2 _ _ h1) k1 k2 k3;have n1:tr≠ta:=ox t1 (s2 _ _ h1) (M4 T);have n2:tr≠A2.f.bT:=bV t1 W2.sl nofun;have n3:A2.f.eZ≠ta:=bV W2.act.sn (s2 _ _ h1) nofun;have n4:A2.f.eZ≠A2.f.bT:=c_ W2.act.uA W2.RP nofun;have t3:=k3 _ _ t1 n1 n2;have t4:=k3 _ _ W2.act.sn n3 n4;nomatch I,tr,C.Turn,dr,_,I,t3,T.cy,T.kL,A2.f.CG,_,A2.sb.length,rfl,.inl ⟨_,fT.of t4,(bA _).symm⟩,(by show 1<=aH;decide),λp1 rD=>?_
    have s4:=aS (a_.refl H3) rD (.lst [V.int ((A2.sb.length:Nat):Int)]);have lsb:A2.sb.length<=4194304:=by rw[esb];omega
    nomatch I,tr,C.Turn,dr,_,I,s4 _ _ t3,T.cy,T.kL,A2.f.CG,p1,A2.f.eZ,J,.inl ae,.inl (s4 _ _ t4),(by rw[bA,sizeLine_eq];show 1+_<=_;omega),λp2 v_=>?_
    have s5:=aS s4 v_ (.lst ([V.int ((A2.sb.length:Nat):Int)]++nV A2.sb));have Vk:H3 p2=none:=s4.free v_;have afp:H p2=none:=by
     cases q:H p2 with
     |none=>rfl
     |some u=>
      by_cases z:p2=ta
      .rw[z,k1]at Vk;cases Vk
      .rw[k3 _ _ (s2 _ _ q) z (ai q YC)]at Vk;cases Vk
    refine k _ p2 ks ⟨A2.f.disk,A2.f.bT⟩ A2.df A2.wr _ afp ?_ (W3.same s5) (λc u hc nc _=>s5 _ _ (k3 _ _ (s2 _ _ hc) nc (ai hc YC))) (.inr YC) (λc u hc _=>l2 c u hc);rw[ae,esb];rfl
def SD{X:Cx}{st:lR}:PS X st (λ_ _ _=>False):=λ_ _ _ _ _ _ h=>h.elim
inductive Al:Int->(Int->yI)->Prop where
 |o:Al 1 .open_
 |c:Al 3 .closed
 |b:Al 4 .block
 |t:Al 5 .tasks
inductive Hn(C:Cl)(vs:List V)(H:Hp)(Q:VK)(kn:XK):Prop
 |mk(ta:aB)(m z:Int)(q:Int->yI)(bP:aB->kT)(f:iS)(df:jt)(wr:List sH)(ss:List (Option fS))(y y1:eC)(a:xf)(_:vs=[.ref ta,.int m,.int z])(_:Al m q)(_:jI C H bP ta f df wr ss y)(_:mL (some y) (q z)=(some y1,a))(_:Goes C H bP ta f Q (JQ a) y1)
def JU:T.Ad.D P w aR 4 (Hn C):=by
 refine T.Ad.ok ?_;kd_p
 obtain⟨ta,m,z,q,bP,f,df,wr,ss,y,y1,a,rfl,hq,W,he,k⟩:=h;exists _,(aa (bH (bg fD cC (aU T.NX) (bD _)) (aj (aP (fG (zF T) T.fL b4 (fN fF)))) aZ) (aa (bH (bg fD cC (aU T.IQ) (bD _)) (aj (aP (fG (wR T) T.fL b4 (fN fF)))) aZ) (aa (bH (bg fD cC (aU T.K0) (bD _)) (aj (aP (fG (yB T) T.fL b4 (fN fF)))) aZ) (aa (bH (bg fD cC (aU T.K1) (bD _)) (aj (aP (fG (yA T) T.fL b4 (fN fF)))) aZ) (aj SD)))));obtain⟨dt,h1⟩:=W.at_;cases hq with
 |o=>exists I,rfl,I;refine fI ?_;nomatch I,ta,dt,I,h1,rfl,I,ta,z,bP,f,df,wr,ss,y,y1,a,rfl,W,he,k
 |c=>exists I,rfl,I;refine gY ?_;exists I,rfl,I;refine fI ?_;nomatch I,ta,dt,I,h1,rfl,I,ta,z,bP,f,df,wr,ss,y,y1,a,rfl,W,he,k
 |b=>exists I,rfl,I;refine gY ?_;exists I,rfl,I;refine gY ?_;exists I,rfl,I;refine fI ?_;nomatch I,ta,dt,I,h1,rfl,I,ta,z,bP,f,df,wr,ss,y,y1,a,rfl,W,he,k
 |t=>exists I,rfl,I;refine gY ?_;exists I,rfl,I;refine gY ?_;exists I,rfl,I;refine gY ?_;exists I,rfl,I;refine fI ?_;nomatch I,ta,dt,I,h1,rfl,I,ta,z,bP,f,df,wr,ss,y,y1,a,rfl,W,he,k
def iV(l:List Int):List V:=l.map V.int
def zH(l:List Int):(iV l).length=l.length:=by unfold iV;rw[aK]
def O1(a b:List Int):iV (a++b)=iV a++iV b:=by unfold iV;rw[bW]
def qj(h:l.drop n=r)(i:Nat)(e:r[i]? =some z):(iV l)[n+i]? =some (V.int z):=by unfold iV;rw[bz,<-qM,h,e];rfl
def YD(l:List Int)(p n:Nat):jv (iV l) (some (p:Int)) (some ((p:Int)+(n:Int)))=iV ((l.drop p).take n):=by
 unfold jv iV;have e:((p:Int)+(n:Int))=((p+n:Nat):Int):=rfl;rw[e,HT.pU,HT.pU,aK,sQ,sR];by_cases h:p<=l.length
 .rw[dM h];by_cases h2:p+n<=l.length
  .rw[dM h2,Na]
  .rw[jb ()];rw[cA (by simp),cA (by simp;lia)]
 .rw[jb ()];rw[gg (by simp;lia),gg (by simp;lia)];simp
def Vl(h:∀z∈b,0<=z):iV b=nV (dD b):=by unfold iV nV dD;rw[cY];apply gr;intro z hz;have:=h z hz;show V.int z=V.int ((z.toNat:Nat):Int);rw[Int.toNat_of_nonneg this]
def Vm(b:List Nat):nV b=iV (Ql73Neutral.ints b):=by unfold iV nV Ql73Neutral.ints;rw[cY];rfl
inductive wU:Int->List Int->List (List Int)->List Int->Prop where
 |zero(t:List Int):wU 0 t [[0]] t
 |one{p:Int}{q:Int->yI}(h:Al p q)(z:Int)(t:List Int):wU p (z::t) [[p,z]] t
 |two(z m:Int)(b t:List Int):wU 2 (z::m::(b.length:Int)::(b++t)) [[2,z,m],b] t
def Vn(h:DM gf (p::r)=some (c,t)):wU p r c t:=by
 have one:∀{q:Int->yI},Al p q->gf p=some (1,0)->wU p r c t:=fun{q} hq e=>by
  unfold DM at h;dsimp only at h;rw[e]at h;dsimp only at h;split at h
  .cases h
  .rename_i hl;cases r with
   |nil=>exact absurd (by show 0<1;decide) hl
   |cons z r=>obtain⟨e1,e2⟩:=di (af h);subst e1 e2;exact .one hq z r
 unfold gf at one;by_cases h0:p=0
 .subst h0;obtain⟨e1,e2⟩:=di (af h);subst e1 e2;exact .zero r
 by_cases h1:p=1
 .subst h1;exact one .o rfl
 by_cases h2:p=2
 .subst h2;have h:(if r.length<2 then none else match PyFlat.rows 1 (r.drop 2)with|none=>none|some (xs,t)=>some ((2::r.take 2)::xs,t))=some (c,t):=h
  split at h
  .cases h
  .rename_i hl;match r,hl,h with
   | [],hl,_=>exact absurd (by show 0<2;decide) hl
   | [_],hl,_=>exact absurd (by show 1<2;decide) hl
   |z::m::[],_,h=>cases h
   |z::m::k::r,_,h=>
    have h:(match(match(if 0<=k/\k.toNat<=r.length then some (r.take k.toNat,r.drop k.toNat)else none:Option (List Int×List Int))with|none=>none|some (x,s)=>some ([x],s):Option (List (List Int)×List Int))with|none=>none|some (xs,t)=>some ((2::[z,m])::xs,t))=some (c,t):=h
    split at h
    .cases h
    .rename_i xs t' hx;split at hx
     .cases hx
     .rename_i x s hs;split at hs
      .rename_i hk;obtain⟨e1,e2⟩:=di (af hs);obtain⟨e3,e4⟩:=di (af hx);obtain⟨e5,e6⟩:=di (af h);subst e5 e6 e3 e4 e1 e2;have hb:((r.take k.toNat).length:Int)=k:=by rw[bf,dM hk.2];omega
       have key:=wU.two z m (r.take k.toNat) (r.drop k.toNat);rw[hb,O_]at key;exact key
      .cases hs
 by_cases h3:p=3
 .subst h3;exact one .c rfl
 by_cases h4:p=4
 .subst h4;exact one .b rfl
 by_cases h5:p=5
 .subst h5;exact one .t rfl
 .have:gf p=none:=by unfold gf;rw[iN h0,iN h1,iN h2,iN h3,iN h4,iN h5]
  unfold DM at h;dsimp only at h;rw[this]at h;cases h
def LU(h:ju gf f (p::r)=some cs):∃g c t Ka,f=g+1/\wU p r c t/\ju gf g t=some Ka/\cs=c::Ka:=by
 cases f with
 |zero=>cases h
 |succ g=>
  rw[ju]at h;cases e:DM gf (p::r)with
  |none=>rw[e]at h;cases h
  |some q=>
   obtain⟨c,t⟩:=q;rw[e]at h;dsimp only at h;cases e2:ju gf g t with
   |none=>rw[e2]at h;cases h
   |some Ka=>rw[e2]at h;nomatch g,c,t,Ka,rfl,Vn e,e2,(af h).symm
def cost(c:List (List Int)):Nat:=1+qI c+513
def yD(l:List (List (List Int))):Nat:=(l.map cost).sum
theorem JV:∀l:List (List (List Int)),yD l=(l.map qI).sum+514*l.length
 | []=>rfl
 |c::l=>by have:=JV l;unfold yD at this ⊢;rw[bp,oX,this,bp,oX,aN];unfold cost;lia
structure Loop(C:Cl)(K:aq)(H:Hp)(l:List Int)(a0:aB)(n:Nat)(ta tl:aB)(H':Hp)(st:Py)(cs:List (List (List Int)))(d:List Int):Prop where
 par:∃f,ju gf f (l.drop n)=some cs
 le:n<=l.length
 ask:∀c∈cs,jF (cI c)=true
 tlA:H' tl=some (.lst (iV d))
 eq:d++rA (lV iO st (cs.map cI))=kX l
 len:d.length+yD (cs.map cI)<=1000000
 kf:js H H'
 stA:(st=none/\∃c r,cs=c::r/\vp (cI c)=true)\/∃y bP f df wr ss,st=some y/\jI C H' bP ta f df wr ss y/\bP tl= .mC/\tl≠f.bT
def FO(h:mL (some y) q=(some y1,a))(m:Nat)(hm:∀z b n room,q= .recv z b n room->(if room<=4194304 then room else 0)=m):a.out.length<=m+512:=by
 cases q with
 |begin_=>obtain⟨_,rfl⟩:=di h;exact bQ _
 |open_ z=>have h:(if fZ z=false then(some y,gh (-2))else(some (y.put z.toNat (some Aq)),gh 0))=(some y1,a):=h;split at h<;>(obtain⟨_,rfl⟩:=di h;exact bQ _)
 |closed z=>obtain⟨_,rfl⟩:=di h;exact bQ _
 |tasks z=>obtain⟨_,rfl⟩:=di h;exact bQ _
 |block z=>
  obtain⟨_,rfl⟩:=di h;split
  .exact bQ _
  .show(jS _ _ 1).length<=_;unfold jS;rw[aK,iK];lia
 |recv z b n room=>
  have hm:=hm z b n room rfl;have h:(if fZ z=false\/Vw<n\/DQ<room then(some y,gh (-2))else if(y.line z.toNat).isNone=true then(some y,gh (-9))else if room<(gZ y z.toNat b).2.length then(some y,gh (-5))else(some (gZ y z.toNat b).1,⟨((gZ y z.toNat b).2.length:Nat),(gZ y z.toNat b).2⟩))=(some y1,a):=h;split at h
  .obtain⟨_,rfl⟩:=di h;exact bQ _
  rename_i hr;split at h
  .obtain⟨_,rfl⟩:=di h;exact bQ _
  split at h
  .obtain⟨_,rfl⟩:=di h;exact bQ _
  .rename_i hl;obtain⟨_,rfl⟩:=di h;have hr:room<=4194304:=by have:¬DQ<room:=λz=>hr (.inr (.inr z));have:¬4194304<room:=this;lia
   rw[iP hr]at hm;show(gZ y z.toNat b).2.length<=_;lia
def FP(y:eC)(q:yI):∃y1 a,mL (some y) q=(some y1,a):=by
 cases q with
 |begin_=>nomatch _,I
 |open_ z=>show ∃y1 a,(if fZ z=false then(some y,gh (-2))else(some (y.put z.toNat (some Aq)),gh 0))=(some y1,a);split<;>nomatch _,I
 |closed z=>nomatch _,I
 |tasks z=>nomatch _,I
 |block z=>nomatch _,I
 |recv z b n room=>
  show ∃y1 a,(if fZ z=false\/Vw<n\/DQ<room then(some y,gh (-2))else if(y.line z.toNat).isNone=true then(some y,gh (-9))else if room<(gZ y z.toNat b).2.length then(some y,gh (-5))else(some (gZ y z.toNat b).1,⟨((gZ y z.toNat b).2.length:Nat),(gZ y z.toNat b).2⟩))=(some y1,a);split
  .nomatch _,I
  split
  .nomatch _,I
  split<;>nomatch _,I
def nY(a:xf):List Int:=a.v::Ql73Neutral.ints a.out
def Vo(a:xf):JQ a=iV (nY a):=by unfold JQ nY;rw[Vm];rfl
def Vp(h:o3 c=some q):iO s c=((mL s q).1,nY (mL s q).2):=by unfold iO;rw[h];rfl
def Ho(h:o3 c=some q)(e:mL s q=(s1,a)):rA (lV iO s (c::r))=((nY a).length:Int)::(nY a++rA (lV iO s1 r)):=by rw[lV,Vp h,e];rfl
def SE(h:Al p q):(∀z' b n room,q z≠ .recv z' b n room)/\o3 [[p,z]]=some (q z)/\cI [[p,z]]=[[p,z]]/\qI [[p,z]]=0/\p≠0/\p≠2/\vp [[p,z]]=false:=by cases h<;>nomatch(by intro z' b n room h;cases h),rfl,rfl,rfl,#[],#[],rfl
def abM{c A B:Prop}[Decidable c](h:c)(a:A):if decide c=true then A else B:=by rw[iP (decide_eq_true h)];exact a
def YE{c A B:Prop}[Decidable c](h:¬c)(b:B):if decide c=true then A else B:=by rw[iN (by rw[decide_eq_false h];decide)];exact b
def LV(st:Ql73.Abs):mL st .begin_=(some Hz,gh 0):=by cases st<;>rfl
def JW(b:List Int):(dD b).length=b.length:=by unfold dD;rw[aK]
inductive r_(K:aq)(vs:List V)(H:Hp)(Q:VK)(kn:XK):Prop
 |mk(a0:aB)(l:List Int)(_:vs=[.ref a0])(_:(∀H',js H H'->fT K H' a0 (iV l)))(_:wg l=true)(_:∀H' p,H' p=some (.lst (iV (kX l)))->Q (.ref p) H')
def SF(h:wg l=true):∃cs,ju gf l.length l=some cs/\(∀c∈cs,jF (cI c)=true)/\(∃c r,cs=c::r/\vp (cI c)=true)/\yD (cs.map cI)<=1000000/\kX l=rA (lV iO none (cs.map cI)):=by
 unfold wg at h;unfold kX;have ec:PyQl73.calls l=match ju gf l.length l with|none=>none|some cs=>some (cs.map cI):=rfl
 cases e:ju gf l.length l with
 |none=>rw[e]at ec;rw[ec]at h;cases h
 |some cs=>
  rw[e]at ec;rw[ec]at h ⊢;have h:(PyFlat.atMost 400 (cs.map cI)&&Kj (cs.map cI))=true:=h;rw[cz]at h;have h2:=h.2;unfold Kj at h2;rw[cz,cz,cz,decide_eq_true_eq,decide_eq_true_eq]at h2;obtain⟨a1,a2,a3,a4⟩:=h2;nomatch cs,rfl,λc hc=>dI.mp a1 _ (cG.mpr ⟨c,hc,rfl⟩),?_,?_,rfl
  .cases cs with
   |nil=>cases a2
   |cons c r=>nomatch c,r,rfl,a2
  .rw[JV];lia
def Loop.out(hc:∃g,ju gf g (l.drop n)=some cs)(hn:n<=l.length)(ha:∀c∈cs,jF (cI c)=true) (htl:H2 tl=some (.lst (iV d))) (W:jI C H2 bP ta f df wr ss y1) (oB:bP tl= .mC) (QD:tl≠f.bT) (eq:d++(((nY a).length:Int)::(nY a++rA (lV iO (some y1) (cs.map cI))))=kX l) (le:d.length+1+(nY a).length+yD (cs.map cI)<=1000000) (kf:js H H2): Loop C K H l a0 n ta tl (upd H2 tl (.lst (iV (d++(((nY a).length:Int)::nY a))))) (some y1) cs (d++(((nY a).length:Int)::nY a)):=by
 nomatch hc,hn,ha,ae,?_,?_,λb o u e=>?_,.inr ⟨y1,bP,f,df,wr,ss,rfl,W.list htl oB QD _,oB,QD⟩
 .rw[<-eq,dW];rfl
 .rw[az,aN];lia
 .rw[aG (bV (kf _ _ _ e) htl nofun)];exact kf _ _ _ e
def JX(vs:List V)(H:Hp)(Q:VK)(E:XK)(h:r_ K vs H Q E):vs.length=(["calls"]:List bL).length:=by obtain⟨a0,l,rfl,_⟩:=h;rfl
inductive abN(C:Cl)(K:aq)(H:Hp)(l:List Int)(a0 tl:aB)(m:Nat)(σ:L2.St)(H':Hp):Prop
 |mk(ta:aB)(n:Nat)(v4 v5:Option V)(st:Py)(cs:List (List (List Int)))(d:List Int)(_:σ=[some (.ref a0),some (.ref ta),some (.ref tl),some (.int (n:Nat)),v4,v5])(_:Loop C K H l a0 n ta tl H' st cs d)(_:m=l.length-n)
inductive CdA(C:Cl)(H:Hp)(l:List Int)(a0 tl:aB)(n:Nat)(d:List Int)(σ:L2.St)(H2:Hp):Prop
 |mk(ta p:aB)(n2:Nat)(v5:Option V)(y1:eC)(a:xf)(bP:aB->kT)(f:iS)(df:jt)(wr:List sH)(ss:List (Option fS))(Ka:List (List (List Int)))(_:σ=[some (.ref a0),some (.ref ta),some (.ref tl),some (.int (n2:Nat)),some (.ref p),v5])(_:n<n2)(_:n2<=l.length)(_:(∃g,ju gf g (l.drop n2)=some Ka))(_:(∀c∈Ka,jF (cI c)=true))(_:H2 p=some (.lst (JQ a)))(_:p≠tl)(_:H2 tl=some (.lst (iV d)))(_:jI C H2 bP ta f df wr ss y1)(_:bP tl= .mC)(_:tl≠f.bT)(_:d++(((nY a).length:Int)::(nY a++rA (lV iO (some y1) (Ka.map cI))))=kX l)(_:d.length+1+(nY a).length+yD (Ka.map cI)<=1000000)(_:js H H2)
def O2(T:Txt P w K mg C):MC P w K mg aR 16 ["calls","target","told","at","answer","end"] "answers" qU (r_ K):=by
 kd_p
 obtain⟨a0,l,rfl,hS,YF,k⟩:=h;exists _,(aa (cJ 1 nd (xA (JR T))) (aa (cJ 2 nd (dN jk)) (aa (cJ 3 nd au) (aa (BH d9 (bg tH gQ (bZ cV (by rfl) T.gT fQ (fN b4)) (bD _)) (aa (bH (bg fD (fE cX b4 gQ (λ_ _=>rfl)) (aU T.KZ) (bD _)) (aa (cJ 1 nd (xA (JR T))) (aa (cJ 4 nd (dN (fN au))) (aj (cJ 3 nd (bO eJ gQ au))))) (aj (bH (bg fD (fE cX b4 gQ (λ_ _=>rfl)) (aU T.NY) (bD _)) (aa (cJ 5 nd (bO eJ (bO eJ gQ au) (fE cX b4 (bO eJ gQ au) (λ_ _=>rfl)))) (aa (cJ 4 nd (fG (zG T) T.fL cC (mh (fE cX b4 (bO eJ gQ au) (λ_ _=>rfl)) (fE cX b4 (bO eJ gQ au) (λ_ _=>rfl)) (jm (ej fV b4 (cS (bO eJ gQ au)) (cS zV)))))) (aj (cJ 3 nd zV)))) (aa (cJ 4 nd (aI (JU T) (mh cC (fE cX b4 gQ (λ_ _=>rfl)) (fE cX b4 (bO eJ gQ au) (λ_ _=>rfl))))) (aj (cJ 3 nd (bO eJ gQ au))))))) (aa (bj (tJ dg rp rq yZ fF (fN (bZ cV (by rfl) T.gT fQ (fN kS))))) (aj (bj (tJ dg gx gy lN fF (fN kS))))))) (aj (aP fF))))));obtain⟨cs0,c1,c2,c3,c4,c5⟩:=SF YF;intro x dx hx CL sU;nomatch x,dx,rfl,ae,λH1 f df e1 D1 DO hfs B1=>⟨rfl,?_⟩
 have s1:a_ H H1:=a_.made hx CL B1;nomatch bQ _,λtl htl=>?_
 have s2:=aS s1 htl (.lst []);exists abN C K H l a0 tl,⟨_,x,0,none,none,none,cs0,[],rfl,⟨⟨_,c1⟩,bQ _,c2,ae,c5.symm,(by show 0+_<=_;lia),λb o u e=>s2 _ _ e,.inl ⟨rfl,c3⟩⟩,rfl⟩;rintro m σ H' ⟨ta,n,v4,v5,st,cs,d,rfl,L,rfl⟩;have Tg:=hS H' L.kf;exists I,I,_,l.length,rfl,.inl ⟨_,Tg,(zH l).symm⟩,J,I;obtain⟨fu,hcs⟩:=L.par;refine gG (λoB=>?_) (λoB=>?_);rotate_left
 .have oB:¬((n:Nat):Int)<((l.length:Nat):Int):=oB;have hle:=L.le;rw[gg ()]at hcs;have YG:cs=[]:=by cases fu<;>exact(af hcs).symm
  have eq:=L.eq;rw[YG]at eq;have eq:d=kX l:=by rw[<-eq];exact(eT d).symm
  nomatch I,k H' tl ?_
  rw[<-eq];exact L.tlA
 have oB:((n:Nat):Int)<((l.length:Nat):Int):=oB;have Xb:n<l.length:=();exists fun σ' GV=>∃m',m'<l.length-n/\abN C K H l a0 tl m' σ' GV,fun σ' GV h=>h;have zI:=L.tlA;refine abG (Cd:=CdA C H l a0 tl n d) (λz=>by
  obtain⟨p,r,er⟩:∃p r,l.drop n=p::r:=⟨l[n],l.drop (n+1),ib Xb⟩;rw[er]at hcs;obtain⟨g,c,t,Ka,_,hci,YH,YG⟩:=LU hcs;have JY:jF (cI c)=true:=L.ask c (by rw[YG];simp);have JZ:∀c∈Ka,jF (cI c)=true:=λc hc=>L.ask c (by rw[YG];simp[hc]);have heq:=L.eq;have hlen:=L.len;have kx:=L.stA;rw[YG,bp]at heq hlen;have abO:yD (cI c::Ka.map cI)=cost (cI c)+yD (Ka.map cI):=by unfold yD;rw[bp,oX]
  rw[abO]at hlen;exists I,I,a0,_,J,Tg,cM (j:=n) (qj er 0 rfl),rfl,I;cases hci with
  |zero=>
   refine abM rfl ?_;intro x2 Ux Tc abP aj1;nomatch x2,Ux,rfl,ae,λH2 f2 Zv q1 D2 BJ afq B2=>⟨rfl,?_⟩
   have t1:a_ H' H2:=a_.made Tc abP B2;nomatch(by show 1<=aH;decide),λp hp=>?_
   have t2:=aS t1 hp (.lst [V.int 0]);have t3:=aS (a_.refl H2) hp (.lst [V.int 0]);have W2:=(jI.new q1 D2 BJ).same t3;have afr:H' f2.bT=none:=(j5 Tc abP _ _).free afq;exists I,J;have hw:cI [[0]]=[[0]]:=rfl;rw[hw]at heq;have es:mL st .begin_=(some Hz,gh 0):=LV st;rw[Ho (q:=.begin_) rfl es]at heq;have ed:l.drop (n+1)=r:=by rw[<-gX,er];rfl
   have hc0:cost [[0]]=514:=rfl;rw[hw,hc0]at hlen;change Ends.nx _ _ _;exact z _ _ ⟨x2,p,n+1,_,Hz,gh 0,_,f2,Zv,[],_,Ka,rfl,(),Xb,⟨g,by rw[ed];exact YH⟩,JZ,ae,aL (ai (t1 _ _ zI) hp),t2 _ _ zI,W2,rfl,ai zI afr,heq,(by show d.length+1+1+_<=_;lia),λb o u e=>t2 _ _ (L.kf _ _ _ e)⟩
  |one hq zz t=>
   obtain⟨nr,SG,hw,hm0,np0,Zn,hnb⟩:=SE hq (z:=zz);rw[hw]at heq;obtain⟨y,bP,f,df,wr,ss,AV,W,YI,QD⟩:∃y bP f df wr ss,st=some y/\jI C H' bP ta f df wr ss y/\bP tl= .mC/\tl≠f.bT:=by
    rcases kx with⟨_,c',r',e',hb⟩|h
    .rw[YG]at e';obtain⟨rfl,_⟩:=we e';rw[hw,hnb]at hb;cases hb
    .exact h
   obtain⟨y1,a,he⟩:=FP y (_);rw[AV,Ho SG he]at heq;have Ph:=FO he 0 (λz' b n' room e=>absurd e (nr z' b n' room));obtain⟨dt,g1⟩:=W.at_;have YJ:tl≠ta:=aL (bV g1 zI nofun);have rl:=congrArg hU er;rw[cO,aN,aN]at rl;refine YE (λe=>np0 (V.int.inj e)) ?_;exists I,I,a0,_,J,Tg,cM (j:=n) (qj er 0 rfl),rfl,I;refine YE (λe=>Zn (V.int.inj e)) ?_;nomatch I,I,I,a0,_,J,Tg,cM (j:=n) (qj er 0 rfl),I,I,J,a0,_,J,Tg,cM (j:=n+1) (qj er 1 rfl),ta,_,zz,_,bP,f,df,wr,ss,y,y1,a,rfl,hq,W,he,λH2 p ks f2 Zv wr2 J9 hp ep W2 fr hfs OB=>?_
   exists I,J;have ed:l.drop (n+2)=t:=by rw[<-gX,er];rfl
   change Ends.nx _ _ _;refine z _ _ ⟨ta,p,n+2,_,y1,a,ks,f2,Zv,wr2,J9,Ka,rfl,(),(),⟨g,by rw[ed];exact YH⟩,JZ,ep,aL (ai zI hp),fr _ _ zI YJ QD,W2,OB _ _ zI YI,?_,heq,?_,λb o u e=>fr _ _ (L.kf _ _ _ e) (bV (L.kf _ _ _ e) g1 nofun) (bV (L.kf _ _ _ e) W.sl nofun)⟩
   .rcases hfs with e|e
    .rw[e];exact QD
    .exact ai zI e
   .have la:(nY a).length=a.out.length+1:=by unfold nY Ql73Neutral.ints;rw[aN,aK]
    rw[hw]at hlen;unfold cost at hlen;rw[hm0]at hlen;lia
  |two zz mm b t=>
   have hwd:cI [[2,zz,mm],b]=[[2,zz,(b.length:Int),mm],b]:=rfl;rw[hwd]at heq JY;have JY:(Ql73Neutral.whole32 zz&&(kO (b.length:Int) 32&&(kO mm 32&&(b.all (λ(z:Int)=>kO z 8)&&L7 b (b.length:Int) 0 65536))))=true:=JY;rw[cz,cz,cz,cz]at JY;obtain⟨_,_,k3,k4,k5⟩:=JY;have hb8:∀z∈b,0<=z/\z<256:=λz hz=>by have:=dI.mp k4 z hz;unfold kO at this;rw[cz,decide_eq_true_eq,decide_eq_true_eq]at this;exact this
   have GD:b.length<=65536:=by unfold L7 at k5;have k5:=of_decide_eq_true k5;split at k5<;>lia
   obtain⟨mn,rfl⟩:∃mn:Nat,mm=(mn:Int):=by unfold kO at k3;rw[cz,decide_eq_true_eq,decide_eq_true_eq]at k3;nomatch mm.toNat,()
   have SG:o3 [[2,zz,(b.length:Int),(mn:Int)],b]=some (.recv zz (dD b) (dD b).length mn):=by rw[JW];rfl
   obtain⟨y,bP,f,df,wr,ss,AV,W,YI,QD⟩:∃y bP f df wr ss,st=some y/\jI C H' bP ta f df wr ss y/\bP tl= .mC/\tl≠f.bT:=by
    rcases kx with⟨_,c',r',e',hb⟩|h
    .rw[YG]at e';obtain⟨rfl,_⟩:=we e';cases hb
    .exact h
   obtain⟨y1,a,he⟩:=FP y (.recv zz (dD b) (dD b).length mn);rw[AV,Ho SG he]at heq;have Ph:=FO he (if mn<=4194304 then mn else 0) (λz' b' n' room e=>by cases e;exact rfl);obtain⟨dt,g1⟩:=W.at_;have YJ:tl≠ta:=aL (bV g1 zI nofun);have rl:=congrArg hU er;rw[cO,aN,aN,aN,aN,az]at rl;have e4:l.drop (n+4)=b++t:=by rw[<-gX,er];rfl
   refine YE (λe=>absurd (V.int.inj e) #[]) ?_;exists I,I,a0,_,J,Tg,cM (j:=n) (qj er 0 rfl),rfl,I;refine abM rfl ?_;exists I,J,I,I,J,a0,_,J,Tg,cM (j:=n+3) (qj er 3 rfl),J;nomatch I,ta,dt,I,g1,rfl,I,I,J,a0,_,J,Tg,cM (j:=n+1) (qj er 1 rfl),I,I,J,a0,_,J,Tg,cM (j:=n+2) (qj er 2 rfl),I,I,J,I,I,I,a0,I,Tg,λoa hoa=>⟨oa,_,rfl,ae,λod=>?_⟩
   have XY:jv (iV l) (some (((n:Nat):Int)+4)) (some (((n:Nat):Int)+4+((b.length:Nat):Int)))=nV (dD b):=by have:=YD l (n+4) b.length;rw[e4,List.take_left,Vl (λz hz=>(hb8 z hz).1)]at this;exact this
   rw[bS,XY];have t1:=aS (a_.refl H') hoa (.gm od (.lst (nV (dD b))));have fo:fK (upd H' oa (.gm od (.lst (nV (dD b))))) oa (nV (dD b)):=⟨od,ae⟩;generalize upd H' oa (.gm od (.lst (nV (dD b))))=H1' at t1 fo;have on:fU (dD b):=λz hz=>by obtain⟨u,hu,rfl⟩:=cG.mp hz;have:=hb8 u hu;lia
   nomatch ta,zz,mn,oa,dD b,bP,f,df,wr,ss,y,y1,a,rfl,W.same t1,fo,on,by rw[JW];exact GD,he,λH2 p ks f2 Zv wr2 J9 hp ep W2 fr hfs OB=>?_
   exists I;have ed:l.drop (n+4+b.length)=t:=by rw[<-gX,e4];exact qO
   change Ends.nx _ _ _;refine z _ _ ⟨ta,p,n+4+b.length,_,y1,a,ks,f2,Zv,wr2,J9,Ka,rfl,(),(),⟨g,by rw[ed];exact YH⟩,JZ,ep,aL (ai (t1 _ _ zI) hp),fr _ _ (t1 _ _ zI) YJ QD,W2,OB _ _ (t1 _ _ zI) YI,?_,heq,?_,λb o u e=>fr _ _ (t1 _ _ (L.kf _ _ _ e)) (bV (L.kf _ _ _ e) g1 nofun) (bV (L.kf _ _ _ e) W.sl nofun)⟩
   .rcases hfs with e|e
    .rw[e];exact QD
    .exact ai (t1 _ _ zI) e
   .have la:(nY a).length=a.out.length+1:=by unfold nY Ql73Neutral.ints;rw[aN,aK]
    have em:qI [[2,zz,(b.length:Int),(mn:Int)],b]=if mn<=4194304 then mn else 0:=by
     show(if(mn:Int)<=4194304 then(mn:Int).toNat else 0)=_;by_cases h:mn<=4194304
     .rw[iP h,iP ()];rfl
     .rw[iN h,iN ()]
    rw[hwd]at hlen;unfold cost at hlen;rw[em]at hlen;lia) ?_
 rintro σ H2 ⟨ta2,p2,n2,v5',y1,a,bP,f2,Zv,wr,ss,cs2,rfl,ZT,aft,afu,JZ,v_,npt,YK,W2,tS,afv,eq2,le2,OF⟩;rw[Vo]at v_;have la:(iV (nY a)).length=(nY a).length:=zH _;have ld:(iV d).length=d.length:=zH _;exists I,.inl ⟨rfl,_,fT.of YK⟩,I,_,(nY a).length,rfl,.inl ⟨_,fT.of v_,la.symm⟩,tl,J,YK,(by rw[ld,sizeLine_eq];lia);exists I,.inl ⟨rfl,_,fT.of ae⟩,I,tl,p2,J,ae,.inl (by rw[aG npt];exact v_),(by rw[az,ld,la,sizeLine_eq];show d.length+1+_<=_;lia);rw[bS];have ee:iV d++[V.int ((((nY a).length:Nat)):Int)]++iV (nY a)=iV (d++(((nY a).length:Int)::nY a)):=by rw[O1,dW];rfl
 rw[ee];nomatch _,(),ta2,n2,_,_,some y1,cs2,I,Loop.out afu aft JZ YK W2 tS afv eq2 le2 OF,rfl
def all_mk(hfa:mg "answers"=some (.ref fa))(b:∀(kV doc pm:aM)(an:Option aB)(cdv ct:aM)(us:List aM),us.length=(["calls"]:List bL).length->bindArgs (fk "answers" "answers" (jK qU) (i4 qU) (cW qU) .none kV doc pm an cdv ct) ⟨us,[]⟩=pure ((["calls"]:List bL).zip us))(T:Txt P w K mg C): ∃fd:mz,(∀(s:bq)(us:List aM),us.length=(["calls"]:List bL).length->BindsTo s fd ⟨us,[]⟩ ((["calls"]:List bL).zip us))/\∀aR:gD,K.In aR->aR.Ns dX mg->qo P w K mg aR Pe 17 fa fd ["calls"] (r_ K):=by obtain⟨S,f,fd,F,hm,_⟩:=T.NP;rw[hm]at hfa;obtain rfl:f=fa:=Value.ref.inj (af hfa);have F2:=F;obtain⟨oc,od,kV,doc,pm,an,cdv,ct,HP,rfl,lk,Pc⟩:=F.ex;nomatch _,λs us hu=>.of_eq (b kV doc pm an cdv ct us hu),λaR _ _=>F2.ok S JX λcdv A outer s H vs Q E hr h=>O2 T f cdv A outer s H vs Q E S.nd hr h
def Vq(hO:Fb H)(h:fT K H a xs)(kf:js H H'):fT K H' a xs:=by
 rcases h with(h|⟨o,h⟩)|h
 .rcases hO a with z|⟨o,u,z⟩
  .rw[h]at z;cases z
  .rw[h]at z;cases z
 .exact .inl (.inr ⟨o,kf _ _ _ h⟩)
 .exact .inr h
section
variable{P:cq}{w:dH}{K:aq}{h:gD}{mg:bL->Option aM}{x dB m:bL}{st:lR}{ps N:List bL}{n:Nat}{C f:aB}{oc:aM}{od an:Option aB}{HP:Array (Option aM)}{kV doc pm cdv ct:aM}
def qB(x dB:bL)(st:lR)(ps:List bL):Prop:=∀(kV doc pm:aM)(an:Option aB)(cdv ct:aM)(us:List aM),us.length=ps.length->bindArgs (fk x dB (jK st) (i4 st) (cW st) .none kV doc pm an cdv ct) ⟨us,[]⟩=pure (ps.zip us)
def abQ(X:K.In h)(G:h.Ns dX mg)(S:QL N (N.take n) (cW st)=true)(b:qB x x st (N.take n))(a:pG K dX x=some (some (.ref f)))(l:K.lookup f=some ⟨oc,od,.func (fk x x (jK st) (i4 st) (cW st) .none kV doc pm an cdv ct),HP⟩)(c:mI K cdv x=true)(k:gP K (.ref f)=true):cu K mg x st N n:=⟨fsc S,f,_,y_ l c k,jw X G a,(y_ l c k).binds b⟩
def abR(S:QL N (N.take n) (cW st)=true)(b:qB m dB st (N.take n))(a:gw K (.ref C) m=some (some (.ref f)))(i:sX K (.ref f)=true)(l:K.lookup f=some ⟨oc,od,.func (fk m dB (jK st) (i4 st) (cW st) .none kV doc pm an cdv ct),HP⟩)(c:mI K cdv dB=true)(k:gP K (.ref f)=true):gj K C m dB st N n:=⟨fsc S,f,_,y_ l c k,⟨a,i,k⟩,(y_ l c k).binds b⟩
def abS(X:K.In h)(G:h.Ns dX mg)(S:QL N (N.take n) (cW st)=true)(b:qB "__init__" dB st (N.take n))(aC:pG K dX x=some (some (.ref C)))(mk:DE K C=true)(kc:gP K (.ref C)=true)(a:gw K (.ref C) "__init__"=some (some (.ref f)))(i:sX K (.ref f)=true)(l:K.lookup f=some ⟨oc,od,.func (fk "__init__" dB (jK st) (i4 st) (cW st) .none kV doc pm an cdv ct),HP⟩)(c:mI K cdv dB=true)(k:gP K (.ref f)=true):tT K mg x C dB st N n:=⟨fsc S,f,_,y_ l c k,⟨mk,a,i,kc⟩,jw X G aC,(y_ l c k).binds b⟩
def int_mk{i:Int}{t:SV}(X:K.In h)(G:h.Ns dX mg)(a:pG K dX x=some (some (.int i t))):dU mg x i:=⟨t,jw X G a⟩
def str_mk{y:bL}{t:SV}(X:K.In h)(G:h.Ns dX mg)(a:pG K dX x=some (some (.str y t))):QK mg x y:=⟨t,jw X G a⟩
def YL{xs:List V}{dj:Array aM}{n:Nat}(X:K.In h)(G:h.Ns dX mg)(a:pG K dX x=some (some (.ref f)))(l:K.lookup f=some ⟨.type "tuple",od,.seq dj n,HP⟩)(z:dj.size<=aH)(r:Vals xs dj.toList):Gi K mg x xs:=⟨f,jw X G a,λH=>.inr ⟨_,dj,n,l,rfl,rfl,z,r⟩⟩
def Wi{xs:List V}{dj:Array aM}{n:Nat}{H:Hp}(l:K.lookup f=some ⟨.type "tuple",od,.seq dj n,HP⟩)(z:dj.size<=aH)(r:Vals xs dj.toList):l_ K H f xs:=.inr ⟨_,dj,n,l,rfl,rfl,z,r⟩
def uH{i j:Int}{t u:SV}{n:Nat}{H:Hp}(l:K.lookup f=some ⟨.type "tuple",od,.seq #[.int i t,.int j u] n,HP⟩):l_ K H f [V.int i,V.int j]:=Wi l (by show 2<=aH;decide) (.cons ⟨_,rfl⟩ (.cons ⟨_,rfl⟩ .nil))
def LW{us:List aM}{n:Nat}(h:us.length=n+1):∃a l,us=a::l/\l.length=n:=by
 cases us with
 |nil=>cases h
 |cons a l=>exact⟨a,l,rfl,Nat.succ.inj h⟩
def bd0(p:ps.length=0)(h:∀k d m n v t,bindArgs (fk x dB (jK st) (i4 st) (cW st) .none k d m n v t) ⟨[],[]⟩=pure (ps.zip [])):qB x dB st ps:=by
 intro _ _ _ _ _ _ us l;replace l:=l.trans p;cases us with
 |nil=>apply h
 |cons=>cases l
def bd1(p:ps.length=1)(h:∀k d m n v t a,bindArgs (fk x dB (jK st) (i4 st) (cW st) .none k d m n v t) ⟨[a],[]⟩=pure (ps.zip [a])):qB x dB st ps:=by
 intro _ _ _ _ _ _ us l;replace l:=l.trans p;obtain⟨a,u0,rfl,l0⟩:=LW l;cases u0 with
 |nil=>apply h
 |cons=>cases l0
def bd2(p:ps.length=2)(h:∀k d m n v t a b,bindArgs (fk x dB (jK st) (i4 st) (cW st) .none k d m n v t) ⟨[a,b],[]⟩=pure (ps.zip [a,b])):qB x dB st ps:=by
 intro _ _ _ _ _ _ us l;replace l:=l.trans p;obtain⟨a,u0,rfl,l0⟩:=LW l;obtain⟨b,u1,rfl,l1⟩:=LW l0;cases u1 with
 |nil=>apply h
 |cons=>cases l1
def bd3(p:ps.length=3)(h:∀k d m n v t a b c,bindArgs (fk x dB (jK st) (i4 st) (cW st) .none k d m n v t) ⟨[a,b,c],[]⟩=pure (ps.zip [a,b,c])):qB x dB st ps:=by
 intro _ _ _ _ _ _ us l;replace l:=l.trans p;obtain⟨a,u0,rfl,l0⟩:=LW l;obtain⟨b,u1,rfl,l1⟩:=LW l0;obtain⟨c,u2,rfl,l2⟩:=LW l1;cases u2 with
 |nil=>apply h
 |cons=>cases l2
def bd4(p:ps.length=4)(h:∀k d m n v t a b c e,bindArgs (fk x dB (jK st) (i4 st) (cW st) .none k d m n v t) ⟨[a,b,c,e],[]⟩=pure (ps.zip [a,b,c,e])):qB x dB st ps:=by
 intro _ _ _ _ _ _ us l;replace l:=l.trans p;obtain⟨a,u0,rfl,l0⟩:=LW l;obtain⟨b,u1,rfl,l1⟩:=LW l0;obtain⟨c,u2,rfl,l2⟩:=LW l1;obtain⟨e,u3,rfl,l3⟩:=LW l2;cases u3 with
 |nil=>apply h
 |cons=>cases l3
def bd5(p:ps.length=5)(h:∀k d m n v t a b c e f,bindArgs (fk x dB (jK st) (i4 st) (cW st) .none k d m n v t) ⟨[a,b,c,e,f],[]⟩=pure (ps.zip [a,b,c,e,f])):qB x dB st ps:=by
 intro _ _ _ _ _ _ us l;replace l:=l.trans p;obtain⟨a,u0,rfl,l0⟩:=LW l;obtain⟨b,u1,rfl,l1⟩:=LW l0;obtain⟨c,u2,rfl,l2⟩:=LW l1;obtain⟨e,u3,rfl,l3⟩:=LW l2;obtain⟨f,u4,rfl,l4⟩:=LW l3;cases u4 with
 |nil=>apply h
 |cons=>cases l4
end
def LX:qB "answers" "answers" qU ["calls"]:=bd1 rfl (λ_ _ _ _ _ _ _=>by kernel_rfl)
def YM{P:cq}{w:dH}{K:aq}{mg:bL->Option aM}{a m a0 a1 a2 a3 a4 a5 a6 a7:aB}{t0 t1 t2 t3 t4 t5 t6 t7:SV}(hm:mg "NUMBER_KEYS"=some (.ref a))(lk:K.lookup a=some ⟨.type "dict",none,.dict #[⟨PyData.keyHash w.params "MaxRecvDataSegmentLength",.str "MaxRecvDataSegmentLength" t0,.ref a0⟩,⟨PyData.keyHash w.params "MaxBurstLength",.str "MaxBurstLength" t1,.ref a1⟩,⟨PyData.keyHash w.params "FirstBurstLength",.str "FirstBurstLength" t2,.ref a2⟩,⟨PyData.keyHash w.params "MaxOutstandingR2T",.str "MaxOutstandingR2T" t3,.ref a3⟩,⟨PyData.keyHash w.params "MaxConnections",.str "MaxConnections" t4,.ref a4⟩,⟨PyData.keyHash w.params "ErrorRecoveryLevel",.str "ErrorRecoveryLevel" t5,.ref a5⟩,⟨PyData.keyHash w.params "DefaultTime2Wait",.str "DefaultTime2Wait" t6,.ref a6⟩,⟨PyData.keyHash w.params "DefaultTime2Retain",.str "DefaultTime2Retain" t7,.ref a7⟩] m,(List.toArray [])⟩)(ns:(a==iX)=false)(h0:∀H,l_ K H a0 [V.int 512,V.int 16777215])(h1:∀H,l_ K H a1 [V.int 512,V.int 16777215])(h2:∀H,l_ K H a2 [V.int 512,V.int 16777215])(h3:∀H,l_ K H a3 [V.int 1,V.int 65535])(h4:∀H,l_ K H a4 [V.int 1,V.int 65535])(h5:∀H,l_ K H a5 [V.int 0,V.int 2])(h6:∀H,l_ K H a6 [V.int 0,V.int 3600])(h7:∀H,l_ K H a7 [V.int 0,V.int 3600]):aaB P w K mg:=by obtain⟨f,rfl,rfl,rfl,rfl,rfl,rfl,rfl,rfl⟩:∃f:bL->aB,f "MaxRecvDataSegmentLength"=a0/\f "MaxBurstLength"=a1/\f "FirstBurstLength"=a2/\f "MaxOutstandingR2T"=a3/\f "MaxConnections"=a4/\f "ErrorRecoveryLevel"=a5/\f "DefaultTime2Wait"=a6/\f "DefaultTime2Retain"=a7:=⟨λx=>(([("MaxRecvDataSegmentLength",a0),("MaxBurstLength",a1),("FirstBurstLength",a2),("MaxOutstandingR2T",a3),("MaxConnections",a4),("ErrorRecoveryLevel",a5),("DefaultTime2Wait",a6),("DefaultTime2Retain",a7)]:List (bL×aB)).lookup x).getD 0,by kernel_rfl,by kernel_rfl,by kernel_rfl,by kernel_rfl,by kernel_rfl,by kernel_rfl,by kernel_rfl,by kernel_rfl⟩;exact⟨a,f,hm,Iu [("MaxRecvDataSegmentLength",t0,.ref (f "MaxRecvDataSegmentLength")),("MaxBurstLength",t1,.ref (f "MaxBurstLength")),("FirstBurstLength",t2,.ref (f "FirstBurstLength")),("MaxOutstandingR2T",t3,.ref (f "MaxOutstandingR2T")),("MaxConnections",t4,.ref (f "MaxConnections")),("ErrorRecoveryLevel",t5,.ref (f "ErrorRecoveryLevel")),("DefaultTime2Wait",t6,.ref (f "DefaultTime2Wait")),("DefaultTime2Retain",t7,.ref (f "DefaultTime2Retain"))] _ lk (show(["MaxRecvDataSegmentLength","MaxBurstLength","FirstBurstLength","MaxOutstandingR2T","MaxConnections","ErrorRecoveryLevel","DefaultTime2Wait","DefaultTime2Retain"]:List bL).Nodup by decide+kernel) (.cons ⟨rfl,rfl⟩ (.cons ⟨rfl,rfl⟩ (.cons ⟨rfl,rfl⟩ (.cons ⟨rfl,rfl⟩ (.cons ⟨rfl,rfl⟩ (.cons ⟨rfl,rfl⟩ (.cons ⟨rfl,rfl⟩ (.cons ⟨rfl,rfl⟩ (.nil))))))))) (by show 8<=aH;decide) ns,h0,h1,h2,h3,h4,h5,h6,h7⟩
def SH{P:cq}{w:dH}{K:aq}{mg:bL->Option aM}{a m:aB}{t0 t1 t2 t3 t4 t5 t6 u0 u1 u2 u3 u4 u5 u6:SV}(hm:mg "AT_FIRST"=some (.ref a))(lk:K.lookup a=some ⟨.type "dict",none,.dict #[⟨PyData.keyHash w.params "HeaderDigest",.str "HeaderDigest" t0,.str "None" u0⟩,⟨PyData.keyHash w.params "DataDigest",.str "DataDigest" t1,.str "None" u1⟩,⟨PyData.keyHash w.params "InitialR2T",.str "InitialR2T" t2,.str "Yes" u2⟩,⟨PyData.keyHash w.params "ImmediateData",.str "ImmediateData" t3,.str "Yes" u3⟩,⟨PyData.keyHash w.params "MaxRecvDataSegmentLength",.str "MaxRecvDataSegmentLength" t4,.int 8192 u4⟩,⟨PyData.keyHash w.params "MaxBurstLength",.str "MaxBurstLength" t5,.int 262144 u5⟩,⟨PyData.keyHash w.params "FirstBurstLength",.str "FirstBurstLength" t6,.int 65536 u6⟩] m,(List.toArray [])⟩)(ns:(a==iX)=false):aaC P w K mg:=⟨a,hm,Iu [("HeaderDigest",t0,.str "None" u0),("DataDigest",t1,.str "None" u1),("InitialR2T",t2,.str "Yes" u2),("ImmediateData",t3,.str "Yes" u3),("MaxRecvDataSegmentLength",t4,.int 8192 u4),("MaxBurstLength",t5,.int 262144 u5),("FirstBurstLength",t6,.int 65536 u6)] _ lk (show(["HeaderDigest","DataDigest","InitialR2T","ImmediateData","MaxRecvDataSegmentLength","MaxBurstLength","FirstBurstLength"]:List bL).Nodup by decide+kernel) (.cons ⟨rfl,⟨_,rfl⟩⟩ (.cons ⟨rfl,⟨_,rfl⟩⟩ (.cons ⟨rfl,⟨_,rfl⟩⟩ (.cons ⟨rfl,⟨_,rfl⟩⟩ (.cons ⟨rfl,⟨_,rfl⟩⟩ (.cons ⟨rfl,⟨_,rfl⟩⟩ (.cons ⟨rfl,⟨_,rfl⟩⟩ (.nil)))))))) (by show 7<=aH;decide) ns⟩
end My
section
open L2
namespace PySem.W.Fast
def tw3107971275875828605:=V
def tw6942104967257159891:=V
def tw1935046509058845450:=V
def tw12507850915628267789:=V
def tw6179655782410201238:=V
def tw10818418617227580584:=V
def tw6323236188222855031:=V
def tw17794245045189575293:=V
def tw11046796114700878079:=V
def tw10570902940954339921:=V
def tw17557231225101557500:=V
def tw8531320146315331394:=V
def tw4597360518860151172:=V
def tw15461315444609072317:=V
def tw4226518088382724055:=V
def tw3883244669755503330:=V
def tw9103177559454649725:=V
def tw8393441300404221045:=V
def tw4530482304888518393:=V
def tw6940203964441210169:=V
def tw7483605278036593633:=V
def tw6805279369936945496:=V
def tw4649700327649347367:=V
def tw6375900308153246257:=V
def tw1517123888554815592:=V
def tw12468722008761047945:=V
def tw6387002017766689468:=V
def tw2925874425159981931:=V
def tw10103010700306240969:=V
def tw7766516766375023867:=V
def tw6164575987437789966:=V
def tw10434963911335187404:=V
def tw2034705355893585922:=V
def tw10086234826442318561:=V
def tw11988158374434776997:=V
def tw14992488862824407310:=V
def tw8428133440690062019:=V
def tw12903042713387597941:=V
def tw14224058886016300562:=V
def tw16103175300332715432:=V
def tw13976777836586093615:=V
def tw13063246618173855370:=V
def tw16946009321379261230:=V
def tw6417863503041157622:=V
def tw3459263313685434375:=V
def tw763308075739428773:=V
def tw6969500592043659205:=V
def tw10451218335857026898:=V
def tw11026507663891862847:=V
def tw16449896776582403108:=V
def tw346101646455053370:=V
def tw11069515712603326524:=V
def tw11623033398615200024:=V
def tw2862762460113584807:=V
def tw10188707242261906721:=V
def tw1596943334795954447:=V
def tw11163053704895132921:=V
def tw9865955499217649165:=V
def tw1471374395375677549:=V
def tw13156337074801941746:=V
def tw3500748156765652550:=V
def tw15914542839316695802:=V
def tw4565205645357087751:=V
def tw8370094897476798511:=V
def tw12688292425472702267:=V
def tw13831941529112173853:=V
def tw13621203100195980280:=V
def tw12238602118481064458:=V
def tw11476399084441645120:=V
def tw13208342488267781436:=V
def tw3574764353290431673:=V
def tw2860920204488810565:=V
def tw17011503836421653401:=V
def tw6858979572392885657:=V
def tw18199781674376725565:=V
def tw15397280313400980844:=V
def tw14329483090171599119:=V
def tw15377651711538865947:=V
def tw11662986670908464927:=V
def tw13735430142632122699:=V
def tw32365471791978589:=V
def tw329209144232258097:=V
def tw5262649726959526907:=V
def tw18344103252242687612:=V
def tw4831514550543454276:=V
def tw9841502620937355082:=V
def tw4355525566336683252:=V
def tw4879592494969820214:=V
def tw11618897579930175282:=V
def tw18359372839122492926:=V
def tw12992543842841558669:=V
def tw13366907943308083249:=V
def tw14943736816528128631:=V
def tw14521340791649566111:=V
def tw10881278487740118872:=V
def tw13915118008798242874:=V
def tw11751212965662046017:=V
def tw4257532663857057866:=V
def tw5006803719663879341:=V
def tw15028295539784152174:=V
def tw17645386263214072372:=V
def tw5556552280795962:=V
def tw4437818358583332185:=V
def tw3646175422541052803:=V
def tw7116257204219256769:=V
def tw17970129592812327932:=V
def tw14918628812656187012:=V
def tw15666749932219351206:=V
def tw6667938281644299630:=V
def tw6972775089965501714:=V
def tw12745534864872217352:=V
def tw15374947512888703779:=V
def tw18109508746590320521:=V
def tw6382514098143677156:=V
def tw10285468484249667746:=V
def tw10746374409247390807:=V
def tw16194557804272686938:=V
def tw17431395306599424601:=V
def tw483722555188071019:=V
def tw16056660547827538006:=V
def tw8966567343668496670:=V
def tw10862209635486588244:=V
def tw2442792147806115632:=V
def tw14500410667046573720:=V
def tw18373424900447358131:=V
def tw883699149200876651:=V
def tw14857707915225371055:=V
def tw375619320392376975:=V
def tw4132546876440578490:=V
def tw12355542253238950689:=V
def tw1653568809974495365:=V
def tw14047688353125200763:=V
def tw13963217393309402955:=V
def tw7568493037546340111:=V
def tw6748516760015551534:=V
def tw13060104318515644800:=V
def tw1274158436423859852:=V
def tw10770923371328803473:=V
def tw2529654043827816976:=V
def tw1676144817754147035:=V
def tw7260524850964611358:=V
def tw5402989056496980653:=V
def tw15926118893866928899:=V
def tw17932262174648345913:=V
def tw18124343374556318192:=V
def tw3476984774807136264:=V
def tw6516248173681132999:=V
def tw6884418977977573437:=V
def tw9611365559855445867:=V
def tw1214846592124255691:=V
def tw9853554454792241206:=V
def tw11200035773008259308:=V
def tw13535669273974906422:=V
def tw17013988585175722074:=V
def tw9859873620813255669:=V
def tw2359986433915773319:=V
def tw9919597868010074092:=V
def tw17213675754082554573:=V
def tw3141564400706500475:=V
def tw12052392070336615227:=V
def tw936190208059189635:=V
def tw9637553126634164829:=V
def tw9490425279220347717:=V
def tw15753752006296735073:=V
def tw6900367803511664911:=V
def tw2654183712301206573:=V
def tw15171393600137466918:=V
def tw2971335910327875070:=V
def tw15516838318574874471:=V
def tw12341388114483799120:=V
def tw14959379220433608966:=V
def tw6408916514784249081:=V
def tw18170719897569588100:=V
def tw7315983550600452313:=V
def tw17397545449585661697:=V
def tw5130050280059392541:=V
def tw15318080084593845994:=V
def tw6348231120955738631:=V
def tw10673281874560835052:=V
def tw5882339299596393193:=V
def tw6683564222250441652:=V
def tw5889717493916138819:=V
def tw3898641213821764465:=V
def tw12884625368199147159:=V
def tw1273015821024010474:=V
def tw15379623484942839496:=V
def tw3631406787848719590:=V
def tw1772084464038409294:=V
def tw4830383522541253062:=V
def tw7006062018664533705:=V
def tw4401458269923687585:=V
def tw4786953514783048987:=V
def tw1265873512444543979:=V
def tw8204375285126896618:=V
def tw1150095669673783401:=V
def tw13267775315582624952:=V
def tw11323207056741071785:=V
def tw4642620663861887814:=V
def tw9717468089187502579:=V
def tw3099184271203323300:=V
def tw418801479743092221:=V
def tw4332994260256629123:=V
def tw14313218996078427846:=V
def tw4717769362385062495:=V
def tw8207150231119027469:=V
def tw2853760349261036940:=V
def tw9257628253253642152:=V
def tw13869749064891727545:=V
def tw2996139980009399449:=V
def tw17514886602302363251:=V
def tw5442957480516565748:=V
def tw3450304965133165823:=V
def tw128287667536864076:=V
def tw12143011233984726655:=V
def tw8497868746704560138:=V
def tw14694053574924027690:=V
def tw9048368616340630311:=V
def tw5869256898656373992:=V
def tw12156515367746968996:=V
def tw6387262951044889000:=V
def tw4210224155566947005:=V
def tw488114523338257842:=V
def tw704141267035286020:=V
def tw5600846460515773898:=V
def tw11412592200120625919:=V
def tw15513526644516570517:=V
def tw12440093188285931092:=V
def tw18311489473030459146:=V
def tw17789530050362243855:=V
def tw8680380675725450164:=V
def tw9478881359906517074:=V
def tw3544130010289923828:=V
def tw9742418941997707297:=V
def tw9615314166946134259:=V
def tw386905323599028912:=V
def tw17023302791101247473:=V
def tw16634665421411930411:=V
def tw14061883692094775862:=V
def tw585382813830241691:=V
def tw12770224157739754965:=V
def tw15508176754723587037:=V
def tw536498642589022235:=V
def tw564981606748662801:=V
def tw3010828277941569065:=V
def tw1634227786599292998:=V
def tw16820786600879092292:=V
def tw4138593442766736192:=V
def tw4938890986086055924:=V
def tw16644238401473674726:=V
def tw1934093337354661983:=V
def tw7778926733316446922:=V
def tw16540463850945685211:=V
def tw11184101780569230640:=V
def tw4924806210725267582:=V
def tw15496359889255068166:=V
def tw3998755273912351165:=V
def tw13001939567012972171:=V
def tw16546335523184143451:=V
def tw8909655452700350545:=V
def tw12110952177778499224:=V
def tw1926649381974857929:=V
def tw15778324768885450871:=V
def tw5623423780528077497:=V
def tw497388679178368222:=V
def tw7386497527215190436:=V
def tw5280054747053724816:=V
def tw4910649416192923259:=V
def tw16219922351857561292:=V
def tw8318980280441723174:=V
def tw4204812131942625233:=V
def tw10518590392617106634:=V
def tw4288887041559735876:=V
def tw13771211052475578968:=V
def tw17725566094892730529:=V
def tw9111947406616693521:=V
def tw1569304481320588634:=V
def tw13114939403824019480:=V
def tw11463407411647569018:=V
def tw13301532385406123956:=V
def tw4771311903351761064:=V
def tw9051713915466720870:=V
def tw685188584833574352:=V
def tw14774402690974490924:=V
def tw15608590590420057298:=V
def tw8003521115148787555:=V
def tw5535890079317323857:=V
def tw16027051988875019526:=V
def tw17297721553647179561:=V
def tw13237092872043239379:=V
def tw17397773247750095642:=V
def tw17108614051159308723:=V
def tw1406372893591481365:=V
def tw5709365542405428674:=V
def tw10848882948166825361:=V
def tw13896603368439304468:=V
def tw7845934221777773260:=V
def tw1836646899387185201:=V
def tw14388448983802513701:=V
def tw17616201880224352165:=V
def tw6432687779639153463:=V
def tw16133202450569149923:=V
def tw14123640689128529501:=V
def tw10318026233185071596:=V
def tw2023864631802318029:=V
def tw16379802058092494173:=V
def tw1722599228681294393:=V
def tw10888114922913041912:=V
def tw3457065897914047641:=V
def tw3168149880663378492:=V
def tw12245292186362104474:=V
def tw18186548160214773846:=V
def tw2977434360595140719:=V
def tw4093522400725510207:=V
def tw15835220603289548375:=V
def tw8874291605101916237:=V
def tw7916694734807778307:=V
def tw5564364769498876287:=V
def tw564659502498864837:=V
def tw2991120303979533844:=V
def tw16047620627117150393:=V
def tw15039102148803803921:=V
def tw15029250545476322567:=V
def tw15742810916919104820:=V
def tw11978114142979218375:=V
def tw11566766799065090550:=V
def tw10898834727494471668:=V
def tw6787325094464803861:=V
def tw11635499967022071237:=V
def tw15429181540402706970:=V
def tw2587631941656459014:=V
def tw13360611452618720279:=V
def tw10369923896098966731:=V
def tw9303170633472252352:=V
def tw3289297217640491898:=V
def tw16060161497827111531:=V
def tw5343058274935734333:=V
def tw5393485806614603936:=V
def tw2636343921641454521:=V
def tw9450183401985354158:=V
def tw5346882655449023581:=V
def tw5412182819085235798:=V
def tw6585729251883038512:=V
def tw4101358307315284052:=V
def tw4484411441411179939:=V
def tw16074732547041729766:=V
def tw2729803134521862908:=V
def tw8429303128705476499:=V
def tw16554066337832963429:=V
def tw8451847308712164408:=V
def tw17216045794087231873:=V
def tw7651388318472704522:=V
def tw2180737006861474778:=V
def tw10890757623671016935:=V
def tw8034819516403612223:=V
def tw16986660303363466520:=V
def tw12619804893462351260:=V
def tw7608623310687674883:=V
def tw9277314741370341853:=V
def tw17467851935400278523:=V
def tw12175796747288314113:=V
def tw3790610475215299375:=V
def tw14424331739623177741:=V
def tw11383399396617149694:=V
def tw11110968352363202518:=V
def tw16450773318191562808:=V
def tw8535069587740665769:=V
def tw7539949830574109625:=V
def tw15251327641400085761:=V
def tw7769941641283916116:=V
def tw8325055556717600677:=V
def tw15539383503521608068:=V
def tw10177520060883307030:=V
def tw2638383739833956452:=V
def tw9349559316429728484:=V
def tw6004034272537018744:=V
def tw14407256222578483364:=V
def tw12014204657983196791:=V
def tw7699683582150129187:=V
def tw13458519948378379646:=V
def tw4765557365989365925:=V
def tw3938499524064860453:=V
def tw14158784521804963109:=V
def tw10031788808015296889:=V
def tw7472628826040083746:=V
def tw8047305307500764334:=V
def tw14475413476845212456:=V
def tw13297665722998569910:=V
def tw6231624713813233551:=V
def tw3256785357402208007:=V
def tw14604489202957387129:=V
def tw9095580494327203360:=V
def tw10132844409874588014:=V
def tw14323622738004891014:=V
def tw16869028657825454206:=V
def tw11450365863150273438:=V
def tw5163910680357036329:=V
def tw16836593293971151355:=V
def tw12473007746574718316:=V
def tw6325611713426410005:=V
def tw14101142571356954333:=V
def tw10552620885004843199:=V
def tw7690040039168592683:=V
def tw7305715509024743992:=V
def tw14121395249537101843:=V
def tw17512108244148790115:=V
def tw11024188538430494412:=V
def tw1588635434444626393:=V
def tw12569703668141783888:=V
def tw7990717091724378451:=V
def tw9863151349137169250:=V
def tw5976631605018469263:=V
def tw5519386877035961185:=V
def tw11622973600231473048:=V
def tw3642429010253250180:=V
def tw16908605566917153969:=V
def tw11434005860496091837:=V
def tw15126589002004579244:=V
def tw3677781990486772375:=V
def tw6340306974736473428:=V
def tw16138055331171721273:=V
def tw15600534030240956743:=V
def tw9781828989880852212:=V
def tw8135589674826240822:=V
def tw8443539986138228347:=V
def tw17735376637513925050:=V
def tw16563548579657903404:=V
def tw9967002999794123621:=V
def tw8271586994663378700:=V
def tw16844197117649563744:=V
def tw2990651830375858375:=V
def tw14640896715751966730:=V
def tw12973439880343468548:=V
def tw15571020887965014230:=V
def tw1909137708591515003:=V
def tw2523413221817190034:=V
def tw2320969911366770703:=V
def tw8930615763171357501:=V
def tw14000878198421431184:=V
def tw12370978966161809476:=V
def tw1072265430579176596:=V
def tw4034100797165434476:=V
def tw13217522313343977123:=V
def tw9064277767720642853:=V
def tw2386303614056276534:=V
def tw15588471228088429422:=V
def tw13421276408347037123:=V
def tw4752650107959056315:=V
def tw8007191081909927421:=V
def tw7625965569561920422:=V
def tw4495174740316640055:=V
def tw4248883145280280091:=V
def tw3336933245907774815:=V
def tw18129665799480288950:=V
def tw8119882156931884417:=V
def tw791204912361542947:=V
def tw3960021337018134025:=V
def tw9431996525086388536:=V
def tw829435598833819775:=V
def tw4364332088284642051:=V
def tw11557024498491261487:=V
def tw5553077199300696975:=V
def tw5550923522247064768:=V
def tw3851288673538034373:=V
def tw2020222255700480911:=V
def tw15136793820757054060:=V
def tw12578947642412813662:=V
def tw9951606708296302754:=V
def tw9462751227874200332:=V
def tw3290375665176018315:=V
def tw1817416902889328978:=V
def tw10694614103211246647:=V
def tw16882554726897761072:=V
def tw15527956459672846647:=V
def tw13370194424128424998:=V
def tw1404962975665993601:=V
def tw11254879248065901949:=V
def tw10951687834378135445:=V
def tw8335513505129432228:=V
def tw7721819470522204757:=V
def tw5571353964898763818:=V
def tw8873879397266581326:=V
def tw3623358672148955292:=V
def tw17733855439575922480:=V
def tw18058178355289656607:=V
def tw9726556120092340705:=V
def tw1519713460533520560:=V
def tw8941172857685575296:=V
def tw3118951487564727186:=V
def tw2829117825320903585:=V
def tw10875232683793432151:=V
def tw15407341141199730340:=V
def tw11838418690587311771:=V
def tw8106521322174451702:=V
def tw5962268296444573688:=V
def tw17461543357026776004:=V
def tw14856387600029141460:=V
def tw9619088100229842262:=V
def tw10026055576180119787:=V
def tw9862895040099650084:=V
def tw5630944389626898473:=V
def tw540497865879464868:=V
def tw6508875096667302887:=V
def tw208205192473889876:=V
def tw16605684769569545980:=V
def tw8246889677283023929:=V
def tw16348678175043057643:=V
def tw1077708670590238520:=V
def tw7576901183184701475:=V
def tw17625397853002225888:=V
def tw16524930145954448843:=V
def tw9204631596913664870:=V
def tw4337507469665524694:=V
def tw2861469184007102096:=V
def tw18438015372760438330:=V
def tw12110963772800559711:=V
def tw9704438780789228137:=V
def tw9965882618294074765:=V
def tw18409600950470702401:=V
def tw15344342653466137732:=V
def tw3960194209133419691:=V
def tw18418391652901453799:=V
def tw8113441079197749114:=V
def tw4804858202360744812:=V
def tw16155318762665407302:=V
def tw15756378679674818250:=V
def tw9493465400876994619:=V
def tw1533362356744515081:=V
def tw12617922142872177238:=V
def tw11974089041018428207:=V
def tw10647960249942991774:=V
def tw3820093612453413915:=V
def tw74160243504576183:=V
def tw2921180070450966286:=V
def tw1397878585635599626:=V
def tw7140954222057897156:=V
def tw13646714159294894076:=V
def tw484978824614873783:=V
def tw13967892898613372018:=V
def tw7270719690545559838:=V
def tw492418910038718827:=V
def tw16887144155123869358:=V
def tw16597726456407275321:=V
def tw8648999594947577720:=V
def tw3227328082367957429:=V
def tw2204051526468532195:=V
def tw17437437059967208454:=V
def tw12649735999632521088:=V
def tw6300582243645030330:=V
def tw1883197011830185603:=V
def tw4344473622157179887:=V
def tw3680571649212416881:=V
def tw6009133259624090337:=V
def tw3955762238548965330:=V
def tw502003316360741311:=V
def tw7345485988415050485:=V
def tw4880996326631693768:=V
def tw1130375347555136234:=V
def tw1496391248128333138:=V
def tw4772954383522804544:=V
def tw10754125585176757424:=V
def tw7942847378597936446:=V
def tw198645401800247844:=V
def tw13804362224400304602:=V
def tw559193526896872202:=V
def tw9152877007587483111:=V
def tw6643516489837114825:=V
def tw10257680841054462684:=V
def tw18396011958387195800:=V
def tw15888610357737932005:=V
def tw15140782571955677326:=V
def tw4100198603906189709:=V
def tw17500808154547205424:=V
def tw7204063972899046323:=V
def tw7843514344313820446:=V
def tw695327849142902472:=V
def tw6540069734516576320:=V
def tw4808456927630074188:=V
def tw8931097076009411739:=V
def tw8894581811123039929:=V
def tw10992385142731204533:=V
def tw2874377541185024147:=V
def tw18318748379277822801:=V
def tw11854930828859851439:=V
def tw15648568337898914317:=V
def tw11779193820549027801:=V
def tw10668735848881229014:=V
def tw7531475925069540168:=V
def tw18390335779873026278:=V
def tw8851974161634004308:=V
def tw403701051908093952:=V
def tw3887689156258523392:=V
def tw178020071017201486:=V
def tw1729562050855688933:=V
def tw16782682692259180189:=V
def tw1519049311923014088:=V
def tw15974570062692859000:=V
def tw6622938402849655339:=V
def tw5731264470794892361:=V
def tw10070795765902498898:=V
def tw5089046044646868839:=V
def tw5712105621744000421:=V
def tw9103722637126703593:=V
def tw6316290155192517305:=V
def tw17039414474864370581:=V
def tw16648829866221534029:=V
def tw14339801244609108874:=V
def tw8151781973146888678:=V
def tw8072218566767297064:=V
def tw3478506322096021565:=V
def tw16647524094058219886:=V
def tw11620887256415031250:=V
def tw5554782276634388409:=V
def tw3173736900605415735:=V
def tw2691662551241128786:=V
def tw254356790370655624:=V
def tw1825902509337493473:=V
def tw8939693295711222594:=V
def tw6643469629650762216:=V
def tw18361678534901292351:=V
def tw9971165198028388596:=V
def tw6747822245501694164:=V
def tw2493240297950661478:=V
def tw1871819439200988943:=V
def tw17013195892921108991:=V
def tw141568200324065232:=V
def tw13678185292104021843:=V
def tw12114633388993722551:=V
def tw17152217032888228053:=V
def tw13657072578868062950:=V
def tw1274425614824514754:=V
def tw11172031633104972288:=V
def tw17797854596241976738:=V
def tw10463815891165328142:=V
def tw9977774636840851495:=V
def tw4139369542233331500:=V
def tw13197471845871655240:=V
def tw11830924874284953664:=V
def tw10546963302186088283:=V
def tw3109201920907233198:=V
def tw3433605986422523400:=V
def tw1747725239099418834:=V
def tw9356157238669751936:=V
def tw4581888463031900116:=V
def tw2188744221546112579:=V
def tw15106345549932833802:=V
def tw14959095162041453039:=V
def tw13481536672630391643:=V
def tw15270445447245077139:=V
def tw8753665126593788374:=V
def tw8622079314730467605:=V
def tw8075412890155142595:=V
def tw7722187485227967279:=V
def tw7562747086085759627:=V
def tw6497028170562481548:=V
def tw5992310754696972422:=V
def tw5753321475402857893:=V
def tw5688056037113683209:=V
def tw5399694020779645022:=V
def tw4692829366054995792:=V
def tw4686652634450011534:=V
def tw18234116677032552114:=V
def tw18115983022651941704:=V
def tw180203566542502992:=V
def tw16950346778882061867:=V
def tw16563021117059182712:=V
def tw16243278426103054233:=V
def tw15602796805994022725:=V
def tw15343333892241132342:=V
def tw14417076639879502201:=V
def tw13071548098360970208:=V
def tw12900006920213630619:=V
def tw12782801373183396687:=V
def tw11535452959455219504:=V
def tw11535145299689034783:=V
def tw11533706705842504237:=V
def tw11164256038029378113:=V
def tw10539149957082526129:=V
def tw9580066903186825488:=V
def tw9111219351374375908:=V
def tw9015582986588062731:=V
def tw8709605488973937673:=V
def tw6925868024252196724:=V
def tw2135365554779244455:=V
def tw17087640260490968448:=V
def tw17047843867932853145:=V
def tw1255659692354464738:=V
def tw3044473962436469406:=V
def tw9456702221086689386:=V
def tw7804584832147508211:=V
def tw5752047136623365616:=V
def tw5308793530947503706:=V
def tw13215758585149182899:=V
def tw11575891429812861718:=V
def tw11513239809990378767:=V
def tw10009584808638598204:=V
def tw9197901865440759794:=V
def tw2833043756021094445:=V
def tw9557430698855836960:=V
def tw6430862424808883152:=V
def tw4835337369812499817:=V
def tw4472507544116687095:=V
def tw1899078615665564827:=V
def tw14492153977258928884:=V
def tw10644866409992413413:=V
def tw6968572284303663937:=V
def tw5105010061883355649:=V
def tw15604635381320336386:=V
def tw1334592064400366860:=V
def tw11703415671550754588:=V
def tw1330865104174426993:=V
def tw12978143895437912119:=V
def tw8832320256448989079:=V
def tw5108877141450692352:=V
def tw4964369244361407824:=V
def tw18075903938482995650:=V
def tw13213004449163832308:=V
def tw12968499260668817990:=V
def tw1219886102222035074:=V
def tw11276840544311171169:=V
def tw10922175186807284851:=V
def tw9996985528124830821:=V
def tw9941043258811926361:=V
def tw9801774488143794030:=V
def tw9654602018687637243:=V
def tw963089585606695906:=V
def tw9591321058963201087:=V
def tw9543435281979675530:=V
def tw9510831226277373251:=V
def tw9486351293766322354:=V
def tw9395824676666066060:=V
def tw9390696062621135481:=V
def tw9361576690885934447:=V
def tw9281173495863751679:=V
def tw9201275015102638873:=V
def tw9159732024951127632:=V
def tw9093126525465641797:=V
def tw9013714530619513147:=V
def tw8989686060211327405:=V
def tw8966152869300618692:=V
def tw896444191881091391:=V
def tw8953988008647665838:=V
def tw8931774062400132062:=V
def tw8861879807160317208:=V
def tw8738538145795790838:=V
def tw8724564457148533677:=V
def tw8669927915945503087:=V
def tw8658599272644958088:=V
def tw8625937377200592449:=V
def tw8625077650369413129:=V
def tw8564164233878113386:=V
def tw8542545298888834064:=V
def tw8529532721027855212:=V
def tw84153660535359337:=V
def tw8410374582420719767:=V
def tw8397319670245741935:=V
def tw8390594819283891405:=V
def tw8372908527000419836:=V
def tw8264256733147556394:=V
def tw8230825126453811289:=V
def tw818205117219267544:=V
def tw8180362716979965988:=V
def tw8112841089518887420:=V
def tw8109580597047677582:=V
def tw7896955632226049430:=V
def tw786004101998553092:=V
def tw7818048777330914416:=V
def tw7754225856273125158:=V
def tw7698265461629186939:=V
def tw761979690544509969:=V
def tw7562854506443190131:=V
def tw7452675600624875935:=V
def tw7409009049908651100:=V
def tw7225214204154735121:=V
def tw7211914298742167293:=V
def tw7207120309276345637:=V
def tw7141228303967799975:=V
def tw7136936681364528676:=V
def tw700589755475479620:=V
def tw6950258219021187154:=V
def tw690777582107595270:=V
def tw6881995613078434514:=V
def tw6763649243924697284:=V
def tw6727937298165693893:=V
def tw6716109089464991748:=V
def tw6670411160845141567:=V
def tw6613492546091407235:=V
def tw6422726101265968602:=V
def tw6313323871143541306:=V
def tw6191254040692730516:=V
def tw6069532524976562443:=V
def tw6041125944202703770:=V
def tw5970648644432180016:=V
def tw5912299362251847358:=V
def tw5889742064577633661:=V
def tw5885615027900344983:=V
def tw5832308841333220360:=V
def tw5806561042154825733:=V
def tw5657804204721115263:=V
def tw5638905718306505295:=V
def tw5601594381456828759:=V
def tw5522173155778686518:=V
def tw545461490370471889:=V
def tw5422470427796972146:=V
def tw5417637008430655038:=V
def tw5405651884293678560:=V
def tw5396019509682814814:=V
def tw5348748573941198058:=V
def tw5346969651539854140:=V
def tw5329167891890389661:=V
def tw5311221945712150476:=V
def tw5209326723499073569:=V
def tw5196631959358585475:=V
def tw5188592103604632586:=V
def tw5185439574477546791:=V
def tw5150143124213962673:=V
def tw5119805995645996010:=V
def tw507988952932686327:=V
def tw5061272680753602830:=V
def tw5029491725097063774:=V
def tw5011099960658511619:=V
def tw4960740699064439498:=V
def tw4894785557618096497:=V
def tw4851769350646352857:=V
def tw4844584070351090848:=V
def tw4817454268464948863:=V
end PySem.W.Fast
end
open PySem PySem.W PyProof.Rows
namespace My
def qS:cq:={rB with main:={PySem.Challenge.pw_fardisk_s01_answers.main with body:=[top 204]}}
def looseS:List bL:=(["BLOCKS","BLOCK_SIZE","Disk","SIGNS","FIRST_SIGN","number_at","put_number","put_octets","filled_size","filled","octets_of","sign_of","text_of","LONGEST_KEY","LONGEST_VALUE","EQUALS","NAMES_OF_FIRST","SUMS","CHOICES","ALWAYS_YES","NUMBER_KEYS","OWN_LIMIT","LONGEST_BURST","LONGEST_FIRST_BURST","SHORTEST_WAIT","REJECT","rows_of","pair_of","pairs_of","number_said","answer_number","answer_sums","answer_choice","answer_key","NOBODY","Task","WORK","AT_FIRST","Session","ALL_ONES","HALVES","crc32c","sum_of","HEADER_SIZE","SUM_SIZE","NUMBERS","WINDOW","TooMuch","new_header","Turn","LOGIN_ANSWER","GO_ON","MUST_BE_ZERO","MOST_KEYS","LONGEST_NAME","DISK_NAME","STEPS","REFUSED","NOT_AS_TOLD","NO_WAY_IN","NOT_FOUND","WRONG_VERSION","NAME_MISSING","WRONG_SESSION","NO_SUCH_SESSION","where_it_is","where_to","stands_right","leads_right","keys_are_new","refusal_of_form","refusal_of_first","refusal_of_keys","refusal_of","answer_keys","new_answer","refuse","accept","take_login","SENSE_SIZE","TEST_READY","GIVE_SENSE","INQUIRY","CAPACITY","READ","WRITE","FLUSH","LIST_PLACES","NO_SENSE","WRONG_REQUEST","ATTENTION","UNKNOWN_COMMAND","BEYOND_DISK","WRONG_FIELD","NOT_THE_DISK","BEGINS_ANEW","Outcome","sense_of","failed","found","nothing","inquire","list_places","give_sense","tell_capacity","use_blocks","do_command","STATUS","DATA_IN","LAST_telling","WITH_STATUS","FEWER","MORE","SOMETHING_WRONG","NO_ROOM","put_rest","status_header","wanted_size","tell_no_room","tell_wrong","tell_end","piece_end","data_header","tell_read","tell","ASKED","LAST_writing","MOST_WAITING","MOST_WRITTEN","TAG_IN_USE","NOT_ALLOWED","more_follow","own_data_wrong","following_wrong","rejection_of","finish","ask","go_on","start_collecting","start_task","data_wrong","take_data","AT_ONCE","PING","COMMAND","MANAGE","DATA_OUT","LOGOUT","NUMBERED","PING_ANSWER","MANAGE_ANSWER","LOGOUT_ANSWER","REJECTED","ALONE","UNKNOWN_PACKET","WAIT_SECONDS","reject","is_next","take_ping","take_command","give_up_one","begin_anew","manage","take_manage","take_logout","take_work","LOGIN","LATE_LOGINS","MOST_DATA","header_wrong","data_begin","packet_size","header_sum_wrong","data_sum_wrong","packet_wrong","take_packet","take_octets","LINES","MOST_TAKEN","MOST_GIVEN","IT_BEGIN","IT_OPEN","IT_RECV","IT_CLOSED","IT_BLOCK","IT_TASKS","UnknownCall","is_line","Target","answer_to"]:List String).map ay
abbrev p:cq:=rB
abbrev RM:OpenSpec:=rC
set_option maxRecDepth 100000
set_option maxHeartbeats 0
def wsA:sreFenced p.main=true:=by decide+kernel
def wsB:((moduleNames p.main.body).isEmpty||lookedIntoSs (moduleNames p.main.body) p.main.body)=true:=by decide+kernel
def wsC:namesResolve p=true:=by decide+kernel
def wsD:p.boundNames.all (λn=> !worldNames.contains n)=true:=by decide+kernel
def wsE:noRoadLSs {strict:= !(importedModules p.main.body).all cThrough.contains,foot:=none,bare:=(["vars","dir","locals"]:List bL).filter (readsOut p p.main.body)} p.main.body=true:=by decide+kernel
def wsF:namesMeet p p.main.body (λ_ n=>attrL n)=true:=by decide+kernel
def afw:p.boundNames.contains RM.name=true:=by decide+kernel
def afx:(!startupNames.contains RM.name)=true:=by decide+kernel
def afy:specDef p RM.name RM.args.length=true:=by decide+kernel
def afz:RM.args.all Codec.fits=true:=by decide+kernel
def afA:RM.ret.ok=true:=by decide+kernel
def abT{a b c d e f:Bool}(h1:a=true)(h2:b=true)(h3:c=true)(h4:d=true)(h5:e=true)(h6:f=true):(a&&b&&c&&d&&e&&f)=true:=by rw[h1,h2,h3,h4,h5,h6];rfl
def wsL:looksOpen p=true:=abT wsA wsB wsC wsD wsE wsF
def ws:RM.wellSaid=true:=abT wsL afw afx afy afz afA
def okW:(chainsOk qS&&opensWell RM.prog)=true:=by decide+kernel
end My
local macro_rules | `(tactic| ac_rfl) => `(tactic| first | exact My.bd0 rfl λ_ _ _ _ _ _ => by kernel_rfl | exact My.bd1 rfl λ_ _ _ _ _ _ _ => by kernel_rfl | exact My.bd2 rfl λ_ _ _ _ _ _ _ _ => by kernel_rfl | exact My.bd3 rfl λ_ _ _ _ _ _ _ _ _ => by kernel_rfl | exact My.bd4 rfl λ_ _ _ _ _ _ _ _ _ _ => by kernel_rfl | exact My.bd5 rfl λ_ _ _ _ _ _ _ _ _ _ _ => by kernel_rfl)
local macro_rules
| `(tactic|refine $f:ident ($n1:ident:= $q:term) ($n2:ident:= $l:term) ($n3:ident:= $xt:term) ($n4:ident:= $xp:term) ($n5:ident:= $yf:term) ($n6:ident:= $ya:term) ($n7:ident:= $yp:term) ($n8:ident:= $nn:term) $hl:term $a2:term $a3:term $a4:term $a5:term $a6:term $a7:term $a8:term $a9:term $a10:term $a11:term $a12:term $a13:term $hw:term $hc:term)=>
  `(tactic| (refine ($f ($n1 := My.qS) ($n2 := My.looseS) ($n3 := λs => xlAt My.qS [] s && recOk [] s) ($n4 := XL My.qS []) ($n5 := $yf) ($n6 := $ya) ($n7 := $yp) ($n8 := $nn) $hl $a2 $a3 $a4 $a5 $a6 $a7 $a8 $a9 $a10 My.ws My.okW $a13 $hw $hc)))
set_option maxRecDepth 100000 in
set_option maxHeartbeats 0 in
theorem PySem.Challenge.cw_fardisk_s01_answers_holds : PySem.Challenge.rw_fardisk_s01_answers.Holds := by
 w_on;k_headS;(case hw=>exact⟨[.list [.int 0]],by decide+kernel,by decide+kernel⟩)
 k_fillS
 refine L2.KD (r:=rC) (k:=17) (CX:=L2.Pe) (ps:=["calls"]) (sp:=My.r_) My.ws rfl rfl ⟨rfl,by decide,by decide⟩ (λw h Y=>PySem.W.kIn_of Y) ?F ?S (λ_ _ _ _ z=>z);case F=>
  intro w mg fa h Y KX G hmg;refine My.all_mk (C:=⟨50,225,338,422,557,990,367⟩) hmg My.LX ?_;constructor;all_goals first
   |((with_reducible refine' My.abQ KX G ?s ?b ?a ?l ?c ?k);(case s=>kernel_rfl);(case b=>ac_rfl);(case a=>k_is);(case l=>k_is);(case c=>k_is);(case k=>k_is))
   |((with_reducible refine' My.abR ?s ?b ?a ?i ?l ?c ?k);(case s=>kernel_rfl);(case b=>ac_rfl);(case a=>k_is);(case i=>k_is);(case l=>k_is);(case c=>k_is);(case k=>k_is))
   |((with_reducible refine' My.abS KX G ?s ?b ?aC ?mk ?kc ?a ?i ?l ?c ?k);(case s=>kernel_rfl);(case b=>ac_rfl);(case aC=>k_is);(case mk=>k_is);(case kc=>k_is);(case a=>k_is);(case i=>k_is);(case l=>k_is);(case c=>k_is);(case k=>k_is))
   |((with_reducible refine' My.int_mk KX G ?a);(case a=>k_is))
   |((with_reducible refine' My.str_mk KX G ?a);(case a=>k_is))
   |((with_reducible refine' My.YL KX G ?a ?l ?z ?r);(case a=>k_is);(case l=>k_is);(case z=>exact(by decide));(case r=>repeat (first|exact .nil|refine .cons ⟨_,rfl⟩ ?_)))
   |((with_reducible refine' PySem.W.mg_none_of KX G ?a);(case a=>k_is))
   |((with_reducible refine' L2.Hs.mk ?a ?b ?c ?d);(case a=>k_is);(case b=>k_is);(case c=>k_is);(case d=>k_is))
   |(show gw _ _ _=_;k_is)
   |(decide)
   |((with_reducible refine' My.SH (jw KX G ?a) ?l ?ns);(case a=>k_is);(case l=>k_is);(case ns=>rfl))
   |((with_reducible refine' My.YM (jw KX G ?a) ?l ?ns (λH=>My.uH ?l0) (λH=>My.uH ?l1) (λH=>My.uH ?l2) (λH=>My.uH ?l3) (λH=>My.uH ?l4) (λH=>My.uH ?l5) (λH=>My.uH ?l6) (λH=>My.uH ?l7));(case a=>k_is);(case l=>k_is);(case ns=>rfl);(case l0=>k_is);(case l1=>k_is);(case l2=>k_is);(case l3=>k_is);(case l4=>k_is);(case l5=>k_is);(case l6=>k_is);(case l7=>k_is))
   |(refine'⟨_,_,⟨?a,?b,?c⟩,_,_,PySem.F.excBase_Exception⟩;(case a=>k_is);(case b=>kernel_rfl);(case c=>refine' jw KX G ?zq;(case zq=>k_is)))
   |(refine'⟨_,jw KX G ?a,λH=>⟨[.ref _,.ref _,.ref _],My.Wi ?l ?z ?r,.cons (.tup (My.uH ?l1) (.cons (.int _) (.cons (.int _) .nil))) (.cons (.tup (My.uH ?l2) (.cons (.int _) (.cons (.int _) .nil))) (.cons (.tup (My.uH ?l3) (.cons (.int _) (.cons (.int _) .nil))) .nil))⟩⟩;(case a=>k_is);(case l=>k_is);(case z=>decide);(case r=>exact .cons rfl (.cons rfl (.cons rfl .nil)));(case l1=>k_is);(case l2=>k_is);(case l3=>k_is))
 case S=>
  intro K H xs a hO hwi YF hx;cases hx with
  |cons h1 h2=>
   cases h2;cases h1 with
   |lst hs ha=>have e:=L2.Mw a.1 _ ha;subst e;exact⟨_,a.1,rfl,λH' kf=>My.Vq hO hs kf,YF,λH' p hp=>.lst (L2.fT.of hp) (L2.Mv _)⟩
