import PyProof.Rows.All
import Wide.All
import OpenK.AllK
import PySem.Challenge.RW_manyhands_k31_not_saved
set_option linter.all false
set_option genSizeOf false
set_option Elab.async false
set_option maxRecDepth 100000
set_option maxHeartbeats 4000000
def ES:=@PySem.wpAny_bind
def ET:=@Option.bind_eq_some_iff
def EU:=@PySem.Heap.get?_push_of_some
def EV:=@PySem.wpAny_pure
def EW:=@List.mem_cons_of_mem
def EX:=@List.length_map
def EY:=@List.mem_cons_self
def EZ:=@Option.map_eq_some_iff
def FA:=@decide_eq_false
def FB:=@Bool.and_eq_true
def FC:=@if_neg
def FD:=@List.mem_cons
def FE:=@if_pos
def FF:=@Nat.le_refl
def FG:=@List.size_toArray
def FH:=@decide_eq_true
def FI:=@List.map_cons
def FK:=@PySem.Heap.lt_size
def FL:=@List.mem_append
def FM:=@Nat.lt_of_lt_of_le
def FN:=@List.length_cons
def FO:=@List.getElem?_eq_some_iff
def FP:=@PySem.Heap.get?_push_size
def FQ:=@List.mem_append_right
def FR:=@List.mem_singleton
def FS:=@beq_eq_false_iff_ne
def FT:=@List.mem_append_left
def FU:=@List.not_mem_nil
def FV:=@decide_eq_true_eq
def FW:=@Nat.ne_of_lt
def FX:=@List.length_append
def FY:=@List.append_nil
def FZ:=@Bool.false_ne_true
def GA:=@List.getElem?_set_ne
def GB:=@Nat.le_trans
def GC:=@Bool.false_eq_true
def GE:=@PySem.wpAny_holding
def GF:=@List.getElem?_map
def GG:=@Array.getElem?_eq_getElem
def GH:=@List.getElem?_eq_getElem
def GI:=@Ne.symm
def GJ:=@List.mem_map
def GK:=@PySem.wpAny_mono
def GL:=@PySem.Heap.get?_update_self
def GM:=@PySem.wpAny_field
def GN:=@Option.some.inj
def GO:=@List.map_append
def GP:=@PySem.wpAny_truthy_bool
def GQ:=@PySem.wpAny_call_entry
def GR:=@PySem.Heap.get?_update_other
def GS:=@beq_iff_eq
def GT:=@Nat.zero_le
def GU:=@List.mem_map_of_mem
def GV:=@List.drop_eq_getElem_cons
def GW:=@List.getElem?_set_self
def GX:=@Option.bind_some
def GY:=@PySem.wpAny_newObj_type
def GZ:=@List.nodup_cons
def HA:=@List.lookup_cons
def HB:=@PySem.wpAny_callSpecial?_slot
def HC:=@of_decide_eq_true
def HD:=@if_false
def HE:=@Int.le_refl
def HF:=@PyProof.Rows.wpS_bind
def HG:=@PySem.sizeLine_eq
def HH:=@PySem.F.excBase_ValueError
def HI:=@List.getElem?_append_right
def HJ:=@PySem.Heap.SameBut.update
def HK:=@Array.getElem?_eq_some_iff
def HL:=@List.pairwise_cons
def HM:=@Int.emod_lt_of_pos
def HN:=@PySem.wpAny_loadPart_at
def HP:=@PySem.Obj.data_mapFields
def HQ:=@PySem.wpAny_execs_nil
def HR:=@PySem.F.slot_dict_keyiterator_next
def HS:=@PySem.Obj.isFreed_of_fields
def HU:=@List.map_map
def HV:=@List.length_drop
def HX:=@PySem.wpAny_standAt
def HY:=@PySem.strLen_append
def HZ:=@PySem.Calls.spliced_cons
def IA:=@PySem.Calls.evalArgs_plain
def IB:=@if_true
def IE:=@Array.length_toList
def IF:=@List.getElem?_append_left
def IG:=@List.length_singleton
def IH:=@List.length_set
def II:=@List.getElem?_eq_none
def IJ:=@List.find?_cons
def IK:=@Int.emod_nonneg
def IL:=@PySem.wpAny_setField
def IM:=@List.all_eq_true
def IN:=@PySem.Heap.size_push
def IP:=@List.any_cons
def IQ:=@List.length_range
def IR:=@PySem.mem_of_lookup
def IS:=@List.filterMap_cons
def IT:=@PyProof.Rows.wpS_pure
def IU:=@PySem.wpAny_rule
def IV:=@List.getElem_mem
def IW:=@PySem.wpAny_passesOwn
def IY:=@PySem.wpAny_dictEpoch
def IZ:=@Nat.ne_of_gt
def JA:=@Nat.lt_or_ge
def JB:=@Bool.and_self
def JC:=@PySem.Heap.size_after_update
def JD:=@Bool.and_assoc
def JE:=@List.mem_of_getElem?
def JF:=@Option.map_some
def JG:=@Bool.or_eq_true
def JH:=@Nat.le_of_lt
def JI:=@List.all_cons
def JJ:=@beq_self_eq_true
def JK:=@List.length_take
def JL:=@List.drop_length
def JM:=@PySem.Calls.spliced_nil
def JN:=@List.mem_range
def JO:=@List.drop_eq_nil_of_le
def JP:=@PyProof.Rows.joinParts_cons
def JQ:=@List.mem_filterMap
def JR:=@PySem.Sem.wp_mono
def JS:=@PySem.wpAny_typeNameOfWhole_keyiter
def JT:=@Nat.le_of_eq
def JU:=@List.length_replicate
def JV:=@List.getElem?_toArray
def JW:=@Bool.eq_iff_iff
def JY:=@PySem.wpAny_seqItems
def JZ:=@Nat.lt_irrefl
def KA:=@Int.toNat_natCast
def KB:=@PySem.Calls.callWith_builtin
def KC:=@PySem.wpAny_setField_rec
def KD:=@PySem.wpAny_Call_Name_kw
def KG:=@PySem.F.slot_NoneType_hash
def KH:=@PySem.Code.quiet_builtin
def KI:=@PySem.Calls.Constant_str
def KJ:=@PySem.wpAny_dictEntries
def KL:=@Nat.le_succ
def KM:=@PySem.F.entry_str_split
def KN:=@PySem.F.slot_tuple_iterator_next
def KO:=@PySem.codeAny_call_builtin
def KP:=@List.length_zip
def KQ:=@List.getElem?_replicate
def KR:=@List.forIn_cons
def KS:=@Int.eq_ofNat_of_zero_le
def KU:=@PySem.Str.empty_append
def KW:=@PySem.F.slot_str_split
def KY:=@PySem.wpAny_typeNameOf_keyiter
def KZ:=@PySem.Sem.wp_bind'
def LA:=@PySem.F.plainAttrs_str
def LB:=@List.take_of_length_le
def LC:=@PyProof.Rows.slot_tuple_getitem
def LD:=@List.nodup_append
def LF:=@List.append_assoc
def LG:=@List.nodup_nil
def LH:=@Bool.and_false
def LI:=@PySem.wpAny_loadPart'
def LJ:=@PySem.F.slot_dict_get
def LK:=@PySem.PassesOwn.never
def LL:=@List.map_nil
def LM:=@Array.getElem?_toList
def LN:=@Bool.or_eq_false_iff
def LO:=@Bool.and_eq_true_iff
def LP:=@PySem.wpAny_pyIter_list
def LQ:=@PySem.codeAny_handlers_test
def LR:=@PyProof.Rows.callWith_type1
def LS:=@List.of_mem_zip
def LU:=@List.mem_filter
def LV:=@List.length_pos_iff
def LW:=@List.cons.injEq
def LX:=@true_and
def LY:=@List.find?_eq_none
def LZ:=@PySem.Heap.get?_none_of_le
def MB:=@Bool.or_true
def MC:=@PySem.Paired.length
def MD:=@List.drop_zero
def MF:=@List.Perm.refl
def MH:=@PySem.typeIs_str
def MJ:=@PySem.wpAny_specialOf
def ML:=@PySem.wpAny_handleBy_cons
def MM:=@PySem.codeAny_of_tree
def MN:=@PySem.slot_dict_contains
def MO:=@PySem.F.store_ValueError
def MP:=@PySem.F.args_tuple_add_2
def MQ:=@Option.isSome_iff_exists
def MU:=@PySem.wpAny_newFunctionEnv_cells
def MV:=@or_false
def MX:=@PySem.F.plainAttrs_dict
def MY:=@PySem.F.entry_tuple_add
def MZ:=@List.sum_cons
def NA:=@Bool.not_true
def NB:=@PySem.Sem.wp_cmd_standAt
def NC:=@Nat.lt_succ_self
def ND:=@Array.toList_inj
def NE:=@Array.all_toList
def NG:=@PySem.wpAny_loadPart
def NH:=@PySem.F.slot_tuple_add
def NI:=@PySem.call_meets
def NJ:=@Nat.min_eq_left
def NK:=@PySem.wpAny_point
def NM:=@PySem.wpAny_attempt
def NN:=@List.mem_of_mem_drop
def NO:=@PySem.wpAny_execs_cons
def NP:=@PySem.W.cellsFrom_some
def NQ:=@PySem.F.args_dict_keyiterator_next_1
def NR:=@Bool.false_and
def NS:=@PyProof.Rows.wpS_forRange
def NT:=@PySem.codeAny_handlers_suite
def NU:=@PySem.F.entry_dict_keyiterator_next
def NV:=@List.take_succ_cons
def NW:=@List.map_congr_left
def NY:=@PySem.wpAny_notOrdered_dict
def NZ:=@PySem.wpAny_isTrue_Compare1
def OA:=@PySem.wpAny_isOneOf_keyiter
def OB:=@PySem.codeAny_mono
def OC:=@Nat.lt_of_le_of_lt
def OD:=@List.getElem_range
def OE:=@List.contains_cons
def OF:=@PySem.F.slot_zip_next
def OG:=@Bool.or_false
def OH:=@PySem.wpAny_call
def OI:=@PySem.wpAny_updateSeq_pair
def OJ:=@Nat.lt_succ_of_lt
def OK:=@List.getElem?_set
def OL:=@List.any_eq_false
def OM:=@Array.getElem?_setIfInBounds_ne
def ON:=@PySem.wpAny_fieldsOf
def OO:=@Nat.zero_add
def OP:=@Nat.lt_trans
def OQ:=@PySem.wpAny_throw
def OS:=@PySem.wpAny_isSubtype_exc
def OT:=@List.filter_cons
def OU:=@Bool.not_eq_true
def OV:=@PySem.F.slot_dict_setdefault
def OW:=@PySem.wpAny_pyIter_tuple
def OX:=@PySem.wpAny_onRaise
def OY:=@PySem.wpAny_handled
def OZ:=@PySem.W.nsMap_none_of_in
def PB:=@PySem.W.kia_one
def PD:=@PySem.SeqAt.EqAt.int_int
def PF:=@List.nil_append
def PH:=@PySem.F.called_enumerate
def PJ:=@PySem.F.args_str_split_3
def PK:=@PySem.F.args_str_split_2
set_option hygiene false
section open Lean
def z'N(b:Bool):Nat->Syntax->Syntax
|n+1,.node _ k a=>let a:=a.map (z'N b n);.node .none k (if b&&k==``Parser.Term.basicFun then a.modify 0 λx=>.node .none `null (x.getArgs.map λy=>if y.isOfKind ``Parser.Term.hole then mkIdent `z'x else y) else a)
|_,.atom _ v=>.atom .none v
|_,.ident _ r n p=>.ident .none r n p
|_,x=>x
def z'E:Nat->Syntax->String
|0,_=>""
|n+1,s=>match s with
 |.node _ k a=>a.foldl (λr x=>r++z'E n x) s!"n{a.size} {(toString k).replace "Lean.Parser." "~"}\n"
 |.atom _ v=>s!"a{v}\n"
 |.ident _ _ v _=>s!"i{v}\n"
 |_=>"m\n"
def z'D(f:SourceInfo):Nat->List String->Syntax×List String
|n+1,x::l=>let r:=(x.drop 1).toString;match x.front with
 |'n'=>let c:=(r.takeWhile Char.isDigit).toString;let (a,l):=c.toNat!.fold (λ_ _ (a,l)=>let (y,l):=z'D f n l;(a.push y,l)) (#[],l);(.node f ((r.drop (c.length+1)).toString.replace "~" "Lean.Parser.").toName a,l)
 |'a'=>(.atom f r,l)
 |'i'=>(.ident f r.toRawSubstring r.toName [],l)
 |_=>(.missing,l)
|_,l=>(.missing,l)
def z'K:List (String×String):=[("P","n3 ~Term.paren\nn2 ~Term.hygienicLParen\na(\nn1 hygieneInfo\ni[anonymous]"),("D","n1 ~Tactic.tacticSeq\nn1 ~Tactic.tacticSeq1Indented"),("E","n2 ~Term.dotIdent\na."),("A","n2 ~Term.app"),("B","n1 null"),("C","n0 null"),("F","n2 null"),("G","n3 null"),("H","n1 ~Tactic.rcasesPatMed"),("I","n1 ~Tactic.rcasesPat.one"),("J","n2 ~Tactic.rcasesPatLo"),("K","n1 ~Tactic.optConfig"),("L","n4 ~Term.basicFun"),("M","n1 ~Term.hole\na_"),("N","n2 ~Term.byTactic\naby")]
def z'Z(r:SourceInfo)(f:String):Syntax:=(z'D r 999 (((f.takeWhile (·≠'\r')).toString.splitOn "\n").flatMap λs=>match z'K.lookup s with|some x=>x.splitOn "\n"|_=>[s])).1
local macro_rules|`(z [$x,*])=>do let a:=x.getElems;let mut r:="";for i in [0:a.size/2] do {r:=s!"{r}\r{match a[2*i]!.raw.isStrLit? with|some s=>s|_=>a[2*i]!.raw.getId.toString}\r{z'E 999 (z'N true 999 a[2*i+1]!)}"};return (Syntax.mkStrLit (z'K.foldl (λr p=>r.replace (p.2++"\n") (p.1++"\n")) r)).raw
def z't't:String:=z ["pc!",(by simp[Bh,Ar,Al,Cn,Bg,Bb,Au,Bx,Bd,Bs,Cy,Bo,fT,Bv,Aa,Bz,f2,Dw,Dj,Dr,Ee,Dx,Ax,Bu,f1,Ab,Ad,Ca,fC,Cb,Ap,Ag,Bt,Br,As,Aw,Bi,Ao,Da,Dd,Ay,Bl,Ci,Ak,Ai,Ah,An,Aj,Bf,Dt,cutL,HT.sIx,List.getElem?_cons_zero,List.getElem?_cons_succ]),"!6",(by split at e),"!u",(by split at h),"!!",(by refine' DL.bF KX G ?a ?l ?c ?k ?b;(case a=>k_is);(case l=>k_is);(case c=>k_is);(case k=>k_is);(case b=>exact λ_ _ _ _ _ _=>DL.pF λ_=>rfl)),"#-",(by dsimp only),"!#",(by refine' DL.bF KX G ?a ?l ?c ?k ?b;(case a=>k_is);(case l=>k_is);(case c=>k_is);(case k=>k_is);(case b=>exact λ_ _ _ _ _ _=>DL.uZ λ_ _=>rfl)),"!3",(by rename_i hk;subst hk),"#A",(by constructor),"!%",(by refine' DL.cY KX G ?a;(case a=>k_is)),"!'",(by dsimp only;refine' DL.cX KX G ?a;(case a=>k_is)),"!-",(by intro x y dx dy d hb H Q sub rx ry e k),"!4",(by obtain⟨v,rfl,rv⟩:=dD r),"!D",(by intro Z s U H Q I h),"!:",(by rename_i h;cases e;subst h),"!I",(by obtain⟨t,rfl⟩:=rx),"!Q",(by rename_i hl;rcases e),"!,",(by intro X hP hw hK hc i Z s U H E I hf st hg;subst hP hw hK),"!1",(by obtain⟨f0,f1,f2,f3,f4,f5⟩:=hf it c_),"#B",(by by_cases G:b=a),"!<",(by obtain⟨ag,fd,O,h2,h3,h4⟩:=F),"!=",(by intro vs ds d hb H Q sub r e k),"!0",(by obtain⟨oc,od,kV,bn,pm,an,ah,ct,fz,rfl,lk,bj⟩:=F.ex),"!5",(by obtain⟨_,_,_,q⟩:=hs;exact False.elim q),"!B",(by obtain⟨sl,kq⟩:=so.2.2 b o eb),"!&",(by refine' DL.oP KX G ?a;(case a=>k_is)),"!*",(by dsimp only;k_is),"!2",(by obtain⟨x,e1,e⟩:=ET.mp e;obtain⟨y,e2,e⟩:=ET.mp e),"!?",(by obtain⟨o',e1⟩:=I.base.there b o e hx),"!C",(by obtain⟨ds,e1,e⟩:=ET.mp e;show"!6"),"!n",(by exact k _ hb H aC_ Bc.bl),"#,",(by obtain⟨t,rfl⟩:=r),"#:",(by intro Z s U H D I h),"#D",(by rw[eY_];exact HE _),"!+",(by dsimp only;(show W.findIn _ _ _=_);k_is),"!.",(by obtain⟨i,hi,q⟩:=gE G;obtain⟨p,ds,vs,O,h2,h3,h4,h5⟩:=er.own_ i hi;rw[q]at h2;cases h2),"!G",(by obtain rfl:=aW rx;obtain rfl:=aW ry;rcases e),"!H",(by obtain⟨sl,e1⟩:=I.base.slot b o e n G hx),"!]",(by obtain⟨e,n,ne,nf,d⟩:=I.pin p hp),"!_",(by obtain⟨its,r,pl,hz⟩:=I.list hq),"!f",(by obtain⟨p,vs,rfl,q,rr⟩:=bI r),"!t",(by subst e;exact I1.fpOk p! fo_),"!x",(by subst G;rw[aV]at e;rcases e),"!y",(by obtain⟨hp,g,d,tk,os⟩:=s),"##",(by obtain⟨ag,fd,F,B,m⟩:=d),"#4",(by obtain⟨a,rfl,q⟩:=hx),"!(",(by dsimp only;refine' XS.a0j ?xqa ?xqb ?xqc ?xqd ?xqe ?xqf ?xqg ?xqh;(case xqa=>k_is);(case xqb=>k_is);(case xqc=>k_is);(case xqd=>rfl);(case xqe=>k_is);(case xqf=>k_is);(case xqg=>rfl);(case xqh=>k_is)),"!/",(by have ih:=jV s c bo n u_ cf free a! a! hs;unfold StrLaws.occBody;rw[FC cond];unfold StrLaws.occBody at ih;refine Eq.trans ih ?_),"!7",(by rw[GV ax]at e3;obtain⟨_,e3⟩:=e3;obtain⟨a9,e4,e3⟩:=cK e3;obtain⟨go,yl⟩:=iq _ hd),"!8",(by obtain⟨v1,t1,rfl,r1,rr⟩:=bK rr;obtain⟨v2,t2,rfl,r2,rr⟩:=bK rr;obtain rfl:=cJ rr),"!9",(by obtain⟨iq,jj⟩:=d6 n M' G' H' dz.x.g dz.st.or.sub dz.st.mr lw;by_cases ax:n<e_),"!;",(by show Zx X.prog X.w X.K ps.length g (vs++[]) H1 Q _;rw[FY];refine ⟨kh_,G1,ds,M1,R,E,x1.sub,m1,q1,r1.2,z6_,λcls H' ⟨c,ln,M',G',h5,h6,h7,h8⟩=>?_⟩;exact ⟨c,ln,M',G',h5,h6,(kU_).trans h7 m1,h8⟩),"!F",(by obtain⟨ac,H',J,q⟩:=hs;exact ak (v:=V.non) (u:=bu_) J rfl q),"!U",(by cases e;refine bH_;cases bB r1;refine i6!;cases bB r2),"![",(by unfold Am at h;obtain⟨u,r,e1,q,t⟩:=h;subst e1),"!a",(by obtain⟨v,ac,H',J,rv,q⟩:=hs;exact ak J rv q),"!b",(by obtain⟨_,f1,f3,f4,f5,f6⟩:=f2 b G;exact ⟨f4,f1,f5,f6⟩),"!c",(by unfold Bc at h ⊢;obtain⟨a,vs,e,q,r⟩:=h),"!h",(by rintro Z s U H Q I ⟨hb,ρ,M,R,sr,e',k⟩),"!k",(by show"!4";obtain⟨a,ws,rfl,q,rr⟩:=bM rv),"!q",(by cases wA I n r ru<;>cases wA I n' r' bu),"!w",(by refine ES K_;refine ES (GE (a0k ma hC he ?_));dsimp only),"!|",(by intro c hc;simp at hc;obtain rfl:=hc),"#!",(by obtain⟨its,r,pl,hz⟩:=I.tuple hq),"#$",(by obtain rfl:=bB rx;obtain rfl:=bB ry),"#)",(by obtain⟨o,e,c,d⟩:=st;exact hB_),"#*",(by obtain⟨a,vs,rfl,qa,ra⟩:=bM rx),"#+",(by obtain⟨a,vs,rfl,qa,ra⟩:=bI rx),"#6",(by simp only[GC,HD,HA,hx]at h ⊢),"#8",(by obtain⟨ds,e1,e'⟩:=ET.mp e'),"#E",(by obtain⟨o,es,ep,ho,r⟩:=hm),"#F",(by obtain rfl:u=Value.ref a:=rx),"#K",(by unfold Nv;rw[FC c',FC cy,f]),"#L",(by subst G;rw[bL]at e;rcases e),"#M",(by rename_i p;obtain rfl:=eX r),"#N",(by rename_i h;rw[FB,FB,FV]at h),"#O",(by obtain⟨od,J,hl⟩:=I.look),"!$",(by refine' DL.bF KX G ?a ?l ?c ?k ?b;(case a=>k_is);(case l=>k_is);(case c=>k_is);(case k=>k_is);(case b=>exact λ_ _ _ _ _ _=>DL.us3 λ_ _ _=>rfl)),"!)",(by dsimp only;refine' XS.c1x ?ta ?tb ?tc;(case ta=>k_is);(case tb=>k_is);(case tc=>k_is)),"!>",(by intro Z s U H D I h;have back:∀{f:i!} {bg H1 s1},Inv lv_ [] bg H1 s1->Inv X Z bg H1 s1:=λJ=>cV (ok:=fr!) J rfl fq_ rfl λ_ _ z=>z),"!@",(by refine cO bw_ ?_;rintro v s1 ⟨x,H1,I1,r1,q1⟩;refine cO dT! ?_;rintro u s2 ⟨y,H2,I2,r2,q2⟩;exact hf v u s2 x y H2 I2 r1 r2 q2),"!A",(by obtain⟨ob,eo,ec,ed⟩:=id g1;obtain⟨ot,zi,_,nt,zj⟩:=g2;unfold Builtin.SmallTypes.nextOf;refine ES (HB g1.typeIs KN (GQ KN g1.typeIs F.entry_tuple_iterator_next ?_ (F.args_tuple_iterator_next_1 _)));show wpAny _ _ (field (.ref jt) 0>>=_) _ _ s),"!E",(by dsimp only[(show Builtin.Dict_items.ownsTuple "dict_keyiterator"=false by decide),Bool.false_eq_true,if_false];show wpAny B! A.in1 (if(Value.ref d==bu_)=true then _ else _) _ _ s;rw[(FC (λz:(Value.ref d==Value.none)=true=>FZ z))];refine ES (EV (ES (KJ u5 u6 ?_)));rw[aQ!]),"!J",(by unfold Builtin.SmallTypes.ownedTupleIsFree;refine ES (GM gz rfl rfl K_);dsimp only[if_true];refine ES jd!;refine ES eB_),"!K",(by refine ez!;rw[fg,JL]at e2;have this:R (ws++[]) M':=e2.2;rw[FY]at this;exact k ws ys M' G' H' this x d7.mr bf a!),"!L",(by show"!7";refine ⟨go,zW_,λf9 H2 ⟨G2,br,M2,O,h3⟩=>zX!,iO_⟩;obtain⟨G2,x2,r2⟩:=yl v H2 hy;have uy:=dz.grow cX! pq_;exact ig uy r2 e4 λiy nr=>⟨M1,G1,Fg own U H1,jo.lv (M:=M) hX,G2,a9,M',_,nr,e3,zX_,zY!⟩),"!M",(by obtain⟨us,rv,p1,_⟩:=I.list qa;obtain⟨bi,bf,p2,_⟩:=I.list qb;have O:=aE rd;have h2:=aE re;have h3:=c7!),"!N",(by have b1:Ag dz! bF!=some om!:=rfl;have b4:Ag dz! iy_=some (.int (base+4)):=rfl;have b5:Ag bF! (.int (m0%5))=some (.int (1+m0%5)):=rfl),"!O",(by obtain⟨mC,yo,_⟩:=I4.loc;exact ym _ _ us n ys H' s4 IX ub.1 rv az ub.2.1 p! qu gw I4.free ⟨mC,yo⟩ ak),"!P",(by have I1:Inv X Z U H {s with heap:=h'}:=I.turned (t':=s.toks) (λb o G e=>(lo!).trans e) f0 f1 f3 f4 f5;obtain⟨o,e,c,d⟩:=id af),"!R",(by refine ES ?_;have:=IL (M:=cl!) (A:=A) (E:=E) (x:=H!) he C8 hi (Q:=(λ_ s'=>E z! s')) h;exact GK this (λ_ _ z=>OQ z) λ_ _ z=>z),"!S",(by rw[cv_];refine ES K_;refine ES (c3b he c_ λO e1 b1=>?_);refine ES (c3b e1 c_ λj8 e2 b2=>?_);have nv:j8.get? C=some cl_:=(b2.2 C vb).trans ((b1.2 C vb).trans hC)),"!T",(by rename_i d hd;exact hg x2.sub m2 cb! q2 hd λz G3 H3 x3 q3=>k d M2 z G3 H3 r2 ((bt!).trans (.ext x3) m2) (m2.ext x3) q3),"!V",(by obtain⟨hp,g,d,tk,os⟩:=σ;refine ES (isT nv e2 ?_);rw[aQ!];refine ES (yK nv e2 ?_);refine ES (a0i e2 ?_)),"!W",(by obtain⟨m',hm,w7⟩:=hN fh H7 n7;refine ⟨m',hm,i+1,fh,H7,hF_,T.keep _ _ _ iz λb G o e=>(lw_).1,c8_,w7⟩;obtain⟨o,e,d⟩:=T.obj _ _ iz b G;exact(lw_).2.1),"!X",(by obtain⟨x,e1,e⟩:=ET.mp e;obtain⟨l,e2,e⟩:=ET.mp e;obtain⟨h,e3,e⟩:=ET.mp e;refine ⟨hb,ρ,x,er,e1,λv G1 H1 s1 r1=>⟨G1,ρ,l,cD_,e2,λG2 H2 s2=>⟨G2,ρ,h,er.grow bG_,e3,vv!⟩⟩⟩),"!Y",(by intro Z s U H x y v u Q I rx ry h;obtain⟨i,j,rfl,rfl,q⟩:=h;show"!I";obtain⟨t',rfl⟩:=ry),"!Z",(by obtain⟨hl,hb,ds,M,R,EM,sub,m,r,e,kk,ke⟩:=h;refine ⟨_,G (M0:=M) (G0:=hb) (F0:=H) (EM:=EM) hr λZ U H1 s1 n a cls bad I Nn i y z q=>c8a Z U H1 s1 n a cls bad I Nn i y z (ke cls H1 q),?_⟩;have er:=jJ (N:=N) sub r;exact kS!),"!^",(by dsimp only[sliceBounds,HT.sIx,Option.getD_none,fJ_,if_true];by_cases h:i<0),"!`",(by simp only[GC,HD]at q7 ⊢;obtain⟨m',hm,w7⟩:=q7;obtain⟨t7,n7⟩:=uc I7;exact ⟨m',hm,i+1,ys,us,n,im,H7,hF_,t7,n7,rv,w7⟩),"!d",(by show"!3";obtain⟨x,rfl,hx⟩:=U1 h;exact jG d! d! d! d! d! c_ c_ (by simp[hx])),"!e",(by exact fB (s:=on!) (fo:=none) a3 hn a1 λh2 b1 b2 b3 b4=>k h2 T jw! b1 (a2.skip b2 (by intro x hx;simp at hx;subst hx;exact .inr (S' a0))) b3),"!g",(by have hT:=bq.typeIs;obtain⟨o,ho,hc,hd⟩:=id bq;obtain⟨od,u5,_,u6⟩:=id D),"!i",(by refine ES (GM eo ed (x:=.ref tt) rfl ?_);rw[(FC (show¬((Value.ref tt==Value.none)=true)from FZ))];refine ES (GM eo ed rfl ?_);refine ES (JY zi zj ?_);simp only[KA,g3]),"!j",(by have I1:Inv X Z U H {s with heap:=h',toks:=tk}:=I.turned lq_ f0 f1 f3 f4 f5),"!l",(by obtain⟨w,o⟩:=wo;show g0_=(0:Int)\/g0_>=k;by_cases c:Et S Wt yy w o),"!m",(by obtain⟨iq,jj⟩:=d6 i M' G' H' x.g d7.or.sub d7.mr lw;by_cases ax:i<e_),"!o",(by dsimp only[Bool.not_false,if_true];exact ES (wK (EV jP!))),"!p",(by have hf:=a4n x k;have hl:∀i∈plc es cQ!,i<es.size:=λi hi=>b7p hi),"!r",(by refine bind (a8y ?_);refine bind (of_any (wpAny_pyRepr_str ?_ hx));refine bind (of_any (wpAny_mkStr ?_ (hf _ _ d!)));exact tail hh hE),"!s",(by obtain⟨e,he,hv⟩:=hi.2 i av[i] (by rw[GG O]);rw[he,LM,GG O,hv];rfl),"!v",(by rw[FA c];refine OL.mpr λd hd=>?_;obtain⟨x,hx,rfl⟩:=GJ.mp hd),"!z",(by obtain⟨N,nm,q,bs,sn,sub,ab,col,dd,k0,k1,k2,k3,k5,hC,_⟩:=n.cls),"!{",(by obtain⟨_,_,_,_,o,_,_,e,ex,_⟩:=I.hok p _ hk;exact⟨o,e,ex⟩),"!}",(by show"!0";refine c0o lk bj S iV_ λA outer s H vs Q E hr h=>?_),"!~",(by show (wpAny _ _ (field gm_ 2>>=_) _ _ _);refine ES eB_;refine ES eB_;refine ES (JY gI rfl ?_);refine ES ?_),"#%",(by refine ⟨T.keep _ _ _ iz λb G o e=>(m2_).1,c8_⟩;obtain⟨o,e,d⟩:=T.obj _ _ iz b G;exact(m2_).2.1),"#&",(by unfold Builtin.Str.strSliceIndices;simp only[fJ_,IB];congr 1),"#'",(by rw[FE c];have:=ih (S:=(O_).1) (Wt:=(O_).2) (k:=k+1) a!;omega),"#(",(by refine ez!;rw[fg,JL]at e3;exact k1 ρ' M' G' ac H' e3.2 pr!),"#.",(by show"!<";rintro Z s U H D I ⟨hb,ρ,M,R,sr,e',k1,k2⟩),"#/",(by obtain rfl:=dU ry;rcases e;refine I_;rw[wB rx];show"!n"),"#0",(by subst hj;rw[hi]at e1;rcases e1;rw[GW SE]at e2;cases e2),"#1",(by have e:=W!;dsimp only[Array.length_toList]at e;omega),"#2",(by unfold raiseNew;refine ES i7_;rw[hh];show"#-";rw[(FE (show((Value.ref a) != Value.ref e)=true by simp[am]))]),"#3",(by rw[FC G];refine x.g _ _ ?_;unfold Ia;rw[FC G];exact z),"#5",(by unfold noteFrame;simp only[hf];refine ES eH!;rw[(FC (show¬((Value.none != Value.none)=true)by decide))]),"#7",(by simp only[FI,List.drop_succ_cons,MD,List.headD_cons]),"#9",(by obtain⟨cl,b9⟩:=a0z λp hp hf=>I.ok.has p.1 m5!),"#;",(by unfold pyNext;refine ES (NM (HB hT HR (GQ HR hT NU ?_ (NQ _))));refine ES (EV (ES d4!))),"#<",(by simp only[HY]at h4;refine JoinedStr_many ly_;rw[KU]),"#=",(by rw[FG,FG,<-h3,<-h4,<-O,<-h2];by_cases hl:e_=aE_),"#>",(by obtain⟨its,rv,⟨o,O,h2,n,h3⟩,_⟩:=I.tuple i1_),"#?",(by have ne:∀{b u},H b=some u->b≠p:=λe=>aU e hp),"#@",(by obtain⟨v,o,ho,_⟩:=I2.cell x c el_;exact FW e8_),"#C",(by have rs:∀j∈rest,j<es.size:=λj hj=>h2 j dF!),"#G",(by show"!.";refine ⟨vs,x.g _ _ ?_⟩;unfold Ia;rw[FE G];exact h3),"#H",(by rename_i h1 ep hM;obtain⟨kk,e1,e2⟩:=ET.mp e),"#I",(by rcases e;refine ⟨hb,ρ,_,er,?_,k⟩;show((Option.some ds)).bind _=_;simp[hl]),"#J",(by have:=congrArg List.length h;simp at this;omega),"#P",(by have e1:cutL rows none aj_=rows.take i:=c1o hi),"#Q",(by simp only[hx,hy,IB,FN];simp only[GC,HD];omega),"#R",(by refine db b o jv! ?_;rw[so.2.1 b zp];exact eb),"#S",(by obtain⟨ad,h1,vs,lq,SN,zg,zh,hn,hs⟩:=hd.ex),"#T",(by obtain rfl:=aW ry;obtain⟨v,O,h2⟩:=nB ra e)]
def z'0:String:=z [a!,(by omega),b!,μ δ,c!,Inv X Z U H s,d!,(by decide+kernel),e!,μ D,g!,Aa 0,h!,xs.length,i!,Value->Shared->ν,j!,["thing"],k!,μ Op,l!,μ Str,n!,(by omega),o!,Str->wY_ Value,p!,FF _,q!,(·.1),r!,aA 0,u!,.ref a,v!,μ Addr,w!,arrOf af,x!,D->Mh->ν,y!,λ_ _=>χ,z!,.ref e,A!,arrOf st,B!,model P w,C!,h.objs.size,D!,z.length,E!,s.length,F!,s1.heap.objs.size,G!,FC d!,H!,.ref a,I!,μ aL_,J!,(by decide),K!,ps.length,L!,#[[c].toArray],M!,By hb H,N!,aA 1,O!,.fn p,P!,#[_,χ],Q!,k+1,R!,Aa 4,S!,FE χ,T!,Ba k X.A,U!,wl g!,V!,X.N.Nodup,W!,r.length,X!,[υ],Y!,(X.env::X.outer),Z!,Array Value,Aa!,(d==sysModules)=θ,Ab!,s.heap.IsKeyIter it d i es.length ep,Af!,X.mg "zip"=υ,Ag!,EV (Cl! OA hT),Ah!,(BU! 16).map λi=>oQ!,Ai!,mirror xs i j (gZ_ / 2),Aj!,getElem?_pos _ k gq,Ak!,[aG_,υ,υ,υ],Al!,gs.set i υ,Am!,(x.h==o.h)&&decide (x≠o),An!,aP χ χ (fV o),Ao!,((x.n==o.n)||(x.tm==o.tm)),Ap!,aP χ χ (jO x),Aq!,h m st b h3 h4 u,Ar!,.bl (decide (∀x∈xs,Nm x o)),As!,(∀i,i<lo->BX! i<=BX! k),At!,o.nm∈Gb! Op.nm,Au!,pendingOf af,Av!,aP χ χ (a6b h),Aw!,!w&&!(ay!).isEmpty,Ax!,(S++Wt).map Op.v,Ay!,o.n<=nh S o.h,Az!,(((ay!).length:δ):Int),AA!,((o.h==yy)||((Az!==8)||decide At!)),AB!,(DR! "int"::r),AC!,(um_).map λj=>D.int kr_,AD!,.int (Ev yy g3_ [] [] 2),AE!,D.int (((bu!).length:δ):Int),AF!,l.filter λx=>Lw x p,AG!,λx h=>(CH! h),AH!,λp=>Kq pK! (Pa h p.1),AI!,fx ρ=ψ cc_,AJ!,cs.set k (.int (c+1)),AK!,ts.set k AJ_,AL!,.builtin "sorted",Ac!,wpAny b_ A ζ,Ad!,ζ .local,Ae!,WR.of_any ζ,AM!,(by simpa using ζ),AN!,jB ζ xs ys A.in1 vs ws us bi n n' eA_ rr d8 rv bf,AO!,attributeBase ζ η X.env,AP!,Bc KF H ζ,AQ!,aI (ζ T) i_ χ η aj!,AR!,W.findIn K m_ ζ,AS!,ξ χ ζ,AT!,#[λi H=>∃xs x,ζ K H a xs/\xs[i]?=ψ x,λi H x H'=>H'=H/\∀xs,ζ K H a xs->xs[i]?=ψ x,λi H=>∃xs,ζ K H a xs/\h!<=i],AU!,#[ok.mod,ok.kind,ok.glob,ok.blt,fj_,ok.inj,ok.has,ok.cab,ζ,ht_,ok.stk,ok.exf,ok.bs,ok.bsz,ok.noex,ok.exfs,ok.funs,ok.frf],AV!,eval ζ X.env,AW!,ψ (.tup ζ),AX!,ζ X.prog X.w η,AY!,SeqAt.EqAt A s u ζ,AZ!,ψ (.ref ζ),A0!,ψ (ζ==η),A1!,I.tuple ζ,A2!,#[_,_,χ,kB_,_,_,_,_,_,_,_,kC_,a0!,hw.step ζ a! a! hd],A3!,if(ζ).length<=big then(Cp _ _ _ X! η).map D.lst else υ,A4!,fC (.int ζ),A5!,ψ (W ζ),A6!,ζ Z s1 U H1 η I1 q1,A7!,#[_,((pA.add ζ).add η).mono ce! a!,χ],A8!,(assignEach ζ X.env).map an_,A9!,X.s₀.heap.get? ζ,Ba!,.of_refs kj (ζ I q q' rr d8 a! λus bi rv bf=>jB I xs ys A.in1 vs ws us bi n n' eA_ rr d8 rv bf),Bb!,#[kh_,G1,ds,M1,_,_,x1.sub,m1,q1,r1.2,su!,λcls H' ⟨c,ln,M',G',⟨h5,UD,ζ⟩,h6,h7,h8⟩=>?_],Bc!,swapsWith ζ η pos.line,Bd!,ME X own ζ,Be!,#[.ref _,_,I.lnew (ys:=(Builtin.Str.partsBetween z ζ ag!).map V.str) (pE _ _) xN!,χ,q'],Bf!,wpR M A ζ,Bg!,Cn (Cy iu_ (fT (f2 ζ cC_ η))) bF_ Bb,Bh!,fF (a2s (X:=Ky X ab! ζ) (Z:=[]) F hr mh P' QA G r5_ (ha _ _) I0 h ja jr ao) λv s1 z=>?_,Bi!,Et S Wt yy ζ o,Bj!,(λak s'=>match ak with|.done f=>R dA! s'|.again c'=>c'.quiet=τ/\codeR ζ A c' R s'),Bk!,.seq its.toArray ζ,Bl!,Bc ζ G' d v,Bm!,Cq ζ η G' H',Bn!,codeR ζ A η R s,Bo!,ζ Z s U H,Bp!,cutL ζ η υ,Bq!,ψ (ζ=="bool"||η=="int"),Br!,ζ s.heap,Bs!,XF n ζ e T cls,Bt!,.bl (decide ζ),Bu!,ζ X own ay,Bv!,Al nM! (Al (Om 4 iV!) (Al (Om 5 iV!) (Al (Nl (Fv ab_) (En 6) ζ) (Ar ar_)))),Bw!,mono ζ η λ_ _ x=>x,Bx!,#[by rintro ζ Z s U H Q I ⟨hb,ρ,d,er,e,k⟩;exact h ζ Z s U H Q I nj!],By!,ES (wpAny_lookBehind td (by rw[tj];exact pastItsLine_dict (GB ye ζ)) ?_),Bz!,TX X M0 G0 F0 own ζ η,BA!,aB ζ (aB η aF),BB!,fs.lookup ζ,BC!,PySem.intText? ζ,BD!,#[by rintro ζ Z s U H Q I ⟨hb,ρ,M,R,st,e,k⟩;exact h ζ Z s U H Q I o7!],BE!,(by simp[ζ]),BF!,SeqAt.RcNeAt A s ζ,BG!,Builtin.Str.strKind ζ,BH!,fT (f2 Be aZ_ (fC ζ)),BI!,eK ζ m sub e,BJ!,ζ η s.heap.objs.size,BK!,fU (a2n (tH jR_ oW! y5_ ht (k:=oW_) χ (by rw[fH,ζ c];rfl)) hl) hK,BL!,scope.names.lookup ζ,BM!,(λx y H Q=>AH ζ θ x y H Q\/∃i j,x=.str i/\y=.str j/\Q hJ_ H),BN!,(∀b o,ζ b=ψ o->h'.get? b=ψ o),BO!,f2 Ao ζ y_,BP!,ζ hp hc bq.ok hg ij hs Z s U H η I pp_,BQ!,[R_,am!,as!,bb!,bI_,b7_,cL_,ψ nz,gu!,ψ (.str ζ),ψ sg,υ],BR!,(go_).get? (ζ).objs.size,BS!,ζ t η M R E,BT!,cO bw_ λv s1 ⟨x,H1,I1,r1,q1⟩=>ζ Z s1 U H1 x v Q I1 r1 q1,BU!,List.range ζ,BV!,.fields [.ref ζ,.int 0 0].toArray,BW!,XM M1 G1 ζ M' G' H',BX!,rk r w! ζ,BY!,SeqAt.RcAt A s ζ,BZ!,ψ (.int ζ tk),B0!,Un fs ex H ζ h,B1!,swapsWithSole ζ e pos.line X.env,B2!,BindsTo s fd ζ,B3!,ζ p1.isList p2.isList η hu,B4!,FC (show¬(ζ=τ)by simpa using η),B5!,bE P_ bU ζ η n_,B6!,(by rw[<-ζ];exact η),B7!,Paired ζ,B8!,if neg then !(ds.any λd=>Dl d ζ)else ds.any λd=>Dl d ζ,B9!,#[_,_,_,_,_,ζ,by rw[<-NE];exact η],Ca!,#[kg!,n!,ax,χ,G4,M4,ws++[y],z1!,#[z1_,m4,ζ],?_,?_,?_],Cb!,bZ cC eF χ T.N7 dH (aB ζ aF),Cc!,wpAny M A ζ,Cd!,(ζ).all bW_,Ce!,ψ (.str ζ),Cf!,W.nsIn ζ N "__init__",Cg!,Txt.slice z ζ,Ch!,Bh j! 1 (ζ),Ci!,(Er ζ H p ys/\∀l,H l=υ->Q (.ref l) (upd H l ih!)),Cj!,.fields [ζ,vu,.none].toArray,Ck!,.Assign ζ η pos,Cl!,ES (ζ η ?_),Cm!,ζ X.K own η,Cn!,NI KW eF_ KM ζ,Co!,ζ i t q hu _ _ _ _ h,Cp!,(fg!).contains ζ,Cq!,ζ t b vs.toArray ws.toArray n n2 dd wb sl ky h9_,Cr!,#[#[],by rw[ζ,η];simp],Cs!,ζ KF H a vs,Ct!,IA (HZ (cO cm_ λu s1 ⟨ζ,H1,I1,r1,q1⟩=>?_)),Cu!,s.cps.toList.drop ζ,Cv!,sIx items.size ζ η,Cw!,(∀v G' H',Cq hb H G' H'->ζ X.K G' d v->Q v H'),Cx!,(show Qb P w ζ [] G2 H2 bg a9 M' from η).grow x3 m3,Cy!,Inv X Z ζ,Cz!,eval ζ env,CA!,OR KF [] hb H ζ,CB!,EU _ (EU _ ζ),CC!,x1.trans ζ m1,CD!,sr.st.grow ζ m1,CE!,subIn X.K bJ_ ζ,CF!,ψ (D.bl ζ),CG!,#[oH!,oI!,λ_ z=>ξ ζ z],CH!,(by cases ζ),CI!,bO (dR ζ),CJ!,a7f (b4t (d1i (i:=ζ) hr χ f_ a_ (b4t a7p))),CK!,closOf env.cells ζ,CL!,ζ O hr hg h3 h4 h2,CM!,#[hb,ρ,M,_,ζ,e',η],CN!,Ur ζ "__init__" qual st η fd,CO!,Af ζ (Af η Av),CP!,.inl (.int (vL ζ)),CQ!,ψ #[oc,od,.func ζ,fz],CR!,GQ LJ h3.typeIs PySem.F.entry_dict_get ?_ ζ,CS!,(λz=>by subst z;rw[ζ]at eb;cases eb;exact pp _ η),CT!,da.extBut _ _ ζ η,CU!,Vy X scope cl ζ η,CV!,ψ (.dct ζ η),CW!,swappedStores ζ e X.env,CX!,ES (EV ζ),CY!,Inv ζ [] bC! H s1,CZ!,(∀p∈names,p.2=.free->∃c,ζ p.1=ψ c),C0!,ζ I q q' rr d8 a!,C1!,#[v',H3,I',bu,k _ M3 v' G3 H3 r3 ζ m3 r'],C2!,formatField_int_small ζ,C3!,ζ t.NoDeed υ M,C4!,if -1000<=1+ζ/\1+ζ<=100000 then _ else _,C5!,I.cell ζ c,C6!,DT X own ζ,C7!,ζ X own tg,C8!,XS n ζ e cls,C9!,if 0<=ζ/\D!<=big then ψ (D.str η)else υ,Da!,ζ h n tm k r,Db!,(by rw[FG,<-hl];exact ζ),Dc!,aP χ χ ((ζ _ _).trans (by rw[b9w])),Dd!,λc v hc ζ=>k c v ?_ ζ,De!,(FL.mp hp).elim (λz=>I.pin p (ζ _ z)),Df!,Fw X d1_ (ζ X.K),Dg!,letTemporaryGo value ζ r>>=λ_=>pure r,Dh!,Am.cons ζ η,Di!,.Assign [.Name ζ η],Dj!,#[[ζ].toArray],Dk!,FS.mpr ζ,Dl!,bE cq! jU ζ η n_,Dm!,Py P w K tg ζ [it] it,Dn!,rule i j t t' s _ _ ζ,Do!,ζ hr.depth lM_ χ S.co S.gen χ ml_,Dp!,I2.cell x c ζ,Dq!,Wi KF ζ ds G1,Dr!,Fq l.prog w br_ mg base ζ k fa fd [x],Ds!,XM M0 G0 F0 ζ,Dt!,rk r xs ζ,Du!,dF ζ Nn η tk,Dv!,De t [.tup ζ,.tup fs],Dw!,bD (d:=ζ) χ,Dx!,Eb.cons (j:=ζ) Eb.nil,Dy!,fF bw_ λ ζ s1 ⟨x,H1,I1,r1,q1⟩=>?_,Dz!,(ζ).foldl (λav p=>av++(η).cps++p.cps) av,DA!,dS (i:=ζ) eJ.nd χ f_ η,DB!,cN (i:=ζ) cS.nd χ f_ η,DC!,Paired F ζ,DD!,Er K H ζ xs,DE!,IW hp (cO ζ ?_),DF!,ζ pl.isList,DG!,Bu ζ λi j=>.int η,DH!,s.or.own_ ζ,DI!,(by simpa[ζ]using η),DJ!,ES (ζ ho hd ?_),DK!,relabel scope ζ,DL!,fC (.lst ζ),DM!,Ci ζ Ai dp_,DN!,ψ (D.int (((ζ).length:δ):Int)),DO!,.Call ζ η [] aj,DP!,ES (listUpdate_at rq χ ?_ b6! ζ),DQ!,lC c cs ys u_ ζ η h' a!,DR!,Value.type ζ,DS!,plainObj_wpAny_Assign_Attribute ζ,DT!,Fe KF H ζ ys,DU!,Nw.here ζ,DV!,x.get (GG ζ),DW!,ES (wpAny_missed_other h4 (EV ζ)),DX!,Heap.SameBut e ζ h',DY!,.Attribute ζ,DZ!,subAt ζ L! i,D0!,SW (wordC ζ),D1!,Inv ζ η U H s,D2!,#[u,χ,c0h (s:=rp_) e c d a_ ζ],D3!,bindArgs ζ ct!,D4!,closOf cells ζ,D5!,Or.inr ζ,D6!,ζ d M' v G' H',D7!,.FormattedValue (.Name ζ η) (-1) υ,D8!,#[ζ,J!,J!,χ],D9!,#[_,χ,ζ],Ea!,.ok (.ret (.ref (ζ).objs.size)),Eb!,LeftO r.prog ζ loose Xt Yf Ya N,Ec!,Array.perm_iff_toList_perm.mp ζ,Ed!,bD (d:=.int ζ) χ,Ee!,(List.range' ζ η).map λj=>D.int kr_,Ef!,X.s₀.heap.FunFrames X.base ζ,Eg!,s.TypeIs ζ,Eh!,λ_ t6 yj=>ζ (ζ #[χ,yj]),Ei!,ζ (η).nox [] bx aA_ q,Ej!,ζ (η).nox [] [] aA_ q,Ek!,#[ζ,q',by rw[<-aE η,hi];exact FF _],El!,failedOf ζ,Em!,HF (wpS_lift (IU #[χ,HF ζ])),En!,mono ζ η λ_ _ h'=>h',Eo!,Fz ζ 2 (η t E) ds M R,Ep!,ψ (.bl (ζ d||η d)),Eq!,joinL 46 ζ,Er!,f2 Ao ζ v_,Es!,PySem.Within mA ζ,Et!,ζ η λf s1 q=>?_,Eu!,ζ x y H Q,Ev!,S.par ζ (LS hy).1,Ew!,backTo aj ζ,Ex!,ζ cells r _,Ey!,Cq hb H ζ,Ez!,Am KF G' ζ ys,EA!,d9.lookup ζ,EB!,Kp bad fr ζ,EC!,(List.getElem?_inj (oR!).1 ζ).mp η,ED!,Dz KF ζ d u,EE!,Dz X.K hb ζ o,EF!,R .non ζ,EG!,rk r ζ k,EH!,ζ i dJ_ a! a!,EI!,Ih P w K [] M0 G0 F0 M hb H ζ,EJ!,upd H e ζ,EK!,Ci ζ ds! Ai,EL!,.tup [.int h',a4_,eF!,.tup ζ],EM!,Pk ζ ρ M,EN!,Nv S yy o ζ,EO!,(∀x∈ζ,Es x),EP!,#[ζ,G_,e9!],EQ!,SeqAt.in_listAt ζ pl.isList η eg_,ER!,ζ η b its.toArray qt.toArray n n2,ES!,WR.code_mono ζ λr s' hq=>?_,ET!,W.findCls K fC! ζ "__init__",EU!,pG (dJ ζ (eG η)) χ,EV!,λu ae=>wpAny d_ X.A ζ η X.xe ae,EW!,wpAny_letTemporaryGo (EV ζ),EX!,.int_str ζ _ _ _,EY!,.str_str ζ _ _ _,EZ!,λ ζ p' s' h'=>h' Γ p' bz hC,E0!,ζ (d.params,d.body,d.scope),E1!,Fz ζ ps.length (q E) ds M R,E2!,Cs ζ [] iP! r_ (fT nC_) gd!,E3!,fG (by simp[f1,Ab,Aa,Ad,ζ]),E4!,BS C x fo ρ y ζ,E5!,jW hX T.Q8 hr.hd χ T.Q4 ζ,E6!,ζ _ o (λz=>(η _ z).2.1 χ) ho,E7!,ζ X rest,E8!,(show Dv P w H h a ζ from η a _ e),E9!,ES (ES (m:=ib_) (GY ζ we)),Fa!,ζ η s'.heap,Fb!,ES (ζ η χ ?_),Fc!,Q (decide ζ),Fd!,sr.grow ζ m1,Fe!,Xw ζ C B0 fI,Ff!,Ag ζ (.lst η),Fg!,(by show ζ<=η;decide),Fh!,aP (x:=.int ζ) χ χ χ,Fi!,Sum.inr ζ,Fj!,I.base.free b ζ,Fk!,wpAny_Name ζ hd,Fl!,W.lookIn name ζ,Fm!,Inv ζ ab! im H8,Fn!,bJ s2 (bJ s1 ζ),Fo!,ζ ft q1 q2,Fp!,.bool_str ζ _ _,Fq!,.str_bool ζ _ _,Fr!,ζ sub rx ry e k,Fs!,dF I Nn ζ,Ft!,codeR M ζ,Fu!,(br_).In ζ,Fv!,ξ z ζ,Fw!,Lw (ζ x) (ζ y),Fx!,ζ X st bw!,Fy!,specialOf aM! ζ,Fz!,.Name en ζ,FA!,Hb ζ xs u_,FB!,fT (Bv "str" ζ),FC!,At (Dh ft ζ Ff) q2 ρ M R,FD!,js x M dn ep (ζ x η) fr hp mD_,FE!,List.append_cancel_left ζ,FF!,(∀x∈xs,fe ζ=Hr! f),FG!,ζ χ χ,FH!,qF (i:=ζ) eQ.nd χ f_ aF,FI!,starEach rest ζ,FJ!,#[ζ,ρ,ds,η,e1,nD_],FK!,Heap.ExtBut ζ η h',FL!,Kp [ζ] (frA l) s.heap h',FM!,c.Ends s args vs σ ζ s',FN!,bind (pure' (ζ η)),FO!,f2 Ag (fC nV!) (f1 Jb ζ),FP!,Dv P w ζ h',FQ!,he (hx ζ z),FR!,(ζ).map an_,FS!,(∃xs,Er ζ H p xs/\n=h!),FT!,getitemInPython_of_ne ζ,FU!,T.keep _ _ _ ζ,FV!,two hg er ζ,FW!,s.or.sub b u ζ,FX!,.int_tuple ζ _,FY!,.tuple_int ζ _,FZ!,KF.lookup ζ,F0!,ζ r.records,F1!,ζ ρ M R,F2!,ζ hu h3 h6 j2!,F3!,ES (wpAny_newList ?_ ζ),F4!,Looks M hh (ζ a3_) τ,F5!,(∃K:Value->Sem Fin,y=ζ),F6!,#[λM0 G0 F0=>dW ζ kd!],F7!,ζ A B C l Z s U H D I h,F8!,Gp K t.B2 ζ,F9!,ζ jk_ (.int b),Ga!,Yt (ζ t) gM! M,Gb!,Wt.map ζ,Gc!,((kk!).zipIdx ζ).map DX,Gd!,tP T.Q2 ζ S_ η,Ge!,μ (ζ×η),Gf!,ζ wh Z s1 U H1 Q I1 q1,Gg!,SeqAt.in_tupleAt ζ pl η eg_,Gh!,W.kitOne KF (DH ζ) aA!,Gi!,m.cell ζ η e,Gj!,(∀ys,Paired F xs ys->ζ η s),Gk!,R hx_ (upd ζ a (Xj a)),Gl!,λρ=>((ζ) ρ).bind Lc,Gm!,PySem.Txt.startswith ζ,Gn!,qX! (fC (.int ζ)),Go!,aI ζ i_ χ η aa!,Gp!,rr_ ζ η X.xe s,Gq!,(λk s'=>∃i ys us n ac H',AX_ ζ m1_/\Fa! tn i/\bT_/\Bp ys us/\D4_ W),Gr!,qS_ ζ own M1 G1 cY! M' G' H' ac ρ',Gs!,ψ (D.str (qZ! ζ)),Gt!,qS_ Qb own hb ζ U ρ M,Gu!,uu_ MR ζ hb H,Gv!,kU! "write" ζ,Gw!,Ae! (ζ c4_ χ χ χ calm i _ s' ac H' _ I' in! af η),Gx!,Ae! (HQ (WR.of_any (HQ ζ))),Gy!,ζ (dO I q (A7_ not η)),Gz!,qS_ ζ X.mg X.base k x ps g,GA!,BI_ (by simp[ζ O,kw η d! d!]),GB!,kV! ζ CX η f fd ps sp,GC!,qX_ ((ζ).map η),GD!,.Constant ζ j pos,GE!,By_ ζ (Obj.mapSeq λ_=>(#[]:Array Value)),GF!,exec ζ env,GG!,kU! ζ "drop",GH!,kU! ζ "redo",GI!,Br! Heap.MadeExc h' ζ "ValueError" args,GJ!,Ac_ ζ FZ,GK!,FC (w4_ ζ FZ),GL!,wpR M oy! oy_ ζ dk! s,GM!,qX_ [.int (ζ 0),.int (ζ 5),.int (ζ 15)],GN!,eval ζ env,GO!,AO! o ζ bS!,GP!,kU! ζ "cut",GQ!,kU! ζ "put",GR!,f2 As (qX! (f2 Bt (fC (.int ζ)) wM!)) η,GS!,ES (ES ζ),GT!,wY_ (μ ζ),GU!,Cq.laid ζ hp,GV!,uu_ Ih ζ M0 G0 F0 M' G' H' ac ρ',GW!,(eQ_).bind ζ,GX!,qS! d_ ζ,GY!,GK ζ η λ_ _ x=>x,GZ!,Cp _ _ _ ζ η,G0!,fY ζ χ T.N6 χ η bQ,G1!,λ_ _ _ _ _=>b7q ζ,G2!,List.getLast?_eq_none_iff.mp ζ,G3!,A7_ List.length ζ,G4!,A0! ζ "int",G5!,backTo ζ (tS_ η),G6!,C7_ c4p ζ i x,G7!,EV #[χ,bq,χ,rs,n2,stay ζ],G8!,codeAny b_ A.in1 (.call (B9_ ζ) η),G9!,gQ χ T.N9 ζ,Ha!,wpAny_updateDictKeys ho hd ζ,Hb!,B4! (Value.ref a2==Value.ref ζ) η,Hc!,vv_ ζ (fC η),Hd!,AX! ζ s.heap es.toArray eP_,He!,uu_ BF J ds ζ G1,Hf!,w1 nt_ (Af ζ Av),Hg!,.ins ζ s.heap.objs.size [],Hh!,Subscript_ ζ,Hi!,Bo! ζ Q I η,Hj!,BF! ζ u' j7!,Hk!,ψ (.rt ζ),Hl!,Bo! ζ x y v u Q I rx ry q,Hm!,wW_ ζ aD!,Hn!,wW_ ζ aW_,Ho!,.Name ζ p,Hp!,AM_ ζ aO_,Hq!,Bu_ ζ .ellipsis,Hr!,ψ (ζ x),Hs!,f1 Pw (Ab ζ Ad),Ht!,joinL 32 ζ,Hu!,Dm! (ζ K a) (λi h=>η it a i),Hv!,.compLoop hm_ 0 ζ av env,Hw!,wpAny_raiseNew_none hh ζ,Hx!,Ab (qX! (f2 Ag w_ ζ)) Ad,Hy!,BT_ F.len ζ,Hz!,Q .non ζ,HA!,bind (ζ ?_),HB!,wpAny b_ ht! ζ,HC!,Ar (Au (Bv "int" g!) ζ),HD!,fT (f2 ζ η g!),HE!,f2 Ea ζ b4_,HF!,#[_,ζ,χ],HG!,uu_ ζ mg base k x ps g,HH!,notedBy ζ A env η,HI!,zo_ (gS ζ (fL η)),HJ!,aM jN jQ ζ η,HK!,bZ (uV χ) a8b χ T.N0 a8d (aB ζ aF),HL!,f2 As (Gn! ζ) η,HM!,runValue (.builtin "proto.unchain" ζ),HN!,aR ζ (aR η bV),HO!,Hb_ ((Ci! ζ)\/(Fe η H p ys/\Q bk! H)),HP!,kB cC a0y χ T.N7 dH (aR ζ bV),HQ!,dS (i:=2) yG.nd χ f_ (CI_ ζ),HR!,bN ζ bR aU_,HS!,cN (i:=7) cU.nd χ f_ (aL ζ),HT!,isTrue e X.env ζ,HU!,mono ζ η λ_ _ z=>z,HV!,upd H a ζ,HW!,mono h₁ ζ λ_ _ h'=>h',HX!,aI (ζ T) i_ χ bi! aj!,HY!,dG (aB ζ η),HZ!,Go! gS_ (aB ζ fu!),H0!,λhr hX=>ζ,H1!,f2 Ag v_ ζ,H2!,bind (gF ζ),H3!,aM pO pQ ζ η]
def z'00:String:=z [a_,(by decide),b_,model prog w,c_,(by simp),d_,model X.prog X.w,e_,ds.length,f_,Or.inl χ,g_,Ac->ι D,h_,s.heap.objs.size,i_,hr.mono a_,j_,μ dO!,k_,μ Value,l_,μ V,m_,.ref C,n_,aQ _,o_,Txt P w K mg t,p_,#[χ,χ,χ,dl_,χ,dl_,dl_],q_,.inl χ,r_,Bj 0,s_,(x==cj_)=θ,t_,s2.heap.objs.size,u_,i+1,v_,fC bF!,w_,Aa 1,x_,Gl X x,y_,fC a8_,z_,starEach J_ X.env=cr_::tS_ es,A_,μ α,B_,μ Int,C_,μ Env,D_,λ_=>ψ τ,E_,Fl->Mh->ν,F_,DE X own a fa,G_,(by simp),H_,ys.length,I_,#[χ,?_],J_,(e::es),K_,EV ?_,L_,[b0!,b0_],M_,aY c_,N_,i.natAbs,O_,stp S Wt w o,P_,bT a4!,Q_,Ac->wY_ Bool,R_,ψ (Hl ns),S_,aL r!,T_,ι Int,U_,μ ca_,V_,.bl b,W_,(kZ_).any q!=θ,X_,ψ 1,Y_,ψ cx_,Z_,X.N[i]?=ψ x,Aa_,a1l hS hW ho,Ad_,Str.ofString "hand "++qZ! bV_,Ae_,EV (ES (IY u5 u6 ?_)),Af_,(show¬((i:Int)<0)from by omega),Ag_,M p=ψ (.lst (W l0::xs)),Ah_,s0.heap.objs.size,Ai_,(ψ (w,o)::gs),Aj_,.lst (W l0::Ls.map W),Ak_,λi j h3 h4=>?_,Al_,(show x - 1<a0.size by omega),Am_,(λi h4 h5=>by rw[show i=x+1 - 1 by omega]),An_,aP pE! An! aR!,Ao_,aP χ χ (jP x),Ap_,aP χ χ (jO o),Aq_,λi j h5 h6=>?_,Ar_,[qX_ aH!,az!,υ],As_,#[χ,lo,lo,χ,g2,g4,g5],At_,rows[i]?=ψ (w,o),Au_,(υ,a0.size),Av_,Kj yy rows S Wt aS_ kp! y6 y7 y8,Aw_,λ_ _ z=>z,Ax_,FE (Da_ EX EX),Ay_,(∀x∈xs,∀(R:yu_),(∀y,F x y->R y s)->Ac! (f x) R E s),Az_,λv hv R hR=>?_,AA_,ys.toArray.filterMap id,AB_,∀q∈rows,Es q.2,AC_,(by simpa using ax),AD_,(List.range' 0 bN!).map λj=>D.int kr_,AE_,[eZ!,ψ g2!,υ,υ,υ,υ,υ,υ,υ],AF_,l.filter λx=>Lw x q,AG_,if e_<=1000 then _ else _,AH_,if h=a then t a+1+m / 3%3 else t h,AI_,O.mem_iff.mp (IV gq),AJ_,.int (t+1+m / 3%3),AK_,seqObj "list" bi.toArray n',Ab_,h'.get? ζ,Ac_,ξ ζ,AL_,Heap.SameBut ζ s.heap h',AM_,kS ζ n n' a! r r' ru bu aO_,AN_,Bool.noConfusion ζ,AO_,if(ζ).length<=big then Option.map D.lst η else υ,AP_,.fields [.int lo ζ,.int hi u,.int 1 v].toArray,AQ_,concat_meets mr_ ms! noFill_tuple_add seq_tuple_add NH MY (MP ζ _),AR_,bY (sc:=Ae ζ) χ d!,AS_,bootBuiltins ζ,AT_,Cs 1 [] ζ r_ D_ η,AU_,K.lookup ζ,AV_,Dq ζ fd ps [],AW_,.fields [.ref ζ,.none,.ref a,.none,.bool τ,.none].toArray,AX_,Inv ζ η ac H' s',AY_,ψ (ψ ζ),AZ_,.Call (.Attribute o ζ be) η [] aj,A0_,Builtin.Str.strSliceIndices ζ η 1,A1_,Aq j! j! (Ae ζ),A2_,ζ mainGlobals mg,A3_,XM M hb H ζ G' H',A4_,wpAny ζ A.in1 η _ _ s,A5_,Ev yy ζ S Wt η,A6_,ζ X.prog X.w X.K M0 G0 F0 own η,A7_,congrArg ζ η,A8_,aM aG aX ζ η,A9_,OR ζ own hb H U ρ,Ba_,aN (aZ (dG (aB bV! ζ))),Bb_,.inr (.inr ζ),Bc_,(∀d M' v G' H',R d M'->XM M hb H M' G' H'->MR X.prog X.w X.K M' G' H'->ζ X.K G' d v->Q v H'),Bd_,sc.names.lookup ζ,Be_,h'.FunFrames base ζ,Bf_,wpS b_ A E s ζ Q st,Bg_,ζ _ _ _ χ χ χ,Bh_,Ab ζ (Ab η Ad),Bi_,Pu ζ ρ M,Bj_,wpAny_Call_method m.base m.few m.line MX ζ η ph!,Bk_,sp vs ζ Q E,Bl_,envOfC ζ η s.heap.objs.size,Bm_,h'.IsTupleIter ζ,Bn_,gB (ζ T) η χ a_,Bo_,PB ζ I.kIn True.intro e cG_ ak,Bp_,bX (i:=ζ) η χ f_,Bq_,ζ X.env.locals,Br_,Inv ζ [] ac H',Bs_,σ.heap.get? ζ,Bt_,W.keepIn ζ,Bu_,IsZip ζ z TI TO,Bv_,aP ζ χ χ,Bw_,.fields ζ,Bx_,#[hb,ρ,ds,er,e1,λvs G1 H1 s1 r1=>#[vd!,λp hp=>k _ _ _ vd_ (ζ ve! r1)]],By_,s.heap.update ζ η,Bz_,Fz ζ 1 (η t E) ds M R,BA_,eZ (ζ T) i_ χ η,BB_,Am.cons ζ Am.nil,BC_,wG LA PySem.F.slot_str_split PySem.F.type_str_split ζ ho.ok η f7 jh ji hs eu,BD_,W.subIn K ζ,BE_,Bc KF hb ζ,BF_,Am KF H ζ,BG_,eO (G0! a0e T.O1 qI ζ),BH_,of_any ζ,BI_,#[_,χ,G_,jH ζ],BJ_,ζ X own η ft,BK_,aT aJ aS ζ η y!,BL_,W.nsIn ζ mainGlobals,BM_,wpR b_ A ζ,BN_,Dg t ζ yy a ta wa,BO_,chainsOk ζ&&opensWell r.prog&&(frees r.toRowW&&r.within.isEmpty),BP_,ζ "BaseException.__getattribute__",BQ_,Q bk! (upd ζ p η),BR_,ζ X.prog X.w X.K own η,BS_,ζ X Z U Q,BT_,ζ _ _ _ _,BU_,xK cn df b9 cap calm (hg cl) (hi cl) (he cl) I2 ζ cz f2 hw ?_,BV_,s'.heap.FunFrames ζ,BW_,kO #[kg!,n!,ax,χ,G3,M3,ws,bc,#[jk.or.le m7,m3,ζ],nD!,n!,r3],BX_,Pj S yy ζ,BY_,s.heap.IsTuple ζ,BZ_,wl (fC (.str ζ)),B0_,Fe ζ H a xs,B1_,CE outer ζ w H s Q u s',B2_,ζ X own own,B3_,ζ cm_ λv s1 ⟨x,H1,I1,r1,q1⟩=>η,B4_,f1 ζ (Ab η Ad),B5_,s.heap.FunFrames ζ,B6_,Kp ζ eG! s.heap h',B7_,(∃xs,ζ η H p xs/\k=! da_),B8_,lE ns x1 yy x3 ζ bO! x6 x7 x8 x9 bh cx c9 bc cm cg cb b8,B9_,.builtin ζ,Ca_,FormattedValue_plain (cO ζ ?_),Cb_,I.hok.fresh ζ,Cc_,List.replicate ζ υ,Cd_,ζ KF own,Ce_,Cp bnd ft fe ζ ds,Cf_,Js bnd ck ft fe ζ,Cg_,occurrences s L! 0 s.length ζ,Ch_,#[ζ,(η).trans e1],Ci_,ζ I dx dy n1 n2 a! r1 r2 rx ry X.prog X.w X.xe _ nR!,Cj_,I.list ζ,Ck_,I1.hok.fresh ζ,Cl_,s'.heap.get? ζ,Cm_,ζ [] X.env,Cn_,FC (show¬((Value.ref ζ==Value.none)=τ)by simp),Co_,Cp r_ D_ ζ X! η,Cp_,(Mo M ζ).map λxs=>D.int h!,Cq_,#[dE!,by rw[bD!];exact mF (v:=ζ) (ws:=[]) d! d!],Cr_,Q (.bl ζ) H,Cs_,.cons ζ .nil,Ct_,JR M Γ _ ζ cM_ _ _,Cu_,DG (.tup ζ),Cv_,wpAny_comprehension_free χ ζ b9.eq cn ic uF_,Cw_,#[ex_,λhi=>by rw[EX,ζ]at hi;exact JT hi.symm],Cx_,X.base.get? ζ,Cy_,(ζ).map q!,Cz_,compEnvC scope cl ζ X.env,CA_,ζ _ _ χ χ,CB_,docDef d.name d.params d.body d.scope ζ cd bn,CC_,mup M p ζ,CD_,Md bnd ck q1 fW_ ρ' M' ζ,CE_,Aq L_ L_ (Ae ζ),CF_,jG d! d! d! d! d! c_ c_ ζ,CG_,At ζ q ρ M R,CH_,if(ζ).length<big then ψ (Fl.nx _)else υ,CI_,aM cL cM ζ aC,CJ_,ζ value slice Z s U H x y v u Q I rx ry q hs,CK_,ζ em_ χ χ χ calm i _ s' ac H' _ I' in! af η,CL_,wpR d_ X.A ζ η X.xe s,CM_,HF (wpS_reverse ζ),CN_,λp hp=>ζ p η,CO_,cutL ζ υ η,CP_,(λx y H Q=>∃i j,x=.str i/\y=.str j/\Q ζ H),CQ_,c1u G d6 ig ((ζ x1).cap NL.length ix gk) e2,CR_,mI I2.kIn ζ e2 lL! i9 ?_,CS_,Bc X.K ζ η v,CT_,.of_isNs (W.isNs_of_in ζ η),CU_,ζ d.params.kwonlyargs d.params.kw_defaults,CV_,sA ns ζ η a_,CW_,#[F!,[F!],_,_,H1,χ,rt_,ζ a _,dY!,c8_,q],CX_,li A outer s H vs Q E ζ,CY_,(by rw[ζ];omega),CZ_,s2.heap.get? ζ,C0_,MR P w ζ M' G' H',C1_,HF (wpS_modify (IT (.inr #[FF 1,χ,ak ζ η]))),C2_,Ao (.lst ζ) (.int η),C3_,Dh ζ q1 q2 ρ M R,C4_,f2 Ag (f2 Ag gk_ (Bl (Ab (Aa ζ) Ad))) i5_,C5_,(ζ:μ Expr).length+(di!).length+eh!<30,C6_,backTo pos ζ,C7_,ζ dc hl hf,C8_,GE (ES (wpAny_sequenceKey hT a_ (ES ζ))),C9_,At nA_ (At (Ja vJ! (Sh 2 3) ζ) (Ei aY!)),Da_,(by rw[ζ,η];delta big;omega),Db_,ζ ai hf fm hN me gk am mf nw hg hm C qg,Dc_,(show(ζ:μ Str).Nodup by decide+kernel),Dd_,Un hi_ ζ H η s.heap,De_,ζ b_ (A.under (.builtin "type.__call__" η)),Df_,ζ xs.length η,Dg_,(FD.mp ζ).elim η,Dh_,Gu KF ζ (Ax λi j=>.bl η),Di_,ψ (.Name ζ η),Dj_,ζ cls.1 cls.2 H',Dk_,#[by show Dm ζ _=τ;rw[η];simp[Kb,a.1],oL!],Dl_,ζ X.stack,Dm_,Jy ζ body,Dn_,Un (frs outer) [] ζ H' s.heap s'.heap,Do_,ES (ζ ?_),Dp_,Am ζ η ds vs,Dq_,ES (IU ζ),Dr_,Gi ks k ζ,Ds_,#[hb,ρ,M,_,sr.st,e,ζ],Dt_,wpR _ _ ζ _ _,Du_,Fz ζ 2 (η t),Dv_,hA.cl h ζ,Dw_,Ev yy ζ (O_).1 (O_).2,Dx_,ζ d M1 v G2 H2 h2 zF! (m1.ext x2) q2,Dy_,ζ K η "__getattribute__",Dz_,if ζ+H_<=big then ψ (D.lst η)else υ,DA_,qF (i:=ζ) eR.nd χ f_ η,DB_,.cons ζ ih,DC_,(ζ).get? b,DD_,Iy X Z ζ b,DE_,I5.pinned ζ hF!,DF_,(ζ).all bW!,DG_,ψ ds[ζ],DH_,s.heap.IsList ζ,DI_,ζ i t _ _ _ _ h,DJ_,SB kd a0 ζ,DK_,cameBackBy ζ A env E,DL_,E ζ υ M',DM_,waitP ζ Wt yy o,DN_,(ζ).trans η,DO_,Builtin.Str.partsBetween ζ oc_ ag!,DP_,foldedSetIterable ζ η x,DQ_,At (Ja (Rk (Fv dp!)) (En 1) ζ) vA_,DR_,Dv P w H h ζ,DS_,IntsAre ζ ns,DT_,ψ (.nx ζ),DU_,Er ζ H a cv!,DV_,st.grow ζ m1,DW_,Ih P w ζ own M0 G0 F0 M hb H U ρ,DX_,(λy=>by subst y;rw[ζ]at z;cases z),DY_,(by show ζ<=sizeLine;rw[HG];decide),DZ_,ζ (.str a) (.str b),D0_,bC (GI ζ),D1_,X.env.kindOf ζ,D2_,(ζ).lookup η,D3_,ζ kindOf h4! m,D4_,ζ i k ys ac H',D5_,ζ X own f8 bQ!,D6_,Up r ζ a0.size,D7_,FE (by simp![ζ];delta big;omega),D8_,λb o _ G _ e n=>ζ b o e n G c_,D9_,ll.extBut ζ o (below b bv_) un_,Ea_,Ground q loose r.records XP w ζ,Eb_,ζ a! I3 m3 x3.sub px zK! e3 zK_,Ec_,checkBuiltinCall ζ,Ed_,Qe t.B2 2 (Hv t) ζ,Ee_,λ_ _ _ _ _=>bX (i:=0) ζ χ f_,Ef_,Er X.K H ζ,Eg_,(ζ).length+(di!).length+eh!<30,Eh_,b7n hc.ok ζ η Z s U H,Ei_,RV X H s ζ,Ej_,ζ q loose XP YP r.toRowW d kwd,Ek_,ES (ζ hT η),El_,HF (b6t hl b' ζ η ?_),Em_,kf L'[ζ].2,En_,#[ζ,_,_,η,jy!,χ,χ],Eo_,Ho 1 [] (Rk (Ej ζ)) r_ ev_ nu_,Ep_,At _ _ ζ M,Eq_,ζ t.NoSave,Er_,Value.ref ζ,Es_,AllBare ζ,Et_,PI X tg ζ,Eu_,List.lookup ζ,Ev_,upd H ζ (.tup η),Ew_,GK h ζ λ_ _ x=>x,Ex_,h₁.get? ζ,Ey_,.inr (.inl ζ),Ez_,ds.drop ζ,EA_,IsPair ζ TO x,EB_,Iw P w s.heap ζ v,EC_,wpAny_ite_split ζ,ED_,XM M hb H ζ,EE_,m.cell ζ _ hM,EF_,ζ I1 m1 x1.sub hM,EG_,pendingOf ζ,EH_,hc ζ s1 U H1 vs us Q I1 r1 q1,EI_,Heap.MadeExcOf ζ h' e m_ rest,EJ_,Cs ζ [] (Ym w_ g!) iz_ D_ iA!,EK_,Cs ζ [0,2] (Fv nG!) r_ D_ vT_,EL_,(ζ).map wordC,EM_,(a0d (k:=ζ) ht χ).trans y9!,EN_,ζ θ M o.v cR_,EO_,Cp r_ ft fe e7! ζ,EP_,ζ (fB_).kindOf bB! λ_=>υ,EQ_,ζ X.env.cells scope.names [],ER_,List.length_eq_zero_iff.mp ζ,ES_,Obj.isFreed_of_dict (ζ hd _),ET_,a6f (d:=o.nm) χ (b8p ho) ζ,EU_,.ExceptHandler ie_ υ ζ hp,EV_,ζ X ah! (CF r t),EW_,.int_int ζ _ _ _,EX_,.str_int ζ _ _ _,EY_,ζ ho ir ha.ok G.ok hc.ok hm,EZ_,ζ Γ η bz hC,E0_,nr.grow zR_ (m3.write hM ζ),E1_,Ep 2 (ζ t) η,E2_,#[_,ζ,η b5_],E3_,.lst ((ζ).map W),E4_,Cs ζ [6] gf! r_ (fT gh_) g!,E5_,Bp ζ its,E6_,PE X ζ (tC η),E7_,tn ζ s2.heap,E8_,Inv ζ [],E9_,typeLookup ζ "__getitem__",Fa_,Gu KF (ζ KF),Fb_,(I.hok ζ o e).stay xk! xk_,Fc_,List.mem_iff_getElem?.mp ζ,Fd_,ζ _ M' _ _ _ r z5_ kg_ kh!,Fe_,f1 ζ aq_,Ff_,R (.nx ζ) M',Fg_,Bm o.v&&Cm ζ&&decide (Du η<=40),Fh_,aN (lM (i:=ζ) a_ η),Fi_,.dict ζ ep,Fj_,(by rw[ζ];decide),Fk_,ES (GE ζ),Fl_,r.append ζ,Fm_,Fe KF H' ζ,Fn_,yl ζ H2 hy,Fo_,.bool_int ζ _ _,Fp_,.int_bool ζ _ _,Fq_,h.IsTupleIter ζ,Fr_,k _ O.objs.size xW_ xX! ζ,Fs_,notedBy d_ X.A yr! ζ e s',Ft_,wp _ Γc ζ _ _ default σ,Fu_,Iw P w h ζ,Fv_,#[χ,χ,ζ],Fw_,Wa P w K M0 G0 F0 [] bx ζ,Fx_,Hw.none ζ m.new,Fy_,W.notCls ζ,Fz_,#[st.1,ζ,χ,st.2,p.isList],FA_,ζ cs start,FB_,xs.all (Ct ζ n),FC_,Gf eL_ gy! (wl fb) ρ ζ K,FD_,λx hx=>ζ x b5!,FE_,Gh ey! Yc aH! ζ,FF_,dC (fG ζ),FG_,aN (aZ ζ),FH_,wQ hX mx! mx_ hr.hd χ ζ,FI_,#[.str ζ,H,aJ_,P!,η],FJ_,#[_,ζ,χ,χ],FK_,Ur KF ζ η st ag fd,FL_,hc _ p χ (bz.enter c ζ p η),FM_,σ.heap.CodeRec ζ d.name,FN_,toDigits_len_pow a_ a_ ζ,FO_,.seq ζ n,FP_,Hw P w ζ h',FQ_,u.free b ζ η n,FR_,ζ a! (by rw[η i a!];exact q),FS_,(show∃t,u=ζ b t from r),FT_,Ka bD_ cu ζ,FU_,hi (ζ▸hj),FV_,PB ζ I.kIn nv! e cG_ ak,FW_,.bool_bool ζ _,FX_,.str_tuple ζ _,FY_,.tuple_str ζ _,FZ_,aH (aU z ζ),F0_,callWith pos ζ,F1_,c2n hg st ζ,F2_,Jk (Nj ζ d),F3_,Vv KF mg ζ C qual st ps,F4_,ζ G2.objs.size s2 H2 fp,F5_,W.Looks M ζ,F6_,λr s'=>r=.none/\Q ζ s',F7_,f2 Ao ζ al_,F8_,belowK 16 ζ,F9_,Np (ζ l) (.str eI_) iK!,Ga_,(m2 a aq ζ).trans hA.ob,Gb_,.tup [.int (ζ:Int),q.1],Gc_,λ_ _ _ _ _=>ζ,Gd_,w2 Kg ζ (wl η),Ge_,FW (FM ζ η),Gf_,Fw X d3! (ζ X.K θ),Gg_,Iy ζ (ab!++[en!]) H' b,Gh_,(ζ b u r).stay yo! ov_,Gi_,#[G2,a9,M',_,ζ,e2,z0_],Gj_,Lv ζ (XR P w η M0 G0 F0 EM),Gk_,(by rw[e1,e2];exact ζ m),Gl_,List.getElem?_of_mem ζ,Gm_,List.any_eq_true.mpr ζ,Gn_,uu_ He mg base Mt k ag fd ps ζ,Go_,cN (i:=ζ) cU.nd χ f_ (aL η),Gp_,λhr _=>ζ,Gq_,uu_ MR ζ G' H',Gr_,wX_ (Builtin.«proto.unchain» ζ) s,Gs_,Ar (Ay (Ab aZ_ ζ)),Gt_,mono h qy! λ_ _ hx=>bind (mono (BH_ hx) ζ λ_ _ e=>e),Gu_,kU! ζ "write",Gv_,pS iB ms_ χ T.O2 fR (b0e ζ),Gw_,A0! ζ "NoneType",Gx_,Ac_ (FM ζ η) c1!,Gy_,qS! b_ ζ,Gz_,bind (dP ζ),GA_,A7_ Array.toList ζ,GB_,Bo! ζ x v vl vu lo hi sl Q I rx hs pl pu q,GC_,aM aG aX (A8_ ig! (fW (aB (aA ζ) aF))) mK_,GD_,evalArgs ζ τ η [],GE_,ψ (D.lst ζ),GF_,kU! ζ "move",GG_,kU! ζ "undo",GH_,if ζ=τ then _ else _,GI_,m2! ζ s',GJ_,λM0 G0 F0 hX=>ζ,GK_,A0! ζ "tuple",GL_,qS_ Hy M0 G0 F0 own ζ,GM_,rr_ ζ Q E s,GN_,.Subscript ζ η pos,GO_,#[hb,ρ,x,er,e1,λv G1 H1 s1 r1=>ζ],GP_,kU! ζ "set",GQ_,Bo! ζ o i v ov iv u Q I ro ri rv q,GR_,spliced ζ,GS_,A0! ζ "list",GT_,if neg then !(ζ).isSome else(η).isSome,GU_,C7_ ζ hn ce am he hc hd (l8!).1 k,GV_,ψ (Bt! ζ),GW_,eI (bD ζ) ?_,GX_,BQ_ H (.lst ζ),GY_,bind (Bw! h ζ),GZ_,λ_ _ _ _ _=>ζ,G0_,kV! Rh ζ outer s H,G1_,Cd_ SR ζ η G' H' U ρ,G2_,qS! B! ζ,G3_,Bt_ ζ aC!,G4_,A0! ζ "str",G5_,Cn! (PK _ _) ζ ?_,G6_,.inl (.inr ζ),G7_,.lst (xs.set ζ v),G8_,a0c χ χ ζ,G9_,dI fu_ (Ba_ ζ) cB,Ha_,vs.setIfInBounds ζ η,Hb_,(λxs H Q=>∃p ys,xs=ig_/\ζ),Hc_,jf.extBut _ _ c2 (CT! c3 ζ),Hd_,Bj_ ζ PySem.F.type_dict_get,He_,WR.Try_R (WR.execs_consR ζ),Hf_,BD_ (.ref ζ) gn_,Hg_,Bc! ζ η X.env,Hh_,Bb_ (.inr ζ),Hi_,BY! ζ u' cI!,Hj_,kV! Fq Mt Q! fa fd [ζ] rV!,Hk_,BS_ EP ζ s,Hl_,A7_ ψ ζ,Hm_,wW_ ζ bp_,Hn_,wW_ ζ aN_,Ho_,ζ i hi p e,Hp_,#[_,χ,EV ζ],Hq_,B2! jI! [(ζ,u)],Hr_,[.Attribute (.Name xs ζ) "line" η],Hs_,rJ! (ζ d),Ht_,Gh du! Wj ζ pJ!,Hu_,upd H s.heap.objs.size ζ,Hv_,Cl! wpAny_keeperOf_exc ζ,Hw_,BN_ ζ η bd S kl ca,Hx_,ζ I1 hN hi hx r1 re_ hf,Hy_,.cons χ ζ,Hz_,subscripted ζ θ o i,HA_,B7! ζ ds us,HB_,.JoinedStr ζ η,HC_,Cn ζ bF_ Bb,HD_,(bC ζ).trans η,HE_,Dl_ CX ζ η E e s',HF_,Fw X d3! (qS_ ζ θ),HG_,Nk X ζ (A6_ Hy η),HH_,joinParts_consE (JP ζ),HI_,kV! Ok 4 ζ j! (η),HJ_,dI (b1e (jC ζ)) l2_ cB,HK_,dS (i:=ζ) eJ.nd χ f_ η,HL_,dI ζ bS_ cB,HM_,aB ζ (aB η aF),HN_,aN (aZ ζ),HO_,(by show GE_ (Bp! a1! ζ)=_;rw[fQ]),HP_,Gs_ (Ab aE! (Ab iT! (Ab ζ Ad))),HQ_,f1 Ed (Ab ζ η),HR_,qP cr! jR ζ η y!,HS_,GJ! (show θ=τ from ζ),HT_,cutL ζ lo hi,HU_,Af (wl ζ) Av,HV_,(dC ζ).trans ?_,HW_,G2_ (pyIter ζ),HX_,m9.extBut _ _ ζ η,HY_,bZ cC eF χ T.N7 dH ζ,HZ_,jC (fZ ζ (fD η)),H0_,aM aG aX ζ η,H1_,λhr _=>(aK lp_ (HN_ ζ)),H2_,bN ζ aU_ bR,ψ,some,χ,rfl,υ,none,τ,true,θ,false,ι,Option,ν,Prop,μ,List,ξ,absurd,ο,trivial,δ,Nat]
def z'a:String:=z [aa!,aD aj!,ab!,X.pn++Z,ac!,D->Ac->wY_ Ac,ad!,.ref f,ae!,.int i,af!,.lst xs,ag!,y.length,ah!,.Call (Ho! x) J_ [] pos,ai!,.rt d,aj!,aD (λ_ _ h=>aO h),ak!,ι Addr,al!,i∉own,am!,ψ dz!,an!,ψ v,ao!,(by simp;omega),ap!,x.length,aq!,s.cps.toList,ar!,Ac->wY_ aB_,as!,ψ (.lst ops),at!,vs.length,au!,#[h,g,d,t,os],av!,λi hi=>(by exact(FU hi).elim),aw!,ι D,ax!,hd!=ψ L,ay!,Wt.map Op.v,az!,ψ o.v,aA!,.type T,aB!,μ ej_,aC!,.ref ag,aD!,.type "int",aE!,Aa 6,aF!,X.A.units+64<cLine,aG!,ψ 3,aH!,xs.map Op.v,aI!,.tup xs,aJ!,PE X a ta,aK!,.bl θ,aL!,(xC==cj_)=θ,aM!,.str x u,aN!,aA 4,aO!,scope.names,aP!,α->Shared->ν,aQ!,FC c_,aR!,cZ _ _,aS!,FE a!,aT!,fs.length,aU!,Cf v u,aV!,aA 2,aW!,aA 6,aX!,scope.kind=.function,aY!,wl w_,aZ!,Aa 8,a0!,(by simp;omega),a1!,ws.map W,a2!,Wt.length,a3!,X.calm=τ->kM_=υ,a4!,Ba.units hr,a5!,g i j,a6!,#[_,e],a7!,∀y∈aO!,y.2≠.cell,a8!,cs.length,a9!,f2 Ao g! y_]
def z'aa:String:=z [aa_,#[χ,χ],ab_,Aa 2,ac_,[a,b],ad_,EP X Z U Q,ae_,.bl τ,af_,X.calm=τ,ag_,h_+1,ah_,f ρ,ai_,μ Stmt,aj_,ψ (i:Int),ak_,Ae st,al_,fC iv!,am_,us.length,an_,(·.2),ao_,cQ 0,ap_,.lst ys,aq_,Ab g! Ad,ar_,Aa 3,as_,Dg t M yy a ta wa Wt bd S kl ca,au_,(by rfl),av_,A.units<cLine,aw_,X.stack=X.env::X.outer,ax_,Flow->Shared->ν,ay_,.fn a,az_,aT aJ aS r! aC y!,aA_,Co st,aB_,μ D,aC_,Cq.refl sub,aD_,Ac->wY_ Fl,aE_,es.length,aF_,mk w,aG_,ψ O!,aH_,its.toArray,aI_,Hw P w H h,aJ_,I.tok _,aK_,Gl X xC,aL_,μ δ,aM_,∀x,DP_ iter X.env=pure x,aN_,.type "tuple",aO_,(λ_ _ e=>by cases e),aP_,wordC x,aQ_,bD χ,aR_,λ_=>True,aS_,ψ g2_,aT_,Uo X.env.scope x,aU_,bP aC,aV_,aA 3,aW_,.type "str",aX_,f ρ=ψ d,aY_,Aa 7,aZ_,Aa 9,a0_,(env::outer),a1_,ME X own e f,a2_,mixKind P w,a3_,.ref C0,a4_,.int n,a5_,FC a!,a6_,Eb X scope NF ix,a7_,NL++NF,a8_,.int 0,a9_,fC (.int 3)]
def z'b:String:=z [ba!,.nx ρ,bb!,ψ (.int most),bc!,Sem α,bd!,[o.v],be!,lo+hi,bf!,upd H a o,bg!,k _ _ q_ e,bh!,μ V->Hp->ν,bi!,aB r! aF,bj!,dO I q c_,bk!,.ref p,bl!,ws.length,bm!,intC i,bn!,["word"],bo!,λb h=>?_,bp!,Aa 5,bq!,n+1,br!,[jE!,gy_,υ],bs!,hs S o.h,bt!,x1.trans x2 m1,bu!,rows.map Bw,bv!,.type "BaseException",bw!,TX X M0 G0 F0 own ay q1,bx!,X.mg x=υ,by!,I.ok.hd hc,bz!,(a,oe),bA!,Fw X (compareOp op) r,bB!,ps.zip us,bC!,start N vs,bD!,FC a_,bE!,ψ nb_,bF!,.int 1,bG!,.fn t.A0,bH!,μ D->ι D,bI!,FE xL_,bJ!,Tk->Hp->ν,bK!,Dz X.K hb d u,bL!,MR X.prog X.w X.K M hb H,bM!,((n+2:δ):Int),bN!,rows.length,bO!,ψ cc_,bP!,.Name x pos,bQ!,(st::rest),bR!,ψ e,bS!,eval o X.env,bT!,λ_ _ _ _ _=>nF,bU!,#[bg,H1,back J,q],bV!,aA 9,bW!,λx=>!x.1,bX!,λx hx=>?_,bY!,Aq N ps ak_,bZ!,G2.objs.size,b0!,"hand",b1!,"lines",b2!,Bc KF hb d v,b3!,Or.inr χ,b4!,DE X own b fb,b5!,EW _ hx,b6!,GT _,b7!,.int k,b8!,Lv X R,b9!,FR.mp z]
def z'bb:String:=z [ba_,Ct Bk n d=τ,bb_,K.In h,bc_,Result->Shared->ν,bd_,ME X own a fa,be_,μ pA_,bf_,.ref x,bg_,Lv X hi!,bh_,μ Expr,bi_,aL N!,bj_,λ_=>χ,bk_,l7_=υ,bl_,backToKw aj sB_,bm_,.lst ds,bn_,"_law_script",bo_,ψ d,bp_,.type "bool",bq_,w.length,br_,K w.params,bs_,Jv d=ψ k,bt_,l.length,bu_,Value.none,bv_,FK e,bw_,ha Z s U H _ I h,bx_,x≠"__name__",by_,.ref it,bz_,aA 7,bA_,I.tok _,bB_,vs++du,bC_,vs.toArray,bD_,Hx X scope cl C a7_ ae au fp,bE_,OR KF own hb H U ρ,bF_,Ar (fC aK!),bG_,s1.trans s2,bH_,#[hb,ρ,_,er,e1,va!],bI_,ψ (.int m0),bJ_,.ref c,bK_,MR P w KF M hb H,bL_,.fn p,bM_,SB kd a0 st,bN_,h1.length,bO_,PE X b tb,bP_,.str x,bQ_,PE X e te,bR_,(l0::Ls),bS_,aN (aZ gA),bT_,(∀b∈fp,H' b=υ),bU_,aA 8,bV_,toString i,bW_,λx=>x.1.isSome,bX_,Array t0_,bY_,(L!:Str),bZ_,Am KF H ds vs,b0_,"operation",b1_,"_law_k",b2_,ρ.set i bo_,b3_,fa ρ,b4_,fC nF_,b5_,hr _ c_,b6_,.type "tuple",b7_,ψ od_,b8_,(by rw[EX];delta big;omega),b9_,μ DictEntry]
def z'c:String:=z [ca!,(∀b,M b≠υ->M' b=M b),cb!,q1.mono x2.g,cc!,M a=ψ gT_,cd!,Wt.map Op.nm,ce!,HE _,cf!,(by simpa using e),cg!,a==sysModules,ch!,Ky X pn f,ci!,λp hp=>?_,cj!,Px X.env.scope x,ck!,(x==fd!)=θ,cl!,model prog w,cm!,ψ O!,cn!,Hm X a pn,co!,μ V->Hp->VK->ν,cp!,i.natAbs.log2,cq!,jM a4!,cr!,kM a4!,cs!,.ref fI,ct!,#[us,[]],cu!,v.natAbs.log2,cv!,ns.map V.int,cw!,.error e,cx!,∀y∈aO!,y.2=.free->uD_,cy!,(d::ds),cz!,[b0!,"message"],cA!,"line",cB!,"_law_number_here",cC!,(by rw[q];simp),cD!,fC .non,cE!,[bG!,.fn t.A6,.fn t.A7],cF!,Ab w_ Ad,cG!,wl ab_,cH!,Ab ab_ Ad,cI!,Dl d d',cJ!,.str s,cK!,s.heap.FunFrames base a0_,cL!,env.frame=ψ L,cM!,kM_=υ,cN!,Unit->Shared->ν,cO!,b.natAbs,cP!,M p=ψ gT_,cQ!,mkHash P w k,cR!,.int o.h,cS!,S.length,cT!,Jv y=ψ k,cU!,cH h2,cV!,dn.map λo=>o9_,cW!,bN_<big,cX!,.ext x2,cY!,Fg own U H1,cZ!,Si prog w A s a0 kd r,c0!,.int i t,c1!,JZ _,c2!,ψ e6!,c3!,U.set i an!,c4!,Bp vs us,c5!,behindInMarks op b=θ,c6!,ψ (.int bv),c7!,rv.length,c8!,FP _ χ,c9!,.ref h_]
def z'cc:String:=z [ca_,D×D,cb_,aA 5,cc_,.int j,cd_,Wt++[o],ce_,S.map Op.v,cf_,Str×V,cg_,aH (aU q hn),ch_,B+4,ci_,Sem Value,cj_,("__debug__":Str),ck_,.int i,cl_,excClassObj nm q C N bs bm hdct sn sub ab col dd k0 k1 k2 k3 k5 newId,cm_,he Z s U H _ I h,cn_,FT _ hp,co_,Int->Int,cp_,.int n,cq_,aL aC,cr_,(θ,AV! e),cs_,us++ds,ct_,aL bH,cu_,aM cL cM tu! aC,cv_,FE au_,cw_,dN c_,cx_,.fn a,cy_,"ours",cz_,H p=υ,cA_,[bn_,b1_],cB_,[ep!],cC_,f1 Bi aq_,cD_,er.grow s1,cE_,[.fn t.B1],cF_,Ah v_,cG_,(λz=>nomatch z),cH_,Bm d=τ,cI_,HJ ..,cJ_,.int h,cK_,∀b∈frA a0_,∃o,n.get? b=ψ o,cL_,ψ item,cM_,λ_ _ _ h'=>h',cN_,a.natAbs,cO_,k.cps.toList,cP_,Gi ks k,cQ_,a++b,cR_,.fn wa,cS_,ep+1,cT_,[Y_,az!],cU_,o.n - 1,cV_,Cu h1 d,cW_,Str.ofString "waits ",cX_,.dct [] 0,cY_,Uh w l,cZ_,Kj yy rows S Wt aS_ kp! pH_ y7 y8,c0_,a==b,c1_,X.s₀.heap.objs.size,c2_,λi hi=>(CH! hi),c3_,Bool->Hp->ν,c4_,Hn XE X scope cl G2.objs.size a7_ s2 H2 fp,c5_,.Compare a [op] [b] pos,c6_,Kh i,c7_,reprText x,c8_,λb G=>?_,c9_,[do_]]
def z'd:String:=z [da!,X.N[ie]?=ψ en,db!,.dK h1,dc!,ψ ad!,dd!,ns.length,de!,Dq X.K fd ps ds,df!,Ig CX X E,dg!,.builtin id,dh!,n1++qZ! (toString v)++n2,di!,([]:μ Keyword),dj!,s.heap.push {cls:=.type "list_iterator",data:=BV! l},dk!,λe s'=>R cw! s',dl!,s.cps.toList.length,dm!,["sign"],dn!,["part"],do!,"_law_found",dp!,fC (.int 16),dq!,Gu X.K r g,dr!,k _ hb H aC_ Bc.int,ds!,Ah a9_,dt!,.Name x j4,du!,En 4,dv!,Str×D,dw!,#[_,mi,mR qj b5_],dx!,h.Ns mainGlobals mg,dy!,∀b,h_<=b->n.get? b=υ,dz!,.int base,dA!,.ok f,dB!,FE b8_,dC!,Array DictEntry,dD!,wordC a,dE!,#[J!,J!],dF!,EW _ hj,dG!,o.n==jS!+1,dH!,ME X own o fo,dI!,λx h=>(CH! h),dJ!,μ pB!,dK!,[ψ y0,az!,gU_],dL!,Bp xs us,dM!,μ α->ν,dN!,(Hr! v::rest),dO!,Addr×Obj,dP!,ψ z!,dQ!,ψ kj!,dR!,λb G=>?_,dS!,eval e X.env,dT!,G Z s1 U H1 _ I1 q1,dU!,.Return bR! pos,dV!,Hm X a ab!,dW!,cO cm_ ?_,dX!,.type "ValueError",dY!,#[_,c8!,χ,χ],dZ!,.int j,d0!,ha pos Z s U H _ I h,d1!,aB N! aF,d2!,(show θ=τ from hs),d3!,compareOp .In,d4!,ES ?_,d5!,.ins C dx fs,d6!,True.intro,d7!,μ sF!,d8!,.List es pos,d9!,PA X J_ t]
def z'dd:String:=z [da_,xs.isEmpty,db_,K.In s.heap,dc_,Hm X a pn,dd_,ψ (j:Int),de_,Bp du ds,df_,aL aV!,dg_,Rj e C υ t0,dh_,.ref D0,di_,mL_=τ,dj_,EW _ hy,dk_,.ListComp c7 ul! scope pos,dl_,(by decide+kernel),dm_,.tup ds,dn_,.lst vs,do_,"_law_one",dp_,Ah al_,dq_,DE X own e f,dr_,Ac->wY_ nr_,ds_,.Name x p2,dt_,λb h=>.inl h,du_,Bc X.K H d v,dv_,Sum.inr y,dw_,.inr d!,dx_,A.frames=ψ a0_,dy_,O.objs.size,dz_,#[ο,?_],dA_,is.map intC,dB_,.ref fa,dC_,eN q_,dD_,wordC b,dE_,FH χ,dF_,hF yy ta wa bd,dG_,ME X own b fb,dH_,Vs o l,dI_,Ua S Wt yy,dJ_,j - 1,dK_,Bw (w,o),dL_,xs++ys,dM_,[a,b,c],dN_,f2 Ao f v_,dO_,X.A.frames,dP_,U.length,dQ_,.xd [("line",.int k)],dR_,.inl χ,dS_,SP X Z D,dT_,cO bw_ ?_,dU_,[v,ov,iv],dV_,PG X tg g,dW_,Q () s,dX_,bZ cC eF χ T.N7 dH bi!,dY_,((0:δ):Int),dZ_,(θ,AV! a),d0_,PassesOwn d_ X.A X.env X.xe,d1_,binaryOp .Add,d2_,aB aV! aF,d3_,.ref x,d4_,s.heap.push hT!,d5_,Ud X.K C,d6_,aL hQ_,d7_,PA X es t,d8_,aL aN!,d9_,dX I hg hm ?_ al]
def z'e:String:=z [ea!,HI fC_,eb!,e0.bs b o e,ec!,.ref b,ed!,its.toArray.size,ee!,Mj X.K D0,ef!,(xD==cj_)=θ,eg!,aT aJ aS (aA 14) aC y!,eh!,if(di!).isEmpty then 0 else 1,ei!,[("start",.int k t)],ej!,By H H',ek!,μ t5_,el!,∀b∈fp,DD_ H2,em!,.inl z,en!,(t_,oD),eo!,dw _ (mz p hp),ep!,"_law_ops",eq!,D->D->ι D,er!,s2.trans s3,es!,[bG!,.fn t.A4,.fn t.A5],et!,Ew t,eu!,wl R!,ev!,Ej w_,ew!,.builtin "isinstance",ex!,fC vF!,ey!,En 2,ez!,#[jj fg,?_],eA!,Bm d'=τ,eB!,Aa 12,eC!,(W!:Int),eD!,"move",eE!,A.deeper (Bl_ x ak_ ag ah),eF!,.int tm,eG!,frA a0_,eH!,GM he hd O ?_,eI!,Sl base P w,eJ!,Vu X.K C,eK!,ι Value,eL!,.inr q_,eM!,FA c_,eN!,Iw P w s.heap k u,eO!,(qZ! "ours",.int yy),eP!,.fn q,eQ!,Wh X.prog X.w X.K r gm,eR!,(∀b,M0 b≠υ->M' b=M0 b),eS!,A.units+1<cLine,eT!,eqW X.K H dx,eU!,Ih P w KF own M0 G0 F0 M hb H U ρ,eV!,#[G',ρ,M',R,sr.grow x m,r,k1,k2],eW!,ψ hU!,eX!,wpS_get ?_,eY!,((i+1:δ):Int),eZ!,ψ gK_,e0!,Dz KF hb,e1!,.str x t,e2!,us.toArray.zip gi!,e3!,Heap->ν,e4!,.own a,e5!,Ab f Ad,e6!,.int r,e7!,(none::rest),e8!,HX ?_,e9!,aP hl (Bv_ hf) χ]
def z'ee:String:=z [ea_,Fd CX P w K mg base N qual scope f ah A outer s H E,eb_,k.natAbs.log2,ec_,.ref e,ed_,X.mg xD=ψ dh_,ee_,Gl X xD,ef_,aA 12,eg_,#[.bl _,H,I,χ,?_],eh_,.ref l,ei_,.bool τ,ej_,Str×Addr,ek_,Inv X Z U H2 s2,el_,b9.sub x c h,em_,Hx X scope cl G2.objs.size a7_ s2 H2 fp,en_,∀cl C ae au fp,PG bD_ tg g,eo_,"words",ep_,λ_ _ _ h=>h,eq_,r1.mono s2.g,er_,[bG!,bG!,.fn t.A3],es_,[bG!,.fn t.A8,.fn t.A9],et_,fs ρ,eu_,sub.free hp,ev_,λρ M R=>R τ M,ew_,[nx!],ex_,λd hd=>?_,ey_,SR KF own G0 F0 hb H U ρ,ez_,ds.map ψ++Cc_ (h5! - e_),eA_,(by show A.units+1+Du xs<cLine;omega),eB_,GM gz χ χ ?_,eC_,(t.A0,a,Fh a),eD_,"write",eE_,ψ u!,eF_,MH _ _ _,eG_,Cw N,eH_,.int 0,eI_,Str.ofString " ",eJ_,wl f,eK_,λz=>ξ z.2 a_,eL_,wl fo,eM_,dY O,eN_,os.length,eO_,.lst [],eP_,Gw h1,eQ_,Nv S yy o dn,eR_,ψ x1,eS_,os.map Op.v,eT_,MA X own J_ fs,eU_,.nx ρ',eV_,MI X own tg iter fi,eW_,gs.length,eX_,n<=a0.size,eY_,(show i=j by omega),eZ_,(i:Int)+2,e0_,es.map jR!,e1_,ψ (.int N),e2_,(fd_).zip ds,e3_,tupleKind a2_,e4_,(pU_).map La,e5_,λ_ q=>q,e6_,.frz o u,e7_,H a=υ,e8_,FK ho,e9_,λb o e n G hx=>?_]
def z'f:String:=z [fa!,ψ dK_,fb!,Hy X.prog X.w X.K M0 G0 F0 own f,fc!,.inl hk,fd!,("__classdict__":Str),fe!,l7_=ψ u!,ff!,.BoolOp .And (b::rest) pos,fg!,(Value.ref C::bm),fh!,.BoolOp .Or (a::b::rest) pos,fi!,Lz yy,fj!,X.wish E,fk!,#[ok.mod,ok.kind,ok.glob,ok.blt,fj_,ok.inj,ok.has,ok.cab,ok.hd,ht_,ok.stk,ok.exf,ok.bs,ok.bsz,ok.noex,ok.exfs,ok.funs,ok.frf],fl!,.Expr e pos,fm!,(by simpa using hp),fn!,δ->Heap->ν,fo!,bN r! bR aU_,fp!,PI X tg iter wi,fq!,f2 b G,fr!,tK J.ok,fs!,.BinOp a op b pos,ft!,aT aJ aS aV! aC y!,fu!,aB rY! aF,fv!,i != 0,fw!,(xf==cj_)=θ,fx!,Gu.m bU,fy!,A.under (B9_ "type.__call__" #[.ref C::us,kw]),fz!,I.ok.frames,fA!,#[h',g,d,t,os],fB!,W.keepIn X.K ad!=τ,fC!,.ref B0,fD!,Rg C mh! t1,fE!,ψ hU!,fF!,.Call (DY! h9! "__init__" be) tc_ [] aj,fG!,Ip Q! X.A,fH!,.int v tk,fI!,.ref h_,fJ!,GI G,fK!,Xa x,fL!,Addr->Bool,fM!,notedBy b_ A env λe s'=>R cw! s',fN!,#[t,χ],fO!,NameKind.free,fP!,flt b G,fQ!,.ok .next,fR!,cs.drop start,fS!,I2.pin p hp,fT!,["thing","limit"],fU!,["parts","checks"],fV!,["self",cy_],fW!,[b0!,"other"],fX!,.str i,fY!,By.refl hb,fZ!,[is_,cB!],f0!,Ia own U hb H,f1!,if b∈Ex own U then υ else G' b,f2!,.str "bin",f3!,[bG!,.fn t.A3],f4!,DT X own a ft,f5!,Dq X.K fd ps [],f6!,Af aY! Av,f7!,Cq.laid sub hp,f8!,Af U! Av,f9!,.str "write"]
def z'ff:String:=z [fa_,(by show 1<=1000;decide),fb_,Sq X.prog X.w X.K M0 G0 F0 own fs,fc_,ψ v3,fd_,us.zip us,fe_,PT X a tA,ff_,.BoolOp .And (a::b::rest) pos,fg_,.BoolOp .Or (b::rest) pos,fh_,.UnaryOp .Not a pos,fi_,.bl τ,fj_,ok.above,fk_,PS X st t,fl_,(((bR_).length:δ):Int),fm_,Hm X a ab!,fn_,k9.takeWhile (·!= 0),fo_,I1.hok.fresh p!,fp_,.For tg iter body [] pos,fq_,λp hp=>J.pin p fm!,fr_,Fw X (binaryOp op) r,fs_,Yd r ta tb,ft_,cG T,fu_,bE P_ bU bV! bH n_,fv_,Gl X xf,fw_,(backTo p3 hn_).any q!=θ,fx_,be.atName,fy_,(x::xs),fz_,λb z=>Fv! c_,fA_,He X.prog X.w X.K X.mg X.base CX k f fd ps sp,fB_,envOfC qual scope s.heap.objs.size f cd,fC_,(by simpa using hi),fD_,W.codeIn K ah qual=τ,fE_,bootBuiltins x=ψ aA!,fF_,items.size,fG_,.xd [("line",.int v)],fH_,Sg xs lo hi,fI_,bY (sc:=Ae Jc) χ d!,fJ_,(show(1:Int)>0 by decide),fK_,h'.objs.size,fL_,its.length,fM_,((i+k:δ):Int),fN_,backToKw pos (keywordEach vo env),fO_,Us X scope cl,fP_,δ->Shared->ν,fQ_,(t_,Kv us n),fR_,i - start,fS_,N_<10 ^ 61,fT_,Bc KF H d v,fU_,V.ref a,fV_,["self","other"],fW_,ds.drop n,fX_,upd H p o,fY_,λ_ h=>.inl h,fZ_,i∈own,f0_,∀j∈ix,j∉own,f1_,Cq.refl er.sub,f2_,fb ρ,f3_,ft ρ,f4_,DA X own J_ fs,f5_,λ_=>Be,f6_,En 3,f7_,cutL xs lo hi,f8_,sub.seq q,f9_,t.NoDeed]
def z'g:String:=z [ga!,t.Unlike,gb!,k _ hb H aC_ Bc.bl,gc!,(y::·),gd!,Ay iP_,ge!,fC (.int 5),gf!,Ej ab_,gg!,.int 15,gh!,Am X.K H es ws,gi!,us.toArray,gj!,Cf v' u',gk!,.Name y py,gl!,f2 Ag eB! v_,gm!,s.heap.IsTuple l2 ys,gn!,wl (Au (B4_ Fm aZ!) (f2 Be aZ! aY_)),go!,.ref ag_,gp!,.Tuple lr n1 tp,gq!,KF.In h,gr!,[.int a,.int b,.int c],gs!,n.natAbs,gt!,rawInt L,gu!,ψ (.lst Lx),gv!,#[G b h,x.ge b h],gw!,Str.ofString "root",gx!,[A5! w],gy!,wl fa,gz!,[gy_,υ],gA!,wordsR l,gB!,mk l,gC!,is.map D.int,gD!,World->Heap->ν,gE!,λ_ _ _=>False,gF!,α->D,gG!,execs body env,gH!,fo ρ=ψ O!,gI!,(show u=.none from hx),gJ!,Kf ks k,gK!,.int o.tm,gL!,.inl im!,gM!,[ay_,o.v],gN!,.int yy,gO!,Hh P w KF hb h1 es,gP!,mup M q eO_,gQ!,FL.mp hx,gR!,w2 gm fa fb,gS!,MT X own a ft,gT!,dn.length,gU!,.str _,gV!,h3.typeIs,gW!,Jv y,gX!,fs ρ=ψ ds,gY!,Mh->ν,gZ!,[aG_,ψ ae!],g0!,a0.toList,g1!,x - 1,g2!,.lst bu!,g3!,.str (Nf w),g4!,Kj yy rows [] [] υ υ υ υ υ,g5!,.lst eS_,g6!,[R_,am!,e1_,ψ eO_,lk!,lk!,υ,υ,υ,υ],g7!,(show h.get? a=ψ _ from x),g8!,[104,97,110,100],g9!,∀b u,h.get? b=ψ u->Ab_ b=ψ u]
def z'gg:String:=z [ga_,t.NoTime,gb_,starEach (a::[]) X.env=dZ_::Cm_ starEach,gc_,.str "put",gd_,GD X.K g bnd,ge_,(backTo aj (Cm_ starEach)).any q!=θ,gf_,Pg F0 G1,gg_,Am X.K H ds vs,gh_,f2 Be a9! iE_,gi_,Bc X.K H d' v',gj_,μ dv!,gk_,Ci R! Ai i6_,gl_,s.heap.IsTuple l1 xs,gm_,.ref z,gn_,.ref t.HandsError,go_,Zc s.heap l1 l2,gp_,(.str k::r),gq_,μ Tb,gr_,.str "put",gs_,s.heap.get? e=ψ oe,gt_,noteFrame z! env,gu_,[.tup [eH_,.int (1+m0%5)]],gv_,.type "ValueError",gw_,Str.ofString "bin",gx_,.str oq!,gy_,ψ (.lst a1!),gz_,[gy_,uY_ e],gA_,h Γ p bz hC,gB_,List.length,gC_,(Str->wY_ Value)->Heap->ν,gD_,(h::n::tm::ds),gE_,Rc σ.heap H,gF_,.inr χ,gG_,.int o.h,gH_,(show v=.none from hy),gI_,μ MK,gJ_,(υ,()),gK_,.int yy,gL_,hs S h,gM_,bD (f:=Aa 0) χ,gN_,h1.map q!,gO_,M p=ψ af!,gP_,Qb P w KF own hb H U ρ M,gQ_,f ρ M R,gR_,Ol o,gS_,iE T,gT_,.dct h1 ep,gU_,ψ x.v,gV_,Jf Ku dn,gW_,.nx b2_,gX_,((a2!:δ):Int),gY_,ψ (W J),gZ_,j - i,g0_,if Bi! w then _ else _,g1_,.lst cd!,g2_,.int (i:Int),g3_,rows.map ψ,g4_,L'.length,g5_,ψ g5!,g6_,o.ExactDict,g7_,[119,97,105,116,115],g8_,hd χ a_,g9_,.own x]
def z'h:String:=z [ha!,∀b u,b≠e->h.get? b=ψ u->Ab_ b=ψ u,hb!,xs.map v,hc!,EW x hy,hd!,X.env.frame,he!,(∀x c,ro_ x=ψ c->c≠b),hf!,Hw X.prog X.w H' h',hg!,ψ (Bw (!w,o)),hh!,I.base.keep b o e n G hx,hi!,XR X.prog X.w X.K M0 G0 F0 E,hj!,lE ns x1 yy x3 rows bO! x6 x7 x8 x9 bh c2! aS_ bc fa! hg! kR_ qm!,hk!,Nk X e fb!,hl!,GA (GI hj),hm!,ψ qA!,hn!,TP X Z U Q,ho!,ψ g5!,hp!,Hn (CU! a7_ hi!) X scope cl C a7_ ae au fp,hq!,∀il,HT! il=(do let v <-il;standAt e.pos;holding [v] k5_),hr!,bm.contains bv!=τ,hs!,.int bv,ht!,A.mark dP!,hu!,Jm L r.toNat,hv!,ExcBaseFacts B r9 pz jp,hw!,St->Hp->ν,hx!,X.mg "ValueError"=υ,hy!,#[k8,qe],hz!,(by simp![FY];exact FT _ hp),hA!,It->Hp->ν,hB!,∀h' e tk args,GI! e->E z! {s with heap:=h',toks:=tk},hC!,λb G=>(hf b G).1,hD!,(by simpa using G),hE!,iA T.Q2 T.S2 S_,hF!,T.obj _ _ iz,hG!,2 ^ 64,hH!,en≠xn,hI!,Mj X.K C0,hJ!,decide (i<=j),hK!,fX (n:=9) χ,hL!,Fw X (compareOp ki) r',hM!,.Compare a [op,ki] [b,c] pos,hN!,(by simp![FG];omega),hO!,if i<0 then -i else i,hP!,InstAt h x ox C od,hQ!,#[.int _,H,aJ_,P!,q],hR!,.ref t,hS!,ψ dx,hT!,W.emptyDict,hU!,.int k,hV!,.Name "ValueError" q3,hW!,(show False from r),hX!,λj hj=>(CH! hj),hY!,backToKw pos sB_,hZ!,aR bi_ bV,h0!,bO (dR (aL gA)),h1!,rest.toArray,h2!,I.hok.fresh p!,h3!,Str->wY_ NameKind,h4!,((p,w)::P.zip vs),h5!,N.length,h6!,W.fnOf name qual params body scope dV kV bn pm an ah ct,h7!,Px X.env.scope xl,h8!,(xl==fd!)=θ,h9!,.Name xC np]
def z'hh:String:=z [ha_,∃u,Ab_ e=ψ u,hb_,.ListComp c7 ul! scope aj,hc_,Rc h H,hd_,I.ok.bs b o e,he_,b∈X.ex\/c1_<=b,hf_,L1.at ?_,hg_,oj b o e hx,hh_,EK->WS,hi_,frs X.stack,hj_,#[hb,ρ,M,_,sr.st,e',pu_],hk_,lE ns x1 yy x3 rows x5 x6 x7 x8 x9 bh cx c9 bc cm cg cb b8,hl_,[R_,g5_,eZ!,υ,υ,υ,υ,υ,υ,υ,υ,υ,υ,υ,υ,υ,υ,υ],hm_,.ListComp c7 (ug!::rest) scope pos,hn_,starEach es X.env,ho_,ψ qA!,hp_,PE X e t,hq_,[ψ dK_],hr_,its.toList,hs_,.inl h,ht_,ok.frames,hu_,(by kernel_rfl),hv_,swapsWith e υ pos.line X.env=pure θ,hw_,Gl X "ValueError",hx_,(.ref C,υ,.ref a),hy_,.lst (W fi!::Ls.map W),hz_,pyNext by_,hA_,.type "int",hB_,#[o,e,λv z=>by rw[d]at z;cases z],hC_,aB az_ aF,hD_,[V.str x],hE_,#[χ,χ,χ,χ],hF_,I7.unpinned,hG_,X.N[ix]?=ψ xn,hH_,X.mg xC=ψ a3_,hI_,swapsWith he (Di_ xn xp) ap.line X.env=pure θ,hJ_,.bl (!(Builtin.Str.occurrences j i 0 j.length 1).isEmpty),hK_,Hm X a lK_,hL_,lastMarks [op,ki] [b,c]=θ,hM_,aA 10,hN_,.Call (.Name xf p2) J_ [] p3,hO_,Fin->Shared->ν,hP_,Ft X aA! r,hQ_,aT aJ aS N! aC y!,hR_,.Name xC p3,hS_,(by rw[FN];omega),hT_,W.instObj C h_,hU_,Iu f v fs,hV_,"_law_op",hW_,H a=ψ d5!,hX_,eval e env,hY_,A.deeper env,hZ_,iA T.Q2 T.S3 S_,h0_,aL aV_,h1_,.Call (DY! o m be) J_ [] pos,h2_,X.mg x=ψ m_,h3_,eA N!,h4_,GZ.mp nd,h5_,Aq N ps scope,h6_,∀vs H Q E,Bk_ H->at!=K!,h7_,(xl==cj_)=θ,h8_,s1++qZ! l3_++s2,h9_,(by simpa using hv)]
def z'i:String:=z [ia!,λ_ _ _ _ _=>b0g,ib!,.ref sl,ic!,EV (Hp_ h),id!,#[B5,B6,B7,B8,B9,C3,C4,C5,C6,C7,RM,RN,RO,RP,RQ],ie!,H_<=sizeLine,if!,if b then 1 else 0,ig!,bN aN! bR (bP ef_),ih!,.tup ys,ii!,Ky X ab! (xT X Z D tL_),ij!,(by show 3<=1000;decide),ik!,l.most=ψ n,il!,ForInStep.yield r,im!,.inr z,in!,iw lm,io!,dw _ I2.lt,ip!,mk bm!,iq!,"number",ir!,λb u e=>?_,is!,"_law_most",it!,"_law_base",iu!,Vo nl ix ρ,iv!,.int 2,iw!,fC nm!,ix!,f2 g fa fb,iy!,fC iy_,iz!,f1 Bi cF!,iA!,Mq (Ix t) 0 cF!,iB!,.str "cut",iC!,DA X own es fs,iD!,f1 g fs,iE!,f2 Ao w_ v_,iF!,wl y_,iG!,.lst dL_,iH!,k _ hb H aC_ Bc.str,iI!,.Subscript a mz! pos,iJ!,.type "NoneType",iK!,.int 6,iL!,μ Bool,iM!,fT ar_,iN!,Cq.refl s2,iO!,e_<=big,iP!,Ej g!,iQ!,.int 9,iR!,er.grow x,iS!,ψ fU_,iT!,Aa 10,iU!,cD p!,iV!,Ab y_ (Bh_ y_ y_),iW!,Fe X.K H a vs,iX!,f2 Be bp! b4_,iY!,∀(us bi:k_),Bp vs us->Bp ws bi->∀(j:δ) u u',us[j]?=ψ u->bi[j]?=ψ u'->SeqAt.EqAt A.in1 s u u' iX_,iZ!,oO rd re rv bf (h us bi rv bf),i0!,kR ds es hl,i1!,f2 As (Gn! 61) al_,i2!,.ref ad,i3!,f2 Ao (Aa 14) v_,i4!,DE X own o fo,i5!,[a].length+(di!).length+eh!<30,i6!,#[χ,G1,ρ,_,cD_,e2,wT_],i7!,(by size_fits),i8!,f2 Ag a9! nV_,i9!,IsZip s.heap z TI TO .none]
def z'ii:String:=z [ia_,((sIx n 0 lo:δ):Int),ib_,Builtin.Tuple.tupleExact _,ic_,Xg X.prog X.w X.K X.mg X.base k x C B0 n1 n2,id_,(h!:Int),ie_,ψ (.Name xD cp),if_,(show θ=τ from fx),ig_,[.ref p],ih_,.dT h1,ii_,aL aW!,ij_,ES ak,ik_,Eh st,il_,names.map λ(n,k)=>if mU! then(n,NameKind.cell)else(n,k),im_,.ref D,in_,joinL c ws,io_,.inr (GB I2.sz hC),ip_,∀a vs,Cs! Fe->Fm_ a vs,iq_,upd H p dn_,ir_,Cq hb H G' H',is_,"_law_rows",it_,"_law_gone",iu_,Bo uY!,iv_,.str "root",iw_,(∀v G' H',Bm! hb H->Bl! KF->Q v H'),ix_,f1 Gd aq_,iy_,.int 4,iz_,Pi 0 1,iA_,#[G1,ρ,d,cD_,e,vb!],iB_,f2 Ao g! a9_,iC_,yO h.ok,iD_,Hj t.B2 "taken" U!,iE_,f2 Ao w_ y_,iF_,Hj t.B2 "waiting" U!,iG_,wl ar_,iH_,fC (.str "."),iI_,.lst [f9!],iJ_,.type "list",iK_,fC iK!,iL_,bs.map Value.bool,iM_,λx jz hy=>?_,iN_,bnd d ρ,iO_,λv H2 hy=>?_,iP_,Ab a9! nk!,iQ_,[.non,.non],iR_,.If c b1 b2 pos,iS_,FO.mp O,iT_,V.ref p,iU_,[.Subscript dt! ix p2],iV_,λvs H Q E h=>h.1,iW_,f2 Ao w_ R!,iX_,Dl wp! wo!,iY_,bf.length,iZ_,kY ds es hl,i0_,f2 Be a9! (fC gg!),i1_,bJ sub q,i2_,I1.tok _,i3_,fo ρ,i4_,backTo aj wS_,i5_,Ci R! (Ah gl!) Ai,i6_,Ah eB!,i7_,OY ?_,i8_,ZipApart z TI TO i1 i2 l1 l2,i9_,IsPair s.heap TI (.ref i1) (.ref i2)]
def z'j:String:=z [ja!,s.heap.IsTupleIter i1 l1 k1,jb!,IsPair s.heap TO p q,jc!,Af (wl aE!) Av,jd!,IU ?_,je!,t.NoSave,jf!,Oa 1 9 8 (Wb je!) (Gb t) jc!,jg!,#[_,χ,h],jh!,(E!:Int),ji!,Ir n4_ n5!,jj!,λc hc=>?_,jk!,Ir xs ys,jl!,xs.map D.str,jm!,.str k,jn!,W.mg_of X hb a,jo!,[.int a,.int b],jp!,.str "drop",jq!,∀o∈ops,Um o,jr!,#[.ref _,_,I.lnew (t':=s.toks) (ys:=[V.str z]) (its:=[.str z t]) (Cs_ fN!) (DY_ 1),χ,q'],js!,limitOf z k,jt!,cs.map λc=>bY_,ju!,oe.data=Bw_ vs,jv!,λz=>G (BE! z),jw!,.inr a0,jx!,bd b o e hx,jy!,#[χ,χ,_,χ,χ],jz!,starEach [ex] X.env=yh_,jA!,.Name x np,jB!,Str.ofString "write",jC!,cutL ws υ X_,jD!,{s' with heap:=O},jE!,ψ (W l),jF!,is.length,jG!,[AW! oB_],jH!,(by delta Bk;omega),jI!,#[[u],[]],jJ!,.bool τ,jK!,FT _ hx,jL!,.int h,jM!,.int o.tm,jN!,Fq X.prog X.w X.K X.mg X.base CX k f fd ps sp,jO!,Ms P w h es ks,jP!,EV (EV h),jQ!,[eO!,y3!,(Str.ofString "waiting",.fn wa)],jR!,(·.key),jS!,((bs!).length:δ),jT!,Qc s.heap a es ep,jU!,GI vy,jV!,λz=>?_,jW!,ca o.h,jX!,XM M hb H M' G' H',jY!,μ D->Mh->ν,jZ!,MA X own es fs,j0!,dn++[o],j1!,Fs S dn,j2!,sX I sub r hk,j3!,(bs!).map Op.v,j4!,upd H a (dE a de (Tv h1 d ep)),j5!,dictGet a u>>=_,j6!,Wt++ms,j7!,!Dl d d',j8!,(show its.toArray.any eT!=its.any eT! by simp),j9!,Er.of O]
def z'jj:String:=z [ja_,s.heap.IsTupleIter i2 l2 k2,jb_,(∀c ob,c≠z->c≠TO->c≠i1->c≠i2->qY_ c=ψ ob->Ab_ c=ψ ob),jc_,.ret v,jd_,ES (OX ?_),je_,FP _ χ,jf_,.ref f9_,jg_,α->ν,jh_,μ (Addr×D×Bool),ji_,eC!+1,jj_,.str "cut",jk_,.int a,jl_,W.keepIn KF ad!=τ,jm_,iZ l c k,jn_,.int m,jo_,.str "move",jp_,.str "write",jq_,od!<=100,jr_,[.str "bin",.tup [.int 9,.int 9]],js_,Str.ofString "",jt_,n.get? e=υ,ju_,(oj!).update e ok!,jv_,s.heap.update T x3_,jw_,Nw X Z n,jx_,Fd eI! P w K mg base N qual scope f cd A outer s H E,jy_,PE X ex te,jz_,μ δ->ι D,jA_,vs[2]?=ψ .none,jB_,iw oo,jC_,I.hok.fresh z,jD_,wpR M A t Q E s,jE_,c.natAbs,jF_,joinL 46 dA_,jG_,N_<=Bk,jH_,λz=>n1 z.1,jI_,λv _=>v=.bl τ,jJ_,VO h n tm k r,jK_,(oM_::rest),jL_,backTo pos (starEach (e::rest) env),jM_,[gG_,.int o.n,jM!,o.d],jN_,Pu f ρ M d,jO_,plc es cQ!,jP_,[eO!,y3!],jQ_,kl.map λh=>(D.int h,D.fn (ca h)),jR_,gZ aQ_ hA.ob hF2,jS_,o.n<=jS!,jT_,λ_=>a,jU_,By hb G',jV_,ψ (.inl (.inl o.h)),jW_,dE a es ep,jX_,Iq KF hb fs vs,jY_,.refl st.or.sub,jZ_,Mh->D->D->ι D,j0_,dn.map Op.nm,j1_,ψ o.nm,j2_,(by rw[EX];omega),j3_,Dz X.K hb x v,j4_,cD h5,j5_,a0t hu I m sub e r hk λo s' I' ho=>?_,j6_,bD (d:=bL_) χ,j7_,λw hw=>nP I r1 rx n1 r2 r n2 (by let:=lL X.A;omega) w mt_,j8_,pB I r2 r n2,j9_,Af (wl f1) (HU_ f2)]
def z'k:String:=z [ka!,st.grow x1 m1,kb!,Wa X.prog X.w X.K M0 G0 F0 own bx f,kc!,At q1 q2,kd!,h2.ok M0 G0 F0,ke!,sr.grow x m,kf!,∀x∈Wt,Es x,kg!,e_ - u_,kh!,bW vR! q,ki!,Fz N ps.length q,kj!,(i:Int)+1,kk!,Ls.map W,kl!,Ls.length,km!,ψ k,kn!,aP χ χ (jP o),ko!,setPending af ((Au!).push kn_),kp!,ψ g3!,kq!,EW _ hz,kr!,(rows.drop i).map ψ,ks!,λz hz=>?_,kt!,Int×Int,ku!,Dz X.K hb,kv!,ds.all λd=>(Ra d).isSome,kw!,(Sum.inl a:Key),kx!,ds.map La,ky!,(nomatch e),kz!,#[_,χ,r],kA!,(GE! a).push (seqObj "tuple" us.toArray 0),kB!,μ Key×V,kC!,μ Key×Addr×Value,kD!,W.instObj C dx,kE!,Dv P w H h a o,kF!,q.2.1.map q!,kG!,e=x\/H e=ψ g9_,kH!,mg x=ψ m_,kI!,a.free c ob q n hx,kJ!,[a,b,c,d,e],kK!,upd H x o,kL!,f2 Ao f y_,kM!,X.env.scope.kind,kN!,hs.2 b (ne b o e),kO!,FM bv_ I.ok.above,kP!,I.freeC x c e,kQ!,L3.at ?_,kR!,I.base.free b o e n hx,kS!,#[hb,_,M,_,#[#[er,m,c2_],.refl sub,c2_],e.2,z9!,z9_],kT!,Hy X.prog X.w X.K M0 G0 F0 own (Cz ps.length g E fs),kW!,λ_ _ e=>e,kX!,hs.2 b (FW kO!),kY!,ys.map Op.v,kZ!,Inv X Z U H' s',k0!,lE ns ho! yy ho_ rows υ υ υ υ υ bh υ υ υ υ υ υ υ,k1!,Hn XE X scope cl C a7_ ae au fp,k2!,.int nm,k3!,Hn (CU! a7_ R) X scope cl C a7_ ae au fp,k4!,(τ,#[nm,(i:Int)+2,(i:Int)+5,.tup [jp!,.str "bin"]]),k5!,h Z s U H _ I hw,k6!,.BoolOp .And [a] pos,k7!,s.heap.get? e=ψ {cls:=.ref C,dict:=gc,data:=Bw_ vs},k8!,.bl θ,kU!,Str.ofString ζ==Str.ofString η,kV!,ζ P w K mg base,k9!,.fields [.ref ζ,.none,.none,.none,.bool θ,.none].toArray]
def z'kk:String:=z [ka_,b0y hS ho a!,kb_,MS X own ay st q1,kc_,O.ok M0 G0 F0,kd_,ρ.length,ke_,[.Subscript o i p2],kf_,ψ x,kg_,m.ext nE_,kh_,(by rw[<-aE q1];exact r1.1),ki_,EV (DJ! ON),kj_,Array Keyed,kk_,m - 1,kl_,(by delta Bk;omega),km_,mirror_perm _ _ _ _,kn_,(0,a0.size,0),ko_,.int (nh S o.h),kp_,Kj yy rows S Wt aS_ kp! pH_ (ψ ko_) y8,kq_,Value.int a t,kr_,((j:δ):Int),ks_,((bN!:δ):Int),kt_,l.map f,ku_,av.toList,kv_,aP χ χ χ,kw_,(Sum.inr a:Key),kx_,Jf La ds,ky_,.done (.ret .none),kz_,(by simpa using O),kA_,seqObj "list" #[] 0,kB_,b5m em ed nd z χ χ χ χ χ χ χ G,kC_,(by rw[GO];rfl),kD_,fs.map q!,kE_,[104,97,110,100,32,49,54],kF_,seqObj "list" (e0_).toArray 0,kG_,a0p F S λah A outer s H E hr=>G hr S.nd,kH_,Un fs ex H H1 h O,kI_,[a,b,c,d],kJ_,[.lst mN_],kK_,aH (hm b _ q λz=>z),kL_,Ab (HE! kL!) Ad,kM_,X.A.handled,kN_,!(bu!).isEmpty&&decide (r>0),kO_,AllBare g',kP_,λb o e hx=>?_,kQ_,λx c e=>?_,kR_,ψ (Bw (w,o2)),kS_,kW χ χ χ,kT_,λz=>hc (BE! z),kU_,sr.x.trans x1 sr.st.mr,kV_,#[#[],by rw[e];simp],kW_,I.hok b u e,kX_,#[u',r',?_],kY_,hs.2 b (Ge_ bv_ (I.ok.cab x c yd hc)),kZ_,backTo pos hn_,k0_,eval a X.env,k1_,#[v,H,I,r,h],k2_,lE ns ho! yy ho_ su υ υ υ υ υ (ψ k2!) υ υ υ υ υ υ υ,k3_,.bool b,k4_,(zs.map λi:Nat=>(k4!:Bool×Op)),k5_,truthy v,k6_,.BoolOp .Or [a] pos,k7_,s.heap.get? C=ψ cl_,k8_,GK h yR! λ_ _ x=>x,k9_,lE ns x1 yy x3 rows x5 x6 c6! c6! x9 bh cx c9 bc cm cg cb b8]
def z'l:String:=z [la!,hc Z s U H _ I h,lb!,lE ns x1 yy x3 rows x5 cm! c6! (ψ a8_) x9 bh cx c9 bc cm cg cb b8,lc!,#[ac,H',I.unwish,q],ld!,jp.contains (.type Bn)=τ,le!,λv bp gb=>ES (HX (EV gb)),lf!,Hp->ν,lg!,X.mg xC=ψ m_,lh!,lE ns x1 yy x3 rows x5 cm! c6! x8 x9 bh cx aS_ (ψ lb_) cm cg cb b8,li!,((bv==0)||decide (bv>(i:Int)+1)),lj!,X.pn++Z++[(a,jq)],lk!,ψ (.lst [eH_,eH_,eH_]),ll!,I.pin p hp,lm!,holding [B9_ "int.__new__"] (call (B9_ "int.__new__") [hA_,x] [])>>=K,ln!,(rm_) v>>=K,lo!,sb.2 b G,lp!,⟨χ,I.turned (t':=s.toks) (λb o G e=>eb b o G e) f0 f1 f3 f4 f5⟩,lq!,(c7_).length<=sizeLine,lr!,fP T.O5 χ,ls!,.builtin id args,lt!,s.heap.push {cls:=.type "range",data:=AP_ t},lu!,X.mg "int"=υ,lv!,.Call (.Name "int" p2) [e] [] p4,lw!,λp hp=>I.pin p fm!,lx!,#[v,bg,H1,back J,r,q],ly!,λ_ _ _ _ _=>bX (i:=0) (show(c9_:μ Str).Nodup by decide+kernel) χ f_,lz!,rI Vx λi j=>.int (i*j),lA!,rI Zb λi j=>.int (i / j),lB!,rI (λ_ j=>0<j) λi j=>.int (i%j),lC!,aB aV_ aF,lD!,rI Za λi j=>.int lC_,lE!,Qw λi j=>.bl lD_,lF!,Qw λi j=>.bl lG!,lG!,decide (j<i),lH!,Qw λi j=>.bl lG_,lI!,∀b∈bad,H' b=υ,lJ!,a3a (tK J2.ok),lK!,{s' with heap:=h2},lL!,c2.1.trans b9,lM!,Hm X a lK_,lN!,ho Z s2 U H2 x y v u _ I2 r1 r2 q2,lO!,h1.isEmpty,lP!,Ky X pn g,lQ!,Ft X dg! r,lR!,.Try [.Expr hN_ p4] [.ExceptHandler rW_ (ψ en) rX! hp] [] [] tp,lS!,.str bV_,lT!,r'.length,lU!,bE P_ bU ft! hQ_ n_,lV!,Td s.heap x dx C mA,lW!,W.plainGet_of hg,lX!,(en==cj_)=θ,lY!,[Fz! p2,hR_],lZ!,ψ (B9_ "object.__setattr__"),l0!,{s with toks:=s.toks+1},l1!,.type "type",l2!,show Iu f v ((k,x)::r)=(if k=f then(k,v)::r else(k,x)::Iu f v r)from χ,l3!,aT aJ aS aW! aC y!,l4!,No X.prog X.w X.K X.mg X.base k xf ps g,l5!,λ_=>υ,l6!,z.cps.toList.drop i,l7!,getMethod ov m pl,l8!,HK.mp O,l9!,.call ad! args]
def z'll:String:=z [la_,lE ns x1 yy x3 rows x5 cm! c6! x8 x9 bh cx c9 bc cm cg cb b8,lb_,.lst [.str "",.str "hand 16",.str "waits",W (32::L),.str "waits waits 1",.str "hand",.str "waits  x"],lc_,ExcBaseFacts Bn newId w6 w9,ld_,λ_ _ q=>q.unwish,le_,(bR_).map W,lf_,assignEach es X.env,lg_,starEach [fs] X.env=ra!,lh_,setItem ov iv v,li_,a∈List.filterMap _ Y!,lj_,ψ (.Name x pos'),lk_,[.Name x pos'],ll_,#[[hA_,x],[]],lm_,#[[hA_,v],[]],ln_,(by simpa using hu),lo_,eO (G0! iH T.O2 fR r!),lp_,dI (jC (fZ (fK lo_) (fD (bE wI wL dX_ aC n_)))) bS_ cB,lq_,λb o G e=>kk b o hD! e,lr_,hl Z s U H _ I h,ls_,hi - lo,lt_,Gl X "int",lu_,starEach [e] X.env=cr_::Cm_ starEach,lv_,Ky X ab! f,lw_,I7.pin (b,o) rI!,lx_,f c0! (.int j u),ly_,JP (KI #[by rw[KU];omega,?_]),lz_,fX (n:=10) χ,lA_,(by rw[HY];omega),lB_,(by rw[HY];omega),lC_,i ^ j.toNat,lD_,decide (i<j),lE_,compareOp .LtE,lF_,Ky X ab! za!,lG_,decide (j<=i),lH_,XS n s'.heap a cls 0 bad,lI_,(by intro q;cases q),lJ_,λp hp=>J2.pin p (FT _ fm!),lK_,X.pn++Z++[bz!],lL_,a3a (tK J3.ok),lM_,KX _ _ lk,lN_,ac.set ie iS!,lO_,#[H,I,q],lP_,swapsWith hN_ υ p4.line X.env=pure θ,lQ_,EC oe cls,lR_,findObj K C od name=ψ (.value v),lS_,subIn K m_ bv!=ψ τ,lT_,.builtin "BaseException.__getattribute__",lU_,ψ od,lV_,W.findIn K m_ name=ψ υ,lW_,.ref C1,lX_,(en==fd!)=θ,lY_,aB aC aF,lZ_,W.findIn K m_ "__setattr__"=ψ lZ!,l0_,typeOf v,l1_,#[_,e1,χ,χ],l2_,aN (aZ (A8_ aN! aC)),l3_,toString k,l4_,.str letters,l5_,((min k n:δ):Int),l6_,(by rw[HV];omega),l7_,A.handled,l8_,aR S_ hZ!,l9_,OwnTail h jp bm]
def z'm:String:=z [ma!,h.get? C=ψ cl_,mb!,aT aJ aS aN! aC y!,mc!,upd qc_ x mb_,md!,call ad! us,me!,Ba Q! X.A,mf!,h.get? x=ψ o,mg!,aL (BK_ aV_ aC),mh!,ψ dx,mi!,K.lookup f=CQ! h6!,mj!,X.N[j]?=ψ xl,mk!,s.heap.NoLimit,ml!,G _ _ _ _ ?_,mm!,#[by simp![HY];omega,?_],mn!,λfl s' hs=>?_,mo!,bE P_ bU r! bH n_,mp!,Xw X.K C B0 fI,mq!,Px X.env.scope xs,mr!,(xs==fd!)=θ,ms!,#[_,ow,χ],mt!,aR S_ bV,mu!,v+(n:Int),mv!,upd mh_ dx dQ_,mw!,(items.toList.drop (Cv! 0 lo)).take tk_,mx!,mG T (k:=0),my!,aR S_ (aR d8_ bV),mz!,.Slice lo hi υ p2,mA!,[ec_,fH!],mB!,HT.sIx xs.length 0 lo,mC!,λb ob q=>EU _ q,mD!,IsTup.new _ _,mE!,V->μ V->Hp->VK->ν,mF!,.str L!,mG!,ψ (.int v),mH!,X.N[ik]?=ψ xk,mI!,(xk==fd!)=θ,mJ!,Ky X ab! tE_,mK!,aM aG aX ef_ aC,mL!,∀a pn,PE cn! rx λ_ H Q=>Q V_ H,mM!,ks.map kV,mN!,pre_splitW lj,mO!,#[[.type "enumerate",eh_],ei!],mP!,W.fnOf x qual ik_ aA_ ak_ .none kV bn pm an ah ct,mQ!,backTo pos t3_,mR!,#[o,e],mS!,λm hm=>hm,mT!,λ_ _ _ q=>q,mU!,k==fO!&&env.scope.kind==.function&&env.kindOf n==ψ .cell,mV!,Mg NL.length ix U,mW!,letOwnedTupleGo gu it v,mX!,λn s hI=>?_,mY!,λr σ h₁=>?_,mZ!,#[χ,gb],m0!,Array δ,m1!,uo_/\DZ! s=τ,m3!,us++[yv],m4!,loop _ χ,m5!,gr p hp hf,m6!,#[Ge_ G hC,Ge_ G hD],m7!,GI (io!).1,m8!,GB I2.sz hD,m9!,show intC m9_=Iv m from iI m,m2!,Inv X Z U ζ]
def z'mm:String:=z [ma_,rest.length<=sizeLine,mb_,.ins C dx [],mc_,h.push {cls:=.type "tuple",data:=.seq h1!},md_,X.mg x=ψ ad!,me_,h.get? C=ψ (excClassObj nm q C N bs sV! τ sn sub ab col dd k0 k1 k2 k3 k5 newId),mf_,o.cls=.ref C,mg_,λ_=>hr.hd,mh_,upd H e s6_,mi_,#[len,λA outer s H args us vs Q E hr e0 G r gi=>?_],mj_,scope.names.lookup y.1=ψ .cell/\((s1!).lookup y.1).isSome=τ,mk_,.inr #[q,NP _ _ _ (.inl q)],ml_,W.codeRec_of KX bj,mm_,ht [] s1 bC! H _ I hq,mn_,#[v,H',J.os,J.bare,J.base,J.hok,rv,q],mo_,bootBuiltins x=ψ dg!,mp_,iV I hg hm hv ?_ hn al,mq_,(xs==cj_)=θ,mr_,#[_,ho,χ],ms_,Hi.toM uT,mt_,(by simpa using hw),mu_,mS (aU q hH),mv_,(i:Int)+(m:Int)*1,mw_,AV P w K mg base N qual scope f ah A outer s H E,mx_,XS.Ba.h i_,my_,ι Expr,mz_,s3.heap.objs.size,mA_,(by with_unfolding_all rfl),mB_,HT.sIx xs.length xs.length hi - Df_ HT.sIx 0 lo,mC_,upd H1 dx fG_,mD_,λz=>?_,mE_,.Subscript a b pos,mF_,z.cps.toList.length,mG_,Px X.env.scope xk,mH_,(xk==cj_)=θ,mI_,starEach [.Name xk kp] X.env=[(θ,eval (.Name xk kp) X.env)],mJ_,sliceBounds lo hi υ n,mK_,bN aN! (bP mK!) bR,mL_,be.endLine==aj.line,mM_,Fd eI! P w K mg base N qual scope fa cd A outer s H E,mN_,ns.map .int,mO_,μ WData,mP_,Option.none,mQ_,#[o.slots,e],mR_,aH (ne b _ e),mS_,aH (AM! hc),mT_,EW _ hp,mU_,Ac->ν,mV_,pyNext it,mW_,assign gu env v,mX_,g9 n s hI,mY_,λ_ mw t9=>?_,mZ_,([]:μ Value),m0_,([]:μ sF!),m1_,ab!++[fQ_],m2_,I8.pin (b,o) rI!,m3_,ws.map mk,m4_,Ux NL.length ix wi g tt te,m5_,EW _ hv,m6_,λb o G e=>(fk.2 b G).trans e,m7_,λx c h=>(uH_).1,m8_,λx c h=>(uH_).2,m9_,Int.ofNat m]
def z'n:String:=z [na!,L2.Key×V,nb!,[b0!,"fresh"],nc!,[b0!,cA!,"k"],nd!,"_law_letters",ne!,[bn_,it!,ep!,is!],nf!,λi d q _=>?_,ng!,[nf_,do_],nh!,[ng_,is_],ni!,"_law_row",nj!,hw U hb H Q ρ d er e k,nk!,Ab (Er! g!) Ad,nl!,f2 Ao g! al_,nm!,.str " ",nn!,#[hb,ρ,x,er,e1,λG1 H1 s1=>?_],no!,#[hb,ρ,.bl x,er,jA e1,va!],np!,bJ sub qa,nq!,wl (BO! ar_),nr!,f1 Jb aq_,ns!,f2 Ag (Ci g! Ai ds!) iB_,nt!,PO X hi (Cm! Wl oh),nu!,tE rr l h,nv!,#[o,O,h2],nw!,X.mg "isinstance"=υ,nx!,.Name x p2,ny!,Ei (wl (fC aK!)),nz!,Am KF G1 ds vs,nA!,Af U! (Af eu! Av),nB!,ds.drop i,nC!,#[go,iO_],nD!,(vL_).mono x3.g,nE!,f2 Ao ab_ v_,nF!,Ab ar_ Ad,nG!,f2 Ag v_ (f2 As g! w_),nH!,Ab (qX! vK_) Ad,nI!,ρ.set i nc_,nJ!,Am KF hb ds vs,nK!,.str "drop",nL!,Ab aE! Ad,nM!,Om 3 Ad,nN!,Fd Mt P w KF mg base N qual ak_ ag ah A outer s H E,nO!,fT (f2 Ea ab_ w_),nP!,Ar (f2 Ag R! al_),nQ!,bi.toArray.size,nR!,#[.bl _,H,I,χ,q],nS!,d9.lookup y,nT!,x.cps.size,nU!,ys.map (·.length),nV!,.str "hand ",nW!,Ce 6 (Ro (wl (Bl w0!)) (wl (AT_ (Ej R!) i8!))),nX!,Ce 7 (wl (f1 Jn (Bh_ ab_ R!))),nY!,Ce 12 w3_,nZ!,Pl (wl aE!) (wl eB!) (wl (f2 Ao (Aa 13) (HL! 53 (A4! 7)))),n0!,Ce 8 iF!,n1!,N_<=Bk,n2!,EU _ je_,n3!,λc o e=>?_,n4!,[υ,υ],n5!,cs.map (·.2.1),n6!,aH (ne c _ e),n7!,#[_,_,χ,χ,gb!],n8!,Sx n es,n9!,.bl c0_]
def z'nn:String:=z [na_,GI (io!).2,nb_,V.ref p,nc_,ψ bm_,nd_,[cB!,is!],ne_,[bn_,it!,"_law_many"],nf_,"_law_known",ng_,"_law_ours",nh_,"_law_name",ni_,["self",cA!],nj_,Ia own U hb H,nk_,Ci g! Ai dp_,nl_,f2 An g! cD!,nm_,k G' H' s',nn_,fT fa ρ,no_,(by rw[FG,FG];omega),np_,Gn t.Unlike E (Pn (gN 4 g0)),nq_,Af U! f6!,nr_,ι Int,ns_,PO X lo (Cm! Wl ol),nt_,λ_=>Mm,nu_,Cz 1 (Fi t) E f8!,nv_,Gl X "isinstance",nw_,bootBuiltins "isinstance"=ψ ew!,nx_,w1 Jz (Af iF_ Av),ny_,f2 Ao w_ al_,nz_,Ah (B4_ Bi ex!),nA_,Ce 1 (Cz 1 (Ez t) E f8!),nB_,#[cD (by rw[<-aE bf];omega),?_],nC_,f2 Be (BO! iB_) (fC gc_),nD_,λJ G1 H1 x1 d6=>?_,nE_,Cq.laid x.sub hp,nF_,.str "",nG_,O.ok G0 F0,nH_,swapsWith e (ψ ds_) pos.line X.env=pure θ,nI_,.str "move",nJ_,.str "set",nK_,fC (.int 12),nL_,Dd ds.length j,nM_,A.deeper (Bl_ qual ak_ ag ah),nN_,fT (f2 Be vQ! iE_),nO_,Ze KF ps.length g,nP_,us.toArray.size,nQ_,Er X.K H a vs,nR_,ad==sysModules,nS_,f2 Be (HL! 51 iK_) y_,nT_,fC (.lst [vF!,nF_]),nU_,cE ha.ok eB hs,nV_,f1 Do nk!,nW_,#[_,c8!,χ],nX_,Iz (fT w2!),nY_,Ce 13 xa_,nZ_,Ce 7 (wl (Dt xd! gl! aY_)),n0_,BJ s.heap l1 l2,n1_,.type "zip",n2_,λc hc=>?_,n3_,(λv y=>by cases y),n4_,cs.map λc=>.fn c.1,n5_,cs.map λc=>.bl c.2.2,n6_,aH (ne d _ q),n7_,Gs KF mg x st ps,n8_,(iZ l c k).binds b,n9_,Rr rows]
def z'o:String:=z [oa!,To rows,ob!,.str "undo",oc!,[cJ_,a4_,eF!,d],od!,ops.length,oe!,λy=>Hg y,of!,PJ _ _ _,og!,cf.length,oh!,cs.map Oz,oi!,λ_=>ψ τ,oj!,O.push ob,ok!,Obj.mapFields oj_,ol!,XF n s.heap e T cls fl,om!,.int (base+1),on!,{s with heap:=O},oo!,#[o,ho],op!,.type "Exception",oq!,Str.ofString ".",or!,[114,111,111,116],os!,Un.kept m.keeps,ot!,.Raise (ψ yi!) υ pos,ou!,(by rw[gM];delta big;omega),ov!,aH (aU this hH),ow!,Lo.of λb o y=>un.there b o y c_,ox!,((Γ.code,p)::Γ.below),oy!,A.under c,oz!,.ok jc_,oA!,(dA_).map gB_,oB!,xs.map wordC,oC!,Ky X ab! _,oD!,.lst ((EL_ gD_).map W),oE!,r.toRowW.claim,oF!,#[dl_,dl_,G_,G_,λj x e=>?_,bj_],oG!,.call dB_ oF_,oH!,λz=>ξ z.1 n1,oI!,λ_=>#[i,e,hi],oJ!,d.params.defaults=[],oK!,execs j7 env,oL!,(by simp[Ct,a.2];decide+kernel),oM!,μ (Bool×Sem Value),oN!,(θ,Cz! e),oO!,Iw P w s.heap x u,oP!,q2 ρ M R,oQ!,((i:δ):Int),oR!,FO.mp e1,oS!,Int->Addr,oT!,(by rw[ht];simp),oU!,(by rw[Dv_ hh];simp),oV!,.int oU_,oW!,bD (d:=cJ_) χ,oX!,Ms P w s.heap es.toArray ks,oY!,In n s'.heap,oZ!,λh hh=>(CH! hh),o0!,fa ρ=ψ y,o1!,λh hh=>?_,o2!,eH G hq,o3!,h2.mono e,o4!,(by rw[e];simp),o5!,FL.mp hh,o6!,D->Mh->ν,o7!,hw U hb H Q ρ M R st e k,o8!,λ_=>g,o9!,st.grow x1 m1]
def z'oo:String:=z [oa_,.str "set",ob_,.str "redo",oc_,Builtin.Str.occurrences x y 0 x.length bo,od_,.lst its,oe_,(if od!<=big then Option.map D.lst (GZ! X! ops)else υ)=_,of_,ψ (.lst cf),og_,letters.length,oh_,#[cs.toArray],oi_,[ur,.ref L,.none,rawInt L,.none]++(if pl.isEmpty then List.replicate 6 bu_ else pl),oj_,(·.setIfInBounds 1 (Value.ref dy_)),ok_,GR _ _ fJ!,ol_,FE (show(Value.ref T != Value.none)=τ by simp),om_,ψ (Oy db),on_,XS n h e cls L bad,oo_,Kp bad (Dl_ frA) s.heap h',op_,.type "BaseException",oq_,.type "object",or_,[98,105,110],os_,(.ref C,υ,.none),ot_,Lo.of λb o y=>#[o,m.keeps b o y],ou_,(match f ρ with|some d=>_|none=>False),ov_,λc z=>?_,ow_,λ_ _=>False,ox_,ns++[d],oy_,M.den c,oz_,Addr->ν,oA_,(i::j::r).map intC,oB_,[h,n,tm,.tup ds],oC_,W (Tu gD_),oD_,tm.natAbs,oE_,Ba k callerA,oF_,#[[H!],[]],oG_,λr s'=>r=.ok oH_/\Fa! OldK σ.heap/\s'.os=σ.os/\Es_ s'.gens,oH_,.ret ei_,oI_,a0f a_ i j r,oJ_,List.Pairwise.nil,oK_,[Eu,dD!,dD_,s.cps.toList],oL_,Nk X e te,oM_,(θ,x),oN_,Uu X J_ t,oO_,Pk ft ρ M τ,oP_,ks.length,oQ_,hs os h,oR_,IY ho hd (ES (b9g hu q2 hk (DJ! IY))),oS_,(by rw[hA.ob];simp),oT_,(by rw[hA.wt];simp),oU_,((gL_).length:δ),oV_,.fn (ca h),oW_,ψ (.inl hs_),oX_,bD (d:=eH_) χ,oY_,cH (f:=fC .non) (d:=.non) χ,oZ_,f ρ=ψ v,o0_,#[hl,?_],o1_,Fu h1 d x,o2_,hH.trans O,o3_,(by rw[hM];simp),o4_,if h=o.h then q else ca h,o5_,FR.mp y,o6_,.inr em!,o7_,st.mr.ext x,o8_,Pj S yy os,o9_,(o.nm,o.v)]
def z'p:String:=z [pa!,Dg t M0 yy a ta wa Wt bd S kl ca,pb!,[Y_,eR_,aG_,az!,j1_,y5],pc!,#[o,h],pd!,ms.map Op.v,pe!,dn.map Ku,pf!,Mh->μ D->ι D,pg!,List.cons.inj z,ph!,ho.run I st e λd M1 v G1 H1 u s1 r1 x1 m1 q1 I1 rx=>?_,pi!,nh S o.h<o.n,pj!,#[χ,z],pk!,sr.x.trans x sr.st.mr,pl!,#[hb,ρ,M,_,sr.st,e,λb M' G' H' r x m=>?_],pm!,mup M p (.dct (Fu h1 y v) (Tv h1 y ep)),pn!,#[c1,z],po!,bD (d:=k8!) χ,pp!,BG X.K own g bnd,pq!,#[e_,GT _,χ,G1,ρ,M1,jo.base,r1],pr!,jo.unbase dz,ps!,Ho NL.length ix fi bnd ft fe,pt!,.ext nE_,pu!,#[χ,h],pv!,ft ρ=ψ τ,pw!,if J.take 6=Dk then J.drop 6 else J,px!,.bl (decide pw_),py!,Str.ofString "hand ",pz!,(∀i,0<=i->i<16->l0≠Lz i),pA!,#[a,b],pB!,ι pA_,pC!,Bool->Shared->ν,pD!,∀k af,DJ_ af->1<=k->k<=n->Up r w! k->Q km! af,pE!,aP χ χ (fV x),pF!,[gU_,az!],pG!,be! / 2,pH!,Kj yy rows S Wt aS_ y5 y6 y7 y8,pI!,o.n==nh S o.h+1,pJ!,Kj yy rows S Wt y4 y5 y6 y7 y8,pK!,(pJ_).map kf,pL!,ρ[i]?=ψ nc_,pM!,ItemsOf pz_ av aE_,pN!,II (by rw[IE,hi.1];omega),pO!,λq e=>Dz KF hb q.1 e.key,pP!,mixKind prog w,pQ!,(λb G=>by rw[FR.mp G];exact nu),pR!,λv d=>Hf h3 v (La d).1 (La d).2,pS!,L'.map (·.1.2),pT!,seqEpoch_at rq χ ?_,pU!,(∀f,Kz (BB! f) (mA f)),pV!,[119,97,105,116,115,32,119,97,105,116,115,32,49],pW!,∀b xs,H b=ψ aI!->H' b=ψ aI!,pX!,W.methodObj ad! (.ref y),pY!,∀{ag:Addr} {ah:Value} {A:Around} {outer:C_} {s:Shared} {H:Hp} {E:XK},Ba k nM_->N.Nodup->Ej! Uc nN!,pZ!,cutL rows lo hi,p0!,W.fnOf "__init__" qual ik_ aA_ ak_ .none kV bn pm an ah ct,p1!,.tbl (ps++qm),p2!,#[m1++m2,by rw[e2,Array.append_assoc]],p3!,λe=>e▸EY,p4!,.Assign ew_ hb_ pos,p5!,List.range C!,p6!,Ab (f2 Ag (F7_ dN_) g) Ad,p7!,(I'.tok _).tok _,p8!,λz=>AN_ z,p9!,Array GenState]
def z'pp:String:=z [pa_,.dct cV! ep,pb_,[Y_,eR_,aG_,az!,j1_,gU_],pc_,ψ (.inr [.inl o.h,.inl o.n]),pd_,compareOp .NotIn,pe_,f1 ρ=ψ b,pf_,(p,h1,ep),pg_,Gr M1 d,ph_,#[t1,t2,?_],pi_,(∀x∈S++Wt,Nm x o),pj_,#[hb,ρ,M,_,sr,e,λρ' M' G' ac H' r dz=>#[G',ρ',M',R,dz,r,k1,k2],λd M' v G' H' r x m q=>D6! k2 r x m q],pk_,MT X own c ft,pl_,Pk f ρ M x,pm_,Qf S Wt o,pn_,((Wt.length:δ):Int),po_,Ih P w KF own M0 G0 F0 M1 G1 H1 U ρ,pp_,#[hb,ρ,M,_,sr.st,e,λds ck M1 J G1 H1 r1 x1 m1 d6=>?_],pq_,dz.st.mr.ext x2,pr_,Vz X.prog X.w X.K [] ft,ps_,[x0,gY_,x2,ψ ae_,x4],pt_,Xp P w KF ps.length g,pu_,λds M1 vs G1 H1 r1 x1 m1 q1=>?_,pv_,ft ρ=ψ θ,pw_,J.take 6=Dk,px_,Qc s.heap d es ep,py_,W (Lz i),pz_,(λi v=>∃e,es[i]?=ψ e/\v=e.key),pA_,Bool×Op,pB_,Keyed->Int,pC_,M p=ψ Aj_,pD_,f ρ=ψ a,pE_,decide (x.n<o.n) != decide (x.tm<o.tm),pF_,arrOf cz,pG_,bN!<=100,pH_,ψ o.v,pI_,Kj yy rows S Wt aS_ kp! pH_ (ψ ko_) (ψ g1_),pJ_,L.map an_,pK_,Keyed×D,pL_,aP χ (FG! aP b8z) χ,pM_,List.ext_getElem?,pN_,Paired.mapP ok.1 λ_ _ z=>z.1,pO_,(λq=>nomatch q),pP_,#[u,kz_,h2],pQ_,GR _ _ (λz=>G (by rw[z];exact FR.mpr χ)),pR_,[R_,am!,e1_,g5_,GM! c,GM! t,x6,x7,x8,x9],pS_,.tup (p.1.map kV),pT_,[R_,am!,e1_,υ,υ,υ,υ,υ,υ,υ],pU_,(e2_).map an_,pV_,[119,97,105,116,115,32,32,120],pW_,Kq e4_ (Pa h3 p.1.1)<Kq e4_ (Pa h3 q.1.1),pX_,a.length+b.length<=1000,pY_,W.isFn KF ad!=τ,pZ_,W.codeIn KF ah qual=τ,p0_,#[oc,od,.func p0!,fz],p1_,∀(kV bn pm:Value) (an:ak!) (ah ct:Value) (us:k_),am_=K!->D3! p0!=pure bB!,p2_,(∀y∈ys,y∈xs),p3_,swapsWith hb_ (ψ ds_) pos.line X.env=pure τ,p4_,a9e hN ip hx cn df ic gr cap calm bq.ok hg hi vO_ hs ii hf,p5_,h.get? b=ψ o,p6_,X.env.kindOf x=ψ .cell\/D1_ x=ψ .free,p7_,I.ok.noex b o e,p8_,Ja wL_ (En 5) BQ,p9_,s.heap.get? a=ψ oe]
def z'q:String:=z [qa!,er _ _ _ χ χ χ,qb!,NG (k _ _ he) (EV (hc▸q)),qc!,setFlight e υ,qd!,(by show o.tm<=B+4;let:o.tm<=B:=hm.2;omega),qe!,λi x v e1 e2 e3=>?_,qf!,#[ag,fd,?_,B,m,F.kp],qh!,TX X M0 G0 F0 ay f8 q2,qi!,TX X M0 G0 F0 own f8 kc!,qj!,TX X M0 G0 F0 own ay q2,qk!,TX X M0 G0 F0 own ay (Fo! Dh),ql!,(A++C).map Bw,qm!,ψ (.lst ql!),qn!,yQ (E':=λc d H'=>qS_ XR M0 G0 F0 E (c,d) H') hX λ_ _ z=>z,qo!,TX X M0 G0 F0 own own (Gv f),qp!,λ_ _ _ e=>e,qq!,λb u e=>?_,qr!,∀b u,qY_ b=ψ u->Ab_ b=ψ u,qs!,hp.mono a! a!,qt!,(aH!).any λd=>Dl d x.v,qu!,I.hok b ob e,qv!,#[e9_,e9_,I.base.free,kP_,I.base.tups,I.base.frzs,I.base.tbls],qw!,ys.map λx=>(w,x),qx!,(by rw[EX];omega),qy!,λ_ _ q=>q,qz!,aP pE! χ aR!,qA!,.lst (go.map Op.v),qB!,{cenv with scope:=DK! env},qC!,Bool->Hp->ν,qD!,lE ns ho! yy ho_ su υ υ υ υ υ υ υ υ υ υ υ υ υ,qE!,∀a s,Q a s->Q' a s,qF!,ta U H λx H1=>tb U H1 λy H2=>R x y H2,qG!,V->V->Hp->ν,qH!,eval b X.env,qI!,(by show 2<=1000;decide),qJ!,(by rw[KP];omega),qK!,eval bP! X.env,qL!,#[kz,ez.mr,c2_],qM!,op==CmpOp.In,qN!,s.heap.get? a=ψ oh,qO!,#[[v,H!,H!,.bool θ],[]],qP!,field u! 2>>=_,qQ!,oe.data=Bw_ es,qR!,cO (Hi! ha h) λc s1 e=>?_,qU!,.BoolOp op [a] pos,qV!,setFlight z! υ,qW!,raiseStmt env kf_ (ψ c),qY!,.IfExp c a b pos,q0!,μ ExceptHandler,q1!,(by simpa using hs),q2!,h Z s U H D (I.wish _) hw,q3!,O Z s U H {D with nx:=u D} I h,q4!,∀K:List D->Mh->Prop,K ds M->fs ρ M K,q5!,#[U,H1,I1,q1],q6!,#[x,U,H1,I1,r1,q1],q7!,.If c a b pos,q8!,(λ_ s'=>∃ac H',AX_ X Z/\Q ac H'),q9!,vs[1]?=ψ .none,qg!,X.env.scope.names.lookup ζ,qS!,wpAny ζ A η Q E s,qT!,λ_ _ _ _ _=>bX (i:=0) (show(ζ:μ Str).Nodup by decide+kernel) χ f_,qX!,f1 Az (Ab g! (Ab ζ Ad)),qZ!,Str.ofString ζ]
def z'qq:String:=z [qa_,lE ns x1 yy x3 rows bO! x6 x7 x8 x9 bh c2! c9 bc cm cg cb b8,qb_,lE ns x1 yy x3 rows bO! x6 x7 x8 x9 bh c2! aS_ bc cm cg cb b8,qc_,upd H1 dx g9_,qd_,Fd eI! P w K mg base N x ak_ ag ah A outer s H E,qe_,lE ns x1 yy x3 rows bO! x6 x7 x8 x9 bh c2! aS_ bc fa! hg! kR_ b8,qf_,cutL rows υ aj_,qg_,Uc X.nox own ay rest q1,qh_,(λ_ z=>nomatch z),qi_,h.ok M0 G0 F0,qj_,#[_,de,jd,hL,r'],qk_,starEach [e] X.env=[cr_],ql_,.Raise (ψ (DO! jA! [e])) υ pos,qm_,Xf X.prog X.w X.K X.mg X.base k x ps g,qn_,one (f:=Aa 14) (q:=(w,o)) χ,qo_,#[hb,ρ,M,_,sr,e',zN_],qp_,Fd eI! P w KF mg base N x ak_ ag ah A outer s H E,qq_,λm hm=>?_,qr_,e1.trans e2.symm,qs_,fM (h y hy).dg,qt_,storeName X.env x u,qu_,λc w' hc q=>(hs.2 c ?_).trans q,qv_,λj y v' e1 e2 e3=>?_,qw_,(by simpa using I.len),qx_,wpR M A m Q (HH! M E) s,qy_,z.sameBut hs (cne y c e),qz_,#[(hs.2 p.1 ne).trans e,n,ne,nf,d],qA_,a5a (ds:=os.map Op.v) χ b8_ ?_,qB_,λx hx=>bD (FG! yI),qC_,And.intro χ h0,qD_,And.intro χ h',qE_,Cw (1+v4).toNat,qF_,wpAny M A t Q E s,qG_,∀v u s2 x y H2,m2! H2 s2->Cf x v->Cf y u->R x y H2->rr_ (f v u) Q X.xe s2,qH_,λv σ=>rr_ qH! (EV! (f v u) Q) X.xe σ,qI_,.Constant ae! j pos,qJ_,.Constant .none j pos,qK_,(by rw[I.ok.glob];exact I.mod.glob.keeps I.bk),qL_,bootBuiltins x=ψ u,qM_,op==CmpOp.NotIn,qN_,oh.data=Bw_ vs,qO_,wpAny_runValue (MM ?_),qP_,if w then Dk else[],qQ_,E z! {s with heap:=s.heap.update e (Obj.mapFields (·.setIfInBounds 2 u!))},qR_,(raiseNew z!:Sem Flow),qT_,#[H1,I1,q1],qU_,h Z s U H Q I hw,qV_,∀(s:Shared) (Q:i!),Q .none s->qS! b_ c,qW_,GE (hc _ _ ?_),qZ_,(b1.trans b2).trans cI_,q0_,lE ns x1 yy x3 rows x5 cm! c6! bo_ υ bh cx c9 bc cm cg cb b8,q1_,λf σ h₁=>?_,q2_,backTo aj yM!,q3_,O Z s U H D I h,q4_,λs Q z=>λ_ _ _=>z,q5_,mup M p (G7_ i),q6_,.int (if bv=0\/bv>(i:Int)+1 then(i:Int)+1 else bv),q7_,St->Hp->ν,q8_,∀h' T,h_<=T->Bs! h' gt!->(∃vc,h'.get? e=ψ vc/\vc.data=.fields (Ha_ 1 (.ref T)))->B6_ [e]->Be_ a0_->Q () {s with heap:=h'},q9_,lE ns x1 yy x3 rows x5 cm! c6! x8 x9 bh cx aS_ bc cm cg cb b8,qS_,ζ X.prog X.w X.K η,qX_,ψ (.lst ζ),qY_,s.heap.get? ζ]
def z'r:String:=z [ra!,[(θ,eval fs X.env)],rb!,.Subscript o i pos,rc!,ψ (.Constant .none kk p9),rd!,cO (Bo! ho _ I h) ?_,re!,.Assign lk_ e pos,rf!,I4.pin (a,jq) c_,rg!,lE ns x1 yy x3 rows x5 cm! (ψ AD!) x8 x9 bh cx c9 bc cm cg cb b8,rh!,letOwnedTupleGo tg by_ u,ri!,(by rw[ai];exact md),rj!,CW X Z U tg R,rk!,fY b0t χ T.N6 χ T.N5 bQ a8c r!,rl!,c1k (G0! a4d T.N2 b1p r!),rm!,#[K,h.trans k],rn!,aI (jS T) i_ χ bi! aj!,ro!,int_private%"intFromText",rp!,(λys hy=>by rw[I.list_inj hy hq];exact hx),rq!,(show BY_ a aH_ from p),rr!,aI (gJ T) i_ χ hC_ aj!,rs!,aI (gH T) i_ χ (aB fo! aF) aj!,rt!,intText? x=υ,ru!,aI (gH T) i_ χ bi! aj!,rv!,entryFor table id=ψ b,rw!,wpR b_ (A.under ls!) (b args) (Bj! b_) dk! s,rx!,X.mg "range"=υ,ry!,.Call (Ho! "range") [a] [] pos,rz!,ry_\/(PySem.intText? x=υ/\Rf U H1),rA!,swapsWith lv! (Di_ xn p1) p5.line X.env=pure θ,rB!,.Try [Di! xn p1 lv! p5] rc_ [] [] vi,rC!,(λn s'=>∃i ac H',AX_ X Z/\Fa! tn i/\bT_/\W i n ac H'),rD!,#[0,U,H2,I2,cz,rC_,w0],rE!,T.done X χ χ χ hc i Z s3 iy H3 X.xe I3 (iw s9) om stop,rF!,hg _ s5 iy H5 x u _ oq r5 rH_,rG!,G _ s6 im H6 _ I6 q6,rH!,Z++Ks fp s5.heap,rI!,FQ _ (FQ _ (eE G e)),rK!,Value->Value->Sem Value,rL!,V->Hp->VK->ν,rM!,d2d ha G I h λv u s2 x y H2 I2 rx ry q=>ho Z s2 U H2 x y v u Q I2 rx ry q,rN!,Int->Int->Int,rO!,#[.int a5!,H,aJ_,P!,q],rP!,Int->Int->Bool,rQ!,aT aJ aS az_ aC y!,rR!,λ_ _ _ _ _=>(HY! az_ hC_),rS!,#[_,f1,χ,χ],rT!,aT aJ aS ft! aC y!,rU!,Fd Mt P w K mg base N x ak_ ag ah A outer s H E,rV!,Xp P w K 1 (Fz N 1 q),rW!,∀a pn oe c,bz!∈pn->EC oe c->Fy_ oe=τ->PE cn! he λU H Q=>U[ie]?=ψ eE_/\∃v,hv c H v/\Q v H,rX!,[Di! xn xp he ap],rY!,aI ft_ i_ χ (BA! r! rM_) aa!,rZ!,λx y H Q=>y=.non/\Cr_ (!decide (x=.non)),r0!,λx y H Q=>Eu! r\/Eu! r',r1!,aB (HZ! cb_) (aB bz_ aF),r2!,hc Z s3 U H3 _ I3 q3,r3!,Fq X.prog X.w X.K X.mg X.base yp! k f fd ps sp,r4!,#[H,aJ_,by rw[uF r];exact q],r5!,aM lD lF aN! aC,r6!,aM cL cM r5! aC,r7!,(λxs H Q=>∃i,xs=[ck_]/\Q (.int hO!) H),r8!,#[gU!,H,aJ_,P!,q],r9!,.builtin "ord",rJ!,ψ (.bl ζ)]
def z'rr:String:=z [ra_,∀a pn,PE cn! fs tf,rb_,eval i X.env,rc_,[.ExceptHandler (Di_ "ValueError" p6) υ [.Raise (ψ (.Call (.Name xC p7) [fs] [] p8)) rc! dm] qc],rd_,swapsWith e lj_ pos.line X.env=pure θ,re_,λs2 I2=>#[_,H1,I2,q1],rf_,(by rw[z];exact G),rg_,(∀b∈fp,DD_ H),rh_,GM f6 PR PU ?_,ri_,GB t2.sz u2.sz,rj_,o.data=Bw_ vs,rk_,["enumerate","zip","dict_itemiterator","dict_reverseitemiterator","odict_iterator","itertools.zip_longest","itertools.pairwise"],rl_,wpAny_load ho ?_,rm_,int_private%"intFromObject",rn_,int_private%"numeralText?",rp_,{s with heap:=h'},rq_,int_private%"readNumeral",rt_,I1.kept (t':=s1.toks) λb o e=>EU _ e,ru_,eP P_ bU r! bH n_,rv_,eP yS yX r! gR n_,rw_,(((ls_).toNat:δ):Int),rx_,starEach [a] X.env=[dZ_],ry_,(∃n,BC! x=ψ n/\Q cp_ H1),rz_,X.N[i]?=ψ xn,rA_,cO (Bo! hi _ I h) λv s1 O=>cO O λqq s2 h2=>?_,rB_,#[hn b G,(fq!).2],rC_,λb G=>(fq!).1,rD_,(BC! x=υ/\tf U H1 λ_ H2=>∀a,H2 a=υ->Gk! H2),rE_,T.item X χ χ χ hc i Z s3 iy H3 X.xe I3 (iw s9) om go,rF_,#[iy,H3,I4,qn],rG_,cV (ok:=c4i I.ok) I χ lw! χ λ_ _ z=>z,rH_,step x H5 y5,rI_,bO (Gd! T.S4 (aL gR)),rJ_,#[x7,fh,H7,hF_,r7,q7],rK_,#[fh,H7,hF_,q7],rL_,aN (aZ (BK_ r! (aM cL cM N! dX_))),rM_,aM aG aX N! aC,rN_,.int a5! s.toks,rO_,Cq.laid x2.sub ha,rP_,fX (n:=8) χ,rQ_,intBits_le_64 O h2,rR_,Qw λi j=>.int (i - j),rS_,s1++reprText z,rT_,Xh K mg x st [y],rU_,(∀(s:Shared) (u:Value),Hq_ y),rV_,compareOp .NotEq,rW_,ψ (.Name xC cp),rX_,.ExceptHandler rW_ (ψ en) rX! hp,rY_,λx y H Q=>y=.non/\Q (Bt! (x=.non)) H,rZ_,#[e3,l8,kr,md,λv z=>by rw[d3]at z;cases z],r0_,aM cL cM aN! aC,r1_,Uy r r' ta tb tc,r2_,λf s5 z=>?_,r3_,∀pn g,Uu lP! J_ t,r4_,(show False from e),r5_,λH1 s1 ev s' J z=>?_,r6_,.builtin "abs",r7_,#[[d3_,.str name tk],[]],r8_,ES (L0.at (ES hf_)),r9_,.int (x.cps.getD 0 0:δ),ro_,X.env.cells.lookup ζ,rr_,wpAny d_ X.A ζ,rs_,wpR M A ζ Q E s]
def z's:String:=z [sa!,(λxs H Q=>∃x,xs=[.str x]/\ap!=1/\Q r9_ H),sb!,#[.int h!,H,aJ_,#[_,by simp![FG];rw[az]],q],sc!,W.plainGet K C name=τ,sd!,(show u=Er_ a from r1),se!,λM A' Q' E' s' k q=>ES qb!,sf!,X.mg xC=ψ lW_,sg!,starEach lY! X.env=(θ,eval (Fz! p2) X.env)::tS_ [hR_],sh!,starEach [hR_] X.env=(θ,eval (.Name xC p3) X.env)::Cm_ starEach,si!,aM aG aX N! (HJ! aC aW!),sj!,.Name "isinstance" p1,sk!,a0r (i:=4) a_ bU_ y!,sl!,a0r (i:=5) a_ bU_ y!,sm!,.type "function",sn!,(.ref C1,ψ dx,cv),so!,aT aJ aS (BK_ N! aN!) aC y!,sp!,[Fz! q2,hV!],sq!,λ_ _ _ _ _=>r!,sr!,(show∃t,u=Value.str x t from r),ss!,W.subIn X.K lW_ a3_=ψ τ,st!,Oa ps.length ie ix (Wb C1) g fs,su!,λd M2 v G2 H2 r2 x2 m2 q2=>?_,sv!,sr.grow bt! m2,sw!,if g=f then ψ u else mA g,sx!,s4.trans (GU! s4.sub),sy!,λb u q=>EU _ q,sz!,X.N[i]?=ψ xs,sA!,T.S5 _ χ χ χ χ,sB!,backTo pos (tS_ args),sC!,.Call (DY! e m be) args [] pos,sD!,λh' t' k p=>#[gU!,H3,p.tok k,P!,q],sE!,#[(z.cps.toList.drop i.toNat).toArray],sF!,Str×Value,sG!,hr pos Z s1 U H1 _ I1 q1,sH!,.Tuple es x1 pos,sI!,h pos Z s U H _ I hq,sJ!,cO sI! λus s1 ⟨xs,H1,I1,r,z,q⟩=>sI_,sK!,I1.laid (t':=s1.toks) (λb u e=>EU _ e) p! ?_,sL!,#[.ref F!,upd H1 s1.heap.objs.size af!,sK!,χ,q _ hf],sM!,CR CX outer P w H s Q E,sN!,mN "__init__"=ψ cs!,sO!,call cs! sP!,sP!,(.ref e::rest),sQ!,#[.ref C::rest,[]],sR!,F.run X.A X.stack s H ct! cs_ bB_ Q E hr I.env0 (G s us I.kIn hl) r2 h,sS!,#[I1.kIn,?_],sT!,Heap.get?_push_at χ χ,sU!,backTo pos sT_,sV!,(.ref B0::XS.Sm),sW!,λy=>if y=name then ψ v else υ,sX!,#[h',g,d,qh,os],sY!,h.push {cls:=.type "dict",data:=.dict #[]},sZ!,(∀v,(x,v)∉binds),s0!,(by simpa using h2),s1!,cellsFrom ag_ scope.names [],s2!,([]:μ Addr),s3!,excClassObj nm q C N bs (.ref B0::Sm) τ sn sub ab col dd k0 k1 k2 k3 k5 "ValueError.__new__",s4!,ψ (B9_ "type.__getattribute__"),s5!,.val (B9_ "ValueError.__init__"),s6!,H e=ψ (.ext φ),s7!,upd mh_ dx o2,s8!,A.deeper (Bl_ qual scope f ah),s9!,[s8_,D7! xl p2 q2,.Constant (.str s2) j2 q3]]
def z'ss:String:=z [sa_,.builtin "len",sb_,.str name tk,sc_,W.hasDictIn K C=τ,sd_,eP a9m a9p ft! hQ_ n_,se_,#[fi_,H,I,χ,q],sf_,W.isFn K ad!=τ,sg_,aB aC (aB aC lY_),sh_,(G5! pos [hR_]).any q!=θ,si_,eL (X:=dc_) hN fc! gf gg,sj_,dd!<=sizeLine,sk_,setAttr bf_ name v,sl_,W.subIn K m_ dX!=ψ τ,sm_,.ty "ValueError",sn_,bZ cC eF χ T.N7 dH d1!,so_,bE P_ bU cb_ bH n_,sp_,bY (sc:=Ae Ju) χ d!,sq_,(show∃t,u=Value.int i t from r),sr_,∀a pn oe c,bz!∈pn->EC oe c->Fy_ oe=τ->PE cn! he λU H Q=>U[ie]?=ψ eE_/\∃v,CQ C1 c H v/\Q v H,ss_,∀pn g,MA lP! [] J_ fs,st_,λpn g=>PA.R (ha pn g).ok,su_,.ins C dx (Iu f y fs),sv_,(by rw[e];exact d6!),sw_,["check","part"],sx_,(show(sw_:μ Str).Nodup by decide+kernel),sy_,X.mg xC=ψ fC!,sz_,.Attribute e f pos,sA_,ψ ((max i D!:δ):Int),sB_,keywordEach [] X.env,sC_,zJ (iT T) i_ S_ (aR d6_ bV),sD_,[.ref mz_,.str z t],sE_,#[(z.cps.toList.take j.toNat).toArray],sF_,spliced (cr_::C6_ hn_),sG_,#[x::xs,H2,I2,.cons r1 r2,q2],sH_,kB cC a0y χ T.N7 dH (aR hZ_ bV),sI_,#[by rw[<-r.length];exact z,?_],sJ_,pR (BA_ tL l8_),sK_,Zi X ay f8 rest q2,sL_,#[z,us,0,r,c8!],sM_,Rh P w K mg base A outer s H,sN_,oI.cls=.type "function",sO_,h.get? fI=ψ oI,sP_,λv H2=>v=.non/\Q bf_ H2,sQ_,dL (jW hX T.R3 hr.hd χ T.Q7 (CJ! 4)),sR_,Xo sp du E t,sS_,cO d0! λus s1 ⟨vs,H1,I1,r,q⟩=>sS!,sT_,starEach J_ X.env,sU_,#[I2.kIn,?_],sV_,∀c,o.data≠.cls c,sW_,(∀b ob,b≠x->h.get? b=ψ ob->Ab_ b=ψ ob),sX_,(Value.ref ag_::cs_),sY_,(sY!).update x λo=>{cls:=o.cls,dict:=ψ C!,data:=o.data,slots:=o.slots},sZ_,(by simpa using O),s0_,a7d (CI! bi_),s1_,Fd CX P w K mg base N qual scope f cd A outer s H E,s2_,(show b∈s2! from z),s3_,Around.frames_deeper e0.frames,s4_,λb z=>Fv! (tu b),s5_,x.above y c (IR h),s6_,Rj e C mh! t1,s7_,lN uU a8a χ T.O1 qI bi!,s8_,.Constant (.str s1) j1 q1,s9_,b0j (i:=0) χ f_ a_]
def z't:String:=z [ta!,bo.keeps x.toInCall.keep,tb!,#[ta!,codeAny_func ?_],tc!,cO d0! λus s1 ⟨vs,H1,I1,r1,q1⟩=>EH_ Z,td!,getMethod ov "__init__" pl,te!,iU hX (hU T) i_ χ mt!,tf!,Rg C υ t0,tg!,I2.kIn _ _ hC,th!,(by rw[e5];exact d6!),ti!,if v<0 then max mu! 0 else min v (n:Int),tj!,s.heap.IsSliceOf sl vl vu .none,tk!,mS (DX_ he),tl!,a4u T.O9 χ,tm!,tl_==0&&(1:Int)==1&&tk_==fF_,tn!,W.isFn K cs!=τ,to!,upd H dx fG_,tp!,hl Z s1 U H1 _ I1 q1,tq!,[Er_ e,fH!],tr!,(r.drop mB!).take mB_,ts!,"ValueError.__new__",tt!,#[χ,#[dx,χ,aV],λz=>nomatch z],tu!,aI ft_ i_ χ (aB r! lY_) aa!,tv!,bE P_ bU az_ aC n_,tw!,Eb.cons (j:=3) Eb.nil,tx!,#[z,H,I,bf,q],ty!,slot_list_getitem.lookup,tz!,λ_ _ _ _ _=>(aL (HY! bH bi!)),tA!,nO (B5! cu_ aC),tB!,a3m (G9! (A8_ aC cu_)),tC!,upd H p (G7_ j),tD!,aI ft_ i_ χ (HM_ r! (H3! aC (HJ! aC cb_))) aa!,tE!,(by rw[hk];exact#[_,I',q]),tF!,if a then 1 else 0,tG!,Xg X.prog X.w X.K X.mg X.base k' xC C B0 n1 n2,tH!,λw hw=>tQ rx fx r fs w mt_,tI!,fW (aB (aA 14) aF),tJ!,.Try [Di! xi p1 hN_ p4] [EU_ [tC_]] [] [] tp,tK!,(λ_ e=>nomatch e),tL!,#[#[o,e,ex.1],λa e2=>?_],tM!,[.Return (ψ rx) dm],tN!,.bl (Gm! z y),tO!,(λr s'=>match r with|.ok f=>Q f s'|.error e=>DK_ M e s'),tP!,Obj.mapSeq f,tQ!,.cons ru .nil,tR!,TX X M1 G1 F1 own own q1,tS!,(λD U H=>∃A B C,Lv X (XR X.prog X.w X.K A B C E)/\TX X A B C own own q1 D U H),tU!,eval value env,tV!,backTo aj tU_,tW!,starEach [e,f] X.env,tX!,#[c0,d1,.cls {name:=RS,bases:=bs1,mro:=mro1,ns:=N1,qualname:=q1,hasDict:=RT,slotNames:=sn1,subclasses:=sub1,abstract:=RW,collection:=RX,hasDel:=RU},sl],tY!,(es.toList.all λe=>match e.key with|.str _ _=>τ|_=>θ)=τ,tZ!,(v5.toList.all λe=>match e.key with|.str _ _=>τ|_=>θ)=τ,t0!,Builtin.SmallTypes.fitsIndex k=τ,t1!,.type "enumerate",t2!,∀(kV bn pm:Value) (an:ak!) (ah ct:Value) (us:k_),am_=K!->D3! mP!=pure bB!,t3!,.inl (.inl (e _ _ h)),t4!,.inl (.inr #[o,e _ _ h]),t5!,(by rw[hs];rfl),t6!,ForInStep.yield ((name,a)::r),t7!,(by simpa using hk),t8!,λp hp=>hn p mT_,t9!,mV cells r _ x h,tT!,Am KF ζ ds vs]
def z'tt:String:=z [ta_,λv H'=>v=.int k/\H'=H,tb_,(by simp![HY];omega),tc_,[.Name xs p1,HB_ s9! q4],td_,backTo aj (tS_ tc_),te_,λ_ _ _ _ _ hX=>te!,tf_,I2.hok e _ e5,tg_,if v<0 then(mu!).toNat else min v.toNat n,th_,(by simp[sizeLine]),ti_,((sIx n n hi:δ):Int),tj_,λ_ _ _ _ _=>bX (i:=0) (show(bn!:μ Str).Nodup by decide+kernel) χ f_,tk_,sIx items.size items.size hi - Cv! 0 lo,tl_,((sIx items.size 0 lo:δ):Int),tm_,W.keepIn K m_=τ,tn_,ι Int->Hp->ν,to_,V->wY_ Int->wY_ Int->Hp->VK->ν,tp_,hu Z s2 U H2 _ I2 q2,tq_,GB (rO xs lo hi) hz,tr_,(.ref C,ψ dx,.none),ts_,λ_ _ _ _ n=>n,tt_,Cq.laid x.sub hd,tu_,#[[ec_,H!,H!,.bool θ],[]],tv_,call dg! (v::us),tw_,λ_ _ _ _ _=>bX (i:=0) (Dc_ [do_,it_]) χ f_,tx_,(by rw[hj];simpa using ew),ty_,λr s'=>r=w/\BS_ EP r s',tz_,(by rw[FG]<;>omega),tA_,(·.setIfInBounds j u),tB_,aM aG aX r! aC,tC_,.Raise (ψ (DO! h9! [.Name xk kp])) rc! dm,tD_,.ExceptHandler ie_ υ [tC_] hp,tE_,xT X Z D tD_,tF_,(.ref C,ψ dx,.ref a),tG_,(show its.toArray.any fK!=its.any fK! by simp),tH_,swapsWith hN_ (Di_ xi p1) p4.line X.env=pure θ,tI_,X.N[i]?=ψ xi,tJ_,∀c,kh c=τ->W.subIn X.K bJ_ dh_=ψ τ,tK_,Cq.laid h7.sub hd,tL_,.ExceptHandler ie_ υ tM! hp,tM_,#[o,e,ex.2.1],tN_,backTo aj hn_,tO_,.forLoop gu it body j7 env,tP_,λ_ _ q=>EU _ q,tQ_,XR X.prog X.w X.K M1 G1 F1 E,tR_,TX X M0 G0 F0 own own zW!,tT_,Heap.SameBut a s.heap h',tU_,starEach [e] X.env,tV_,(by simp[xm,UM]),tW_,ns.map WData.int,tX_,K.lookup N=ψ #[c2,d2,.dict es ep,s2],tY_,K.lookup N1=ψ #[c3,d3,.dict v5 vx,s3],tZ_,W.nsIn K N1 "__init__"=ψ υ,t0_,ι Value,t1_,Ur K x qual st f fd,t2_,#[oc,od,.func mP!,fz],t3_,starEach [e] env,t4_,xs.zipIdx.map λq=>Gb_ (q.2+k:δ),t5_,Str×NameKind,t6_,ForInStep (μ ej_),t7_,(if(k==fO!)=τ then _ else _)=_,t8_,Str.ofString bV_,t9_,PyData.tuple [ck_,dZ!],tS_,starEach ζ X.env]
def z'u:String:=z [uv!,Addr,ua!,X.N[j]?=ψ x,ub!,∀b∈fp,b<t_,uc!,.Try body [EU_ tM!] [] [] tp,ud!,#[hb,ρ,M,R,sr.st,e,k],ue!,ForInStep.yield ok,uf!,call (B9_ "list.append") [av,x],ug!,#[gu,iter,cu,0],uh!,(λxs H Q=>∃b:Bool,xs=[.bl b]/\Q (.int if!) H),ui!,λok bp gb=>?_,uj!,Py X.prog X.w X.K tg J fp it tn,uk!,(∃m,s'.heap.Ns C m),ul!,[#[tg,iter,cu,0]],um!,wpAny_newFunctionEnv df (by intro y hy;simp at hy) (λh₁ o8 ll=>?_) cn,un!,s.cps.toList.drop i,uo!,EU _ (pc▸FP _ χ),up!,(λv z=>by cases z),uq!,#[hn b G,below b fP!,λz=>Dg_ (I2.stkSub b z) f1 f3,.inl G,λx c h=>f5 x c el_,ci!],ur!,RR (.ref t_) bZ!,us!,λ_ _ z=>z.elim,ut!,hg _ _ _ _ _ s5 ac H5 x u _ oq r5 rH_,uu!,m1_++Ks fp s5.heap,uw!,FQ _ (FT _ c_),ux!,FQ _ (FT _ cn_),uy!,λx c h=>?_,uz!,Xl X.K [] ft,uA!,#[m',hm,i+1,ys++[y],us++[yv],n9,im,H8,I9.pins_of λp hp=>?_,FU! t8 λb G o e=>(ue.2 b (FW fP!)).trans e,n8,rv.append (Cs_ r8),w8],uB!,I9.pin p (FQ _ hp),uC!,(λv z=>by cases z),uD!,T.self _ 0 _ _ _ je m4!,uE!,∀cl C ae au fp,FT_ tt,uF!,bq Z s U H _ I h,uG!,#[m,hn,λh' fk=>?_],uH!,Int.negSucc m,uI!,execs st X.env,uJ!,#[.ref D,_,ID,χ,ak D nD],uK!,∀a h1,Rd H a db!->Rd H' a db!,uL!,.Pass #[0,0,0,0],uM!,λ_ _ q=>e.seq q,uN!,#[a,vs,χ,h,r],uO!,[b0!,"fresh","times","name","time"],uP!,[cA!,eo_,b0_],uQ!,[b1!,b0!,"k",cA!],uR!,[ep!,do!,do_,b1_],uS!,[bn_,it!,ep!,is!,cB!,"_law_items_here","_law_item","_law_other","_law_kinds","_law_kind","_law_sign","_law_names"],uT!,[bn_,it!,"_law_many",ep!,"_law_counts","_law_times",b1_,cB!,"_law_at","_law_deed_here"],uU!,[ng_,is_,"_law_taken","_law_waits",b1_,"_law_kind",do_,"_law_have",nf_],uV!,Bd (Bv "bool" g!),uW!,fC (.int 60),uX!,#[by rintro Z s U H Q I ⟨hb,ρ,d,er,e,k⟩;exact Hi! h nj!],uY!,fT (Bv "tuple" g!),uZ!,#[λb o z=>?_,x.h,λb o z=>?_,λb z=>?_],u0!,(∀ws,u≠.lst ws),u1!,FC (λG=>by let#[ws,e2]:=yt a G;rw[e1]at e2;exact hu ws (GN e2)),u2!,f1 Cr (Ab nk_ Ad),u3!,eL hN hv hd bj,u4!,f2 Be g! (fC f2!),u5!,s1.trans er!,u6!,b7x hr ha.ok G.ok hs,u7!,b7v ho ha.ok G.ok,u8!,#[b7d h.ok],u9!,#[G1,ρ,d,cD_,e,λG2 H2 s2=>k G2 H2 bG_]]
def z'uu:String:=z [ua_,FJ X own n es g,ub_,Hx X scope cl C N s2 H2 fp,uc_,(λcls H'=>∃c,cls.1=.ref c/\CE! dh_=ψ τ/\D.rt V_ H'),ud_,∀e s',E e s'->HH! b_ dk! e s',ue_,(forIn cu τ λc r=>if r=τ then do let ok <-isTrue c env (eval c env);pure ue! else pure il!),uf_,(λ_ t6=>∃m,m<n/\I m t6),ug_,.compLoop (.ListComp c7 [ug!] scope pos) 0 it av env,uh_,s1++qZ! bV_,ui_,Value->Addr->Result->Shared->ν,uj_,Qr J g tt te Fin mV! H2,uk_,newFunctionEnv scope X.env.globals cl [] X.env.qual υ .none (ψ X.env),ul_,.compStart dk_ 0 by_ av {cenv with scope:=DK! X.env},um_,List.range' i n,un_,EU _ (pc▸EU _ e),uo_,(cf.size<bo/\free<=i)/\i+(bY_).length<=E!,up_,s2.toks+(m0_).length,uq_,.compLoop dk_ 0 by_ (.ref t_) (Cz_ G2.objs.size),ur_,λ_ _=>False,us_,#[0,[],[],0,_,H2,I1,je,rC_,.nil,w0],ut_,hi _ _ _ _ _ s6 im H6 _ I6 q6,uv_,he _ _ _ _ _ s7 im H7 _ I7 q7,uw_,rv.length.symm,ux_,λb o G e=>(ue.2 b G).trans e,uy_,FW (FK (I2.pin p cr).1),uz_,(ws.map λw=>c::w),uA_,FC (λz=>h.1 z.symm),uB_,(t_,Kv m3! n9),uC_,#[yr,pD.2.1,pD.2.2.1,pD.2.2.2.1,uC!],uD_,X.env.kindOf y.1=ψ .cell\/X.env.kindOf y.1=ψ .free,uE_,∀cl C ae au fp,PE bD_ c7 te,uF_,cO uF! λv s1 O=>cO O λqq s2 h2=>?_,uG_,exec st X.env,uH_,dw c (jy x c h),uI_,(fk.2 D gw).trans eD,uJ_,∀a vs,Cs! Er->Er KF H' a vs,uK_,Am.map ht hl hd xs vs r,uL_,λ_ _ q=>bJ e q,uM_,λ_ _ q=>a8w e q,uN_,[b0!,"message","fresh",b0_,"name","same"],uO_,r.mono (jK h),uP_,[b0!,cA!,"k","waits",b0_],uQ_,#[v,O,h2.mono x.g],uR_,[cB!,is!,nd!],uS_,U[i]?=ψ bE!,uT_,[nf_,do_,"_law_other"],uU_,[bn_,ep!,ng_,it_,is_,"_law_turn","_law_lines","_law_due",do!,"e",nh_,"_law_way","_law_at","_law_some",ni!,"_law_turned","_law_late","_law_less"],uV_,fC (.int 10),uW_,Xl X.K own f,uX_,∀U hb H Q ρ d,A9_ X.K->ft ρ=ψ d->(∀G' H',Cq hb H G' H'->Q d H')->t U H Q,uZ_,λa vs q=>?_,u0_,if a∈Ex own U then υ else G' a,u1_,.inl (.inl (ne _ q λ_ z=>nomatch z)),u2_,.inl (.inr #[o,ne _ q λ_ z=>nomatch z]),u3_,f2 Be g! (fC iv_),u4_,OR X.K own hb H U ρ,u5_,a9k ho ha.ok G.ok hm,u6_,a9b ho ha.ok G.ok hm,u7_,#[d,χ,nm_],u8_,a6h ha.ok G.ok,u9_,c7q ha.ok G.ok,uu_,ζ P w KF,uY_,ψ (.int ζ)]
def z'v:String:=z [va!,λv G1 H1 s1 r1=>?_,vb!,λv G2 H2 s2 r2=>k v G2 H2 bG_ r2,vc!,k _ G1 H1 s1 Bc.bl,vd!,(by rw[<-aE r1];exact iG hl),ve!,s1.sub.free hp,vf!,jL hc hg hm hv ha.ok hn al he ao,vg!,∀ρ ds,fs ρ=ψ ds->e_=K!,vh!,Qd t.B2 "have" 2 (Fc t) U! vg_,vi!,Dh (wT (w2 f5_ (Qd t.B2 "have" 2 (Fc t) U! f6!) iF!)) (Ei iF!) Ff,vj!,Ce 4 (wl (DM! ar_)),vk!,f2 Ao R! v_,vl!,Dh (wT (Ep 2 (Gj t) (CO! U! iG_))) (Ce 5 (Gd_ (w2 Kg iD_ vj_) (f2 Bt vk! v_))) (Dh vk_ np_ (Ce 5 (Gf cG! eu! iG_))),vm!,Dh vl_ np_ Ff,vn!,Ce 4 (Gd_ (w2 Kg aY! iG_) al_),vo!,k _ hb H aC_ (hg _ _ hb),vp!,Dh vo_ (Gn t.NoTime E (Pn (gN 3 g0))) Ff,vq!,λ_ j=>decide (0<j),vr!,λ_ j=>decide (0<j)&&decide (j<1073741824),vs!,λi j=>decide (0<=j)&&decide (j<=1000000)&&decide (N_<2 ^ 64),vt!,fC (.str "-"),vu!,Cs 1 [] (Po g!) r_ D_ nr!,vv!,λG3 H3 s3=>?_,vw!,s4.trans f7!,vx!,f2 Be vw_ (fC iI_),vy!,λa z=>(by subst z;rcases e2),vz!,wT (w2 f5_ (Rm U! Ai cF_) (wl (Bl vy_))),vA!,Dh vz! (Ei (Ed_ f6!)) Ff,vB!,#[_,χ,dr!],vC!,wT (E1_ Jx nq_),vD!,.builtin "all",vE!,(∀d,ds[i]?=ψ d->J.go i H'/\∀x jz,J.yld i H' x jz->∃uh,Cq G' H' uh jz/\Bc KF uh d x),vF!,.str "waits ",vG!,#[ex_,λhi=>Ek! vs r],vH!,#[G',iN!,h2.mono s1],vI!,Gv (Rn iF_ eu!),vJ!,Tg 2 (Rm U! cF_ Ai),vK!,Ar (f2 Ao g! (f2 As w_ cC_)),vL!,Yo KF 2 (Sd c6_ (Sd (Kh j) Yp)),vM!,((vL_).mono x3.g).mono x4.g,vN!,∀cl C ae au fp,DE bD_ [] c7 fe,vO!,fT (f2 Be (BO! vP_) (fC f9!)),vP!,a9j cn df ic gr cap calm bq.ok hg hi vO_ hs,vQ!,f2 Ao ab_ y_,vR!,x.sub.free hp,vS!,BN X.K G0 F0 own bx f,vT!,f2 As (f2 Aw w_ (H1! (f2 Br a9_ g!))) (A4! 41),vU!,Bg 4 (f1 Az (Ab g! cF!)),vV!,Bg 6 (f1 Ed (Ab (f2 Ag (Ci bp! cF_ Ai) (Ci bp! Ai cF_)) nH!)),vW!,.Assign ew_ e pos,vX!,#[G',ρ,r,er.grow x',e2,k],vY!,s.or.sub.trans y9,vZ!,Bg 8 (DL! [gc_,gc_,gc_,nI_,nI_,f9!,f9!,iB!,nJ_,(.str "undo"),(.str "redo"),nK!]),v0!,Cn (BH! gc_) (Gs_ (Bh_ (HQ_ bp! nH!) aY_)) Bb,v1!,Cn (BH! nI_) (Gs_ (Ab aE! (Ab (HQ_ bp! (Ab (qX! (f2 Ag w_ a9_)) Ad)) (Ab aY_ Ad)))) Bb,v2!,Bg 10 (HQ_ (f1 Jp cH!) (Hx! iy!)),v3!,Cn (BH! f9!) (HP_ (f1 Mb (Ab (qX! (f2 Ag w_ ge!)) nF!))) Bb,v4!,starEach (e::[]) X.env=cr_::Cm_ starEach,v5!,eval dt! X.env,v6!,Cn (Bs (BH! iB!) (fT (f2 Aj iT! cD!))) (HP_ (H1! (f2 As v4_ (f2 Bt dp! (F7_ iT!))))) Bb,v7!,DE X own ix fx,v8!,.Subscript dt! ix p2,v9!,eL hN zc hd bj]
def z'vv:String:=z [va_,#[x,χ,?_],vb_,k _ G1 H1 s1 Bc.bl,vc_,cE h.ok hs.ok ai,vd_,s1.trans (GU! s1.sub),ve_,Mu t.B2 "outline" U! (wl cD!),vf_,#[hb,ρ,ds,er,e1,λvs G1 H1 s1 r1=>hd s1.sub r1 e' λv G2 H2 s2 r2=>k v G2 H2 bG_ r2],vg_,Af (wl iE_) Av,vh_,∀ρ ds,fs ρ=ψ ds->e_=n,vi_,Ei (w2 Kg (Gd_ (w2 Kg iD_ aY!) (Yr v_)) (wl al_)),vj_,wl (BO! R!),vk_,wT (w2 f5_ vj_ (Hj t.B2 "ours" U!)),vl_,Iz (fT vm_),vm_,f2 Ea bp! ar_,vn_,∀i j H,AP! a5! (gv i j),vo_,wT (w2 (λ_=>Dj) eu! (Ml cG! nq! (Ep 2 (Fa t) (CO! U! nq!)))),vp_,Pl cG! nq! eu!,vq_,f1 (Cd t) aq_,vr_,fT (Hs! (AT_ ev! vq_)),vs_,.bl (Qh i j),vt_,k v hb H aC_ h2,vu_,a2q (Xc.or b6h a8p) ha.ok hl hh,vw_,Ci g! Ai cF_,vx_,Dt (fT vx!) a9_ cC_,vy_,Ab (f1 Db cF!) Ad,vz_,(λxs H Q=>∃x n,xs=[x]/\Yx KF x H n/\Q cp_ H),vA_,Jt t.NoSave "line " " is wrong" E (wl v_),vB_,wT (w2 (λ_=>Dr) nx_ iF!),vC_,wT (w2 (Sb θ) aY! iF_),vD_,wT (w2 f5_ nx_ (wl (A4! 8))),vE_,i=e_->J.stop i H',vF_,Yq w_ nz_ Ai,vG_,#[#[vs,v,q',O],iM_],vH_,Kk (Iz iM!) (wT (E1_ Ib nA!)),vI_,Dh (Kk (Iz (Bo iM!)) (wT (E1_ Fj nA!))) (Gv (E1_ Ma nA!)) (Eq_ Jt "line " " is wrong" E cG!),vJ_,Cz 3 (Eo t) E (Af aY! (CO! iG_ cG!)),vK_,f2 Ag w_ v_,vL_,bf.mono x2.g,vM_,∀cl C ae au fp,FT_ uz!,vN_,Cs NL.length ix fi bnd ft fe,vO_,λx0 x1 x2 x3 x4=>(he x0 x1 x2 x3 x4).ok,vP_,f2 Ao ab_ a9_,vQ_,Ay (Ab vQ! (Ab nE! nF!)),vR_,Nl (Fv (B4_ Bi (f2 Ao vP_ a9_))) f6_ (Mp 1 vQ_),vS_,DS X own ay st q1,vT_,f2 Ao ab_ vT!,vU_,Bg 5 (f1 Jq cH!),vV_,yN hN hi hx h.ok hs hf,vW_,Bg 7 (HQ_ (f2 Ag bp! (DL! iQ_)) (Hx! al_)),vX_,Cn (FB! aY_) (Bg 7 cD!) Bb,vY_,λj d q n=>?_,vZ_,Bg 9 (f2 Ao aZ! (f2 As R! nK_)),v0_,λz=>Ac_ z.symm gn,v1_,Cn (BH! nK!) (Gs_ nL!) Bb,v2_,(λb u e=>by rw[aH (hG e)];exact FW! e),v3_,.nx (ρ.set i (qX_ (ds++[d]))),v4_,f2 Aw R! nK_,v5_,.Call (DY! dt! "append" be) [e] [] aj,v6_,ρ.set i (qX_ (ds.set k d)),v7_,Cn (fT (f2 (Ui θ) aZ_ (fC (.tup [iB!,nJ_])))) (Ar (Ay (Ab (fC nJ_) (Ab aE! (Ab (f2 As v4_ iy!) (Ab (f2 Bt (f2 As (f2 Aw R! (A4! 48)) (A4! 2000)) (A4! 1000)) Ad)))))) Bb,v8_,Bg 11 (f2 Ag (AT_ gf! gd!) (Bl (Ab (Ay (Bh_ y_ (H1! (f2 As R! ge!)))) Ad))),v9_,λiv G2 H2 x2 r2=>?_,vv_,DE X own ζ]
def z'w:String:=z [w5!,Around,wX!,Value,wY!,World,wa!,Ar (Ay (Bh_ aZ_ (HQ_ (Aa 11) nH!))),wb!,λi hi p e=>?_,wc!,Cq G0 F0 G1 H1,wd!,Ss 4 aZ! (f2 Ag (Pe 4 aZ!) v_),we!,Bg 9 (Me (f1 Ic (Ab g! (Ab (f2 Ag wa_ v_) (Bh_ ar_ ge!))))),wf!,Ur KF x qual st ag fd,wg!,F.ok S iV_ (λah A outer s H vs Q E hr h=>?_),wh!,G ah A outer s H E hr,wi!,f2 Ao ab_ al_,wj!,#[er,Cq.refl sub,av!],wk!,sZ I xs ys vs n n' rr d8,wl!,Bg 5 (BO! iW_),wm!,fT (f2 An aE! cD!),wn!,f2 Ag ab_ ar_,wo!,es.getD j .non,wp!,ds.getD j .non,wq!,Bg 7 (Me wp_),wr!,fT (f2 Dj wq_ aY_),ws!,Cn (Cy wr! wr_) nP! Bb,wt!,(BU! (min us.toArray.size nQ!)).all (λj=>Dl wp! wo!)&&nP_==nQ!,wu!,Bg 8 (Se ws_),wv!,Cy (HD! Be (BO! aE!)) (Cy (fT (f2 Be (f1 Bi nF!) (A4! 8))) (fT (f2 (Sb θ M0) (DM! aE!) aZ!))),ww!,a2h I _ _ _ n n' r r',wx!,A.units+dep d<cLine,wy!,#[dx,dy,rx.mono sub,ry.mono sub,h.1.1,h.1.2,h.2,gb!],wz!,Ap g g' fa fb fc,wA!,#[bb,χ,?_],wB!,pf.trans (s4.trans s5),wC!,Cs 1 [] ev! r_ (fT i0_) g!,wD!,λρ=>((w_) ρ).bind Lc,wE!,Ce 4 (Ho 1 [3] (Rk ev!) r_ (Iz (Cy (fT (f2 Ea a9! (fC gg!))) (Bo wD!))) (wl (Ay (Ab b4_ aq_)))),wF!,Ce 4 (w2 Ie eu! (Ho 1 [3] (Rk ev!) r_ (Kk (Iz (fT i0_)) (Kk (Iz wD!) (wT (w2 (Sb τ) U! aY!)))) (wl (Ay (Ab ex! aq_))))),wG!,ha.ok Z s U H _ I h,wH!,Ce 10 (wl (f2 Ao (Bl (Ab (fC gg!) cH!)) (HL! 50 al_))),wI!,f2 As (Gn! 45) (A4! 11),wJ!,f2 Ag v_ wI!,wK!,f2 As (Gn! 52) al_,wL!,f2 Ag v_ wK!,wM!,f2 Br uV_ bp!,wN!,λi h=>i<=nT!/\ph i h,wO!,fT (f2 Dr (Aa 11) y_),wP!,Ce 12 (wl (GR! 57 (B4_ Bi R!))),wQ!,λi h st=>SO _ i h st,wR!,Ce 15 (wl (Ay (Ab (f2 Ao nT_ (B4_ Pd (HE! wQ_))) (Ab i3! Ad)))),wS!,.str (Txt.join z ys),wT!,Ce 16 (wl (Ay (Ab wQ_ (Ab (f2 Ag (f2 Ag (DM! i3!) (Ay (Ab (f2 Ag (F7_ i3!) (HL! 56 ge!)) Ad))) (EK! i3!)) Ad)))),wU!,Ce 17 (wl (f2 Ag gk_ i5_)),wV!,Bl (Ab (Aa 14) Ad),wW!,Builtin.SmallTypes.nextOf (.ref jt),wZ!,Ce 4 (wl (f2 Ao (Bl (Ab (Aa 17) (Ab (f2 Ag (f2 Ag gk_ wV!) (Ci R! i6_ Ai)) (Ab (C4_ 15) (Ab (f2 Ag (Aa 17) wV!) (Ab (C4_ 16) Ad)))))) (f2 Bt (Aa 11) v_))),w0!,Ab (FO! cH!) Ad,w1!,show A.in1.handled=υ from hh,w2!,f2 Be (HL! 55 iK_) y_,w3!,ys[k2]?=ψ y,w4!,Builtin.«zip.__next__» #[[.ref z],[]],w6!,KC gz c_ λO m8 gj=>?_,w7!,j5.extBut gj.extBut D.l1z,w8!,gj.extBut _ _ D.TOz gO,w9!,OI uj λh3 wk jf=>?_]
def z'ww:String:=z [wa_,f2 Ag w_ (f2 Br (A4! 7) aE!),wb_,Bg 7 (qX! wa_),wc_,Bg 8 (f2 As aY_ a9_),wd_,Ss 5 aZ! (f2 Ag (f2 Ag (Pe 5 aZ!) v_) (f2 As (f2 Aw aY_ a9_) a9_)),we_,Mp 3 (Ay (Ab (f2 Ao (DL! [a8_,(.int 5),gg!]) aZ!) (Ab (Pe 4 aZ!) (Bh_ (Pe 5 aZ!) aZ_)))),wf_,fT (f2 Be nE! iE!),wg_,fT (f2 Be wi! ny_),wh_,Cn (Cy wf_ wg_) bF_ Bb,wi_,f2 Ea (f2 Dw nE! iE!) (f2 Dw wi! ny_),wj_,Cn (fT wi_) bF_ Bb,wk_,(by delta Bm at h;exact h),wl_,Bg 6 (Er! iW_),wm_,(by simpa using h),wn_,Cy (Bs (fT iX!) (Gl! ar_)) (Bo (fT (f1 Fo (Ab wn! nL!)))),wo_,Cn (Cy wm! wn_) nP! Bb,wp_,f1 Bi (Ab (E4_ 1) Ad),wq_,f2 Ao aE! v_,wr_,fT (f2 Ea (f2 Be wq_ (f2 Ag aY_ v_)) iX!),ws_,Cs 1 [] (Ej ar_) r_ D_ nk_,wt_,fT (HE! bp!),wu_,(by rw[FG,FG,<-h3,<-h4,<-O,<-h2];simpa using hl),wv_,Cn (Bs wt_ wv!) nP! Bb,ww_,Cn (fT iX!) (Mp 2 aE!) (Mp 3 aE!),wx_,.bl (Dl x y),wy_,Ce 1 (wl (f1 Jo (Ab g! (Ab y_ (Ab (f2 As (qX! uW!) nK_) Ad))))),wz_,#[hb,ρ,x,er,e1,λv G1 H1 s1 r1=>#[G1,ρ,y,cD_,e2,λw G2 H2 s2 r2=>hg s2.sub eq_ r2 e3 λt G3 H3 s3 r3=>?_]],wA_,(r2.mono s3.g).mono s4.g,wB_,Ce 2 (wl (f2 Ao (DL! [(.int 3),a8_,(.int 5)]) (HL! 59 a9_))),wC_,Ce 3 (wl (Ci wC! Ai (Ah i1!))),wD_,.bl (B8! x),wE_,L2.Key×Value,wF_,λZ s U H Q I h=>?_,wG_,b9x (k:=Fi! z) r1,wH_,μ D->ι D,wI_,Addr->wY_ wH_,wJ_,Ce 4 (Ho 1 [10] (Rk (Fv wJ!)) r_ ev_ (wl (Ay (Ab ex! (Ab (Ay (Ab w_ (Ab (f2 Ag g! al_) (Ab (f2 Ag g! ge!) (Ab (fC (.tup [nK!,f2!])) Ad))))) Ad))))),wK_,x.cps.toList.map λc=>.str L!,wL_,Rk (Fv wL!),wM_,Ce 11 (wl (GR! 58 iK_)),wN_,λρ=>((R!) ρ).bind Lc,wO_,Iz (Bs wN_ wO!),wP_,Ce 14 (wl (f2 Ao R! eB!)),wQ_,f2 Ao (Aa 14) y_,wR_,ys.map V.str,wS_,starEach [a] X.env,wT_,λw G2 H2 s2 r2=>?_,wU_,s.heap.IsTupleIter jt tt n,wV_,s.heap.IsTuple tt xs,wZ_,Obj.cls_mapFields ..,w0_,(by first|rfl|(dsimp only[firstArgMember];rfl)),w1_,((cI_).extBut.push _).push _,w2_,xs[k1]?=ψ x,w3_,w2 (λ_=>As) (wl (Gn! 54)) (w1 Jz jc!),w6_,bS g1 gj.extBut D.i1z,w7_,yZ w6_ w7! gx λh2 SQ da=>EV ?_,w8_,JY uj χ ?_,w9_,wpAny_letGo K_,wW_,W.kitOne [] ζ,wX_,wpAny _ _ ζ _ _,wY_,ι ζ,w4_,(by rw[ζ];exact η),w5_,.fields [.none,.bool θ,.ref h_,rawInt ζ,.none,.none].toArray]
def z'x:String:=z [xz!,Program,x1!,Shared,xa!,bS (bS (bS g2 gj.extBut D.i2z) da.extBut D.i12.symm) jf.extBut D.TOi2.symm,xb!,((km.extBut gj.extBut D.l2z).extBut da.extBut D.l2i1).extBut jf.extBut D.l2TO,xc!,fT (f2 Be aY_ y_),xd!,Cy xc! xc_,xe!,#[_,χ,?_],xf!,gj.extBut _ _ c1 x,xg!,F.entry_zip_next,xh!,#[(all _ h).1,(all _ h).2],xi!,BK s.heap l1 l2,xj!,I.step n2_ (λc o _ _ hc e _=>kp c o hc e) (λc o _ _ hc e _=>#[o.slots,kp c o hc e]) ts_ (λc o hc e=>#[o,kp c o hc e]) kW! qp! (λc ps e=>kV_) qq_ n3! I.bare,xk!,λd o' hd e'=>kp d o' (λhm=>?_) e',xl!,s.cps.toList.map λ_=>.bl τ,xm!,.bl (cs.all (·.2.2)),xn!,λc o _ _ _ e _=>mQ_,xo!,λc o _ e=>mR!,xp!,(λc o u e=>by rw[n6!];exact e),xq!,I1.hok c o e,xr!,.tup [x,y,.int z],xs!,starEach ac_ X.env=dZ_::tS_ [b],xt!,(C6_ xs_).any q!=θ,xu!,.Call (Ho! "zip") ac_ [] pos,xv!,[(t.B1,a,Ef a)],xw!,(θ,AV! b),xx!,belowK 16 a&&Ec b&&Ec c&&Gm d,xy!,(jl!).any λd=>Dl d cJ!,xA!,W.nsIn KF mainGlobals x=ψ dc!,xB!,KF.lookup f=CQ! xA_,xC!,∀(kV bn pm:Value) (an:ak!) (ah ct:Value) (us:k_),am_=K!->D3! xA_=pure bB!,xD!,rows.map (Ye w),xE!,(Sum.inr r.1:L2.Key)=Fi! y,xF!,Sum.inr.inj z,xG!,(show i+(j+1)+1=i+1+j+1 by omega),xH!,#[χ,χ,χ],xI!,fs.map Value.ref,xJ!,[.int x,.int y,.int z],xK!,Hk z y (D!+1),xL!,(decide (D!<ag!)||decide (BG! z<BG! y)),xM!,Builtin.Str.occurrences z y 0 z.length (D!+1),xN!,(by rw[EX];exact hs),xO!,attributeBase o "split" X.env bS!=AV! o,xP!,(by simpa using hl.1),xQ!,[as!,of_,xP_,y],xR!,a.old x o l m e,xS!,letters.cps.toList.length,xT!,(do setField z! 1 (<-EntryCells.newEntry ur (<-frameOf env) .none gt! .none (<-entryPlaceOf L zm))),xU!,wpAny_entryPlaceOf λpl ao=>?_,xV!,({cls:=.type "traceback",dict:=υ,data:=.fields (oi_).toArray}:Obj),xW!,GR _ _ (FW eT),xX!,#[am,_,_,ob,_,e3,hc.mapF,d3,by simp[hsz],ce _ a!,IZ eT,tT,ut,?_],xY!,hl.of_keeps λb o eb pp=>?_,xZ!,x∈HT_ xs,x0!,#[_,db b _ g8 kq],x2!,GM ht j6 h3 ?_,x3!,cutL its X_ υ++CO_ its X_,x4!,cutL its X_ υ,x5!,#[o.slots,by rw[db b (λz=>zq (z▸G))];exact eb],x6!,#[o,by rw[db b G];exact eb],x7!,db e (GI ni),x8!,∀b∈frA l,∃o,n.get? b=ψ o,x9!,Obj.mapFields (·.setIfInBounds 3 x8_)]
def z'xx:String:=z [xa_,Pm (Af (wl b4_) (Af (BZ_ "hand 16") (Af (BZ_ "waits") (Af (w2 Ie (wl iw!) (Gd_ (wl aE!) eB!)) (Af (BZ_ "waits waits 1") (Af (BZ_ "hand") (Af (BZ_ "waits  x") Av))))))),xb_,jf.extBut _ _ D.TOz.symm (CT! D.i1z.symm m8),xc_,fT (f2 Dr aY_ gl!),xd_,rawInt h5.objs.size,xe_,xs[k1]?=υ\/ys[k2]?=υ,xf_,#[_,gz,χ],xg_,F.args_zip_next_1 _,xh_,BL s.heap l1 l2,xi_,BM s.heap l1,xj_,#[o,es,ep,E6! kp hf,r],xk_,λ_ e'=>e',xl_,[z,TI,TO,i1,i2],xm_,λc o _ _ _ e _=>e,xn_,λc o hc e n=>?_,xo_,(λc xs e=>by rw[n6!];exact e),xp_,λc ps e=>Cr! n6! e,xq_,(λd q=>by rw[n6_];exact q),xr_,bootBuiltins "zip"=ψ n1_,xs_,starEach [b] X.env,xt_,#[_,vt,xG b5_],xu_,[.tup dM_,.tup cE!],xv_,#[_,UV,qE b5_],xw_,cE ha.ok (cE G.ok eB da) hs,xx_,(λx y H Q=>Qw (λi j=>.bl hJ!) x y H Q\/∃i j,x=.str i/\y=.str j/\Q vs_ H),xy_,Fd Mt P w KF mg base N x ak_ ag ah A outer s H E,xA_,W.fnOf x x ik_ aA_ ak_ .none kV bn pm an ah ct,xB_,W.codeIn KF ah x=τ,xC_,(n::r).map D.int,xD_,δ->Ac->ν,xE_,(λz=>by simp at z),xF_,(by rw[show i+(j+1)=i+1+j by omega];exact hp),xG_,(show i+(ds.length+1)=i+1+ds.length by omega),xH_,fs.map V.ref,xI_,[jp_,a,b,.str s],xJ_,(λxs H Q=>(∃i,xs=[ck_]/\cp!<1920/\Q lS! H)\/∃z,xs=[.str z]/\Q (.str z) H),xK_,λ_=>#[_,by push_cast,#[_,_,χ,b1,b2,b3,b4]],xL_,(by delta big;omega),xM_,.lst (.str "root"::ys),xN_,Builtin.Str.occurrences z y 0 z.length js!,xO_,.Attribute o "split" be,xP_,ψ (EL! xI_),xQ_,Kp bad fr O h2,xR_,∀h' T,h_<=T->Bs! h' gt!->B6_ [e]->Be_ a0_->Q () {s with heap:=h'},xS_,[υ,ψ cp_,ψ l4_],xT_,wpAny_frameOf_fun dc hl hf λO so=>?_,xU_,GY ?_ (BT_ ao.sizeOk5 _),xV_,[ψ cp_,bb!,ψ l4_],xW_,(by rw[s1];exact FF _),xX_,#[λb o G zp eb=>?_,λb o G eb=>?_,λb o eb=>?_,by rw[JC,IN,s1];exact KL _],xY_,#[sl,db b _ (λz=>pj (z▸G)) kq],xZ_,List.mem_of_mem_take h,x0_,#[_,db b _ (CS! he hd) kq,χ],x1_,[R_,am!,as!,bb!,υ,υ,υ,υ,υ,υ,υ,υ],x2_,[R_,am!,as!,bb!,bI_,b7_,cL_,ψ nz,gu!,ψ jm!,υ,υ],x3_,Obj.mapFields (·.setIfInBounds 3 bu_),x4_,cutL its υ X_,x5_,HS (HP j6 _),x6_,db b (CS! ht j6),x7_,s.heap.FunFrames base l,x8_,fo.elim Value.none λf=>rawInt f,x9_,T∈bad\/h_<=T,xz_,Gs K mg ζ]
def z'y:String:=z [ye!,W.Frag,ya!,[Hl ns,.int base,.lst ops,.int most],yb!,.tup [oa_,item,.int (m0 / 12%4),.int (m0 / 48%2000 - 1000)],yc!,#[_,τ,χ,χ,xK_],yd!,(if H_+1<=big then _ else υ)=_,yf!,(es.all λe=>match e.key with|.str _ _=>τ|_=>θ),yg!,#[a0!,λy hy=>EW _ (this.2 y hy)],yh!,xJ (a0u c _ _),yi!,.Call jA! [ex] [] aj,yj!,Cz 1 g E f8!,yk!,(by simp[sizeLine]),yl!,Dp 46 (bq_+1) w,ym!,h.get? a=ψ o,yn!,λb ps q=>?_,yo!,λc v _ z=>z,yp!,Sl X.base X.prog X.w,yq!,ψ (Ni ws),yr!,compEnvC scope cl C X.env,ys!,D.lst (CO_ a1! X_),yt!,cutL ws X_ bR!,yu!,(Bp! ws bR!).map W,yv!,wpR M A m Q E s,yw!,cutL ws aG! υ,yx!,(λr s'=>match r with|.ok (.ret v)=>Q v s'|.ok _=>False|.error e=>E e s'),yy!,[jE!,gy_,ψ op],yz!,#[hq,ih m hm hI],yA!,.call f #[vs,[]],yB!,[AW! gC!],yC!,(by simp[ha,G]),yD!,[intC a,intC b],yE!,μ (Str×Expr),yF!,(∀b o,h.get? b=ψ o->Ab_ b=ψ o),yG!,.tup [h,n,tm],yH!,λz=>z.elim eK_ λz=>n2 z.1,yI!,(by rw[z];decide),yJ!,∀(w:World) (h:Heap),YP w h->Fu! h,yK!,[Da! Sw],yL!,λ_=>Q .next,yM!,starEach args env,yN!,(intC h::intC n::intC tm::cO_::p.map wordC),yO!,(cO_::r.map wordC),yP!,h Z s U H D I q,yQ!,wpR M A (k ()) Q E s,yR!,λv σ h₁=>?_,yS!,backTo pos (FI! env),yT!,(θ||(yS!).any q!),yU!,backTo pos (oN!::FI! env),yV!,(show v=.none from hx),yW!,MJ hT KG.lookup ?_,yX!,(by simpa using c),yY!,List.filter_cons_of_neg yX!,yZ!,s.heap.get? d=ψ o,y0!,dictWalkPlain d u cQ! es jO_,y1!,λe=>hh (by rw[q3,e];simp),y2!,Str.ofString "taken",y3!,(qZ! "taken",.fn ta),y4!,Str.ofString "outline",y5!,(by rw[<-e];exact q1),y6!,tG aQ_ (hA.nob hM1) (bD (fV o)) (a0h hA),y7!,ES (zI hu hk λtk=>ES y6_),y8!,[Y_,ψ jL!],y9!,(by rw[fH,FE hk])]
def z'yy:String:=z [yb_,.set oa a! a! a!,yc_,.lst (ys++gu_),yd_,#[_,_,χ,J!,J!,n!,n!],yf_,#[c0,d1,.cls cd,sl],yg_,UZ (λu hu=>ih hu) hv,yh_,[(θ,eval ex X.env)],yi_,λ_ U H=>te U H λ_ H1=>R os_ H1,yj_,evalArgs m_ τ yh_ [],yk_,Addr->Shared->Hp->μ Addr->Value->Shared->ν,yl_,(by show 1≠0;decide),ym_,λb xs q=>?_,yn_,(by rw[JG,FV,FV];exact h2),yo_,.lst [.str a],yp_,.lst [.str b],yq_,Hx X scope cl C N ae au fp,yr_,.lst ((ws.take 1).map W),ys_,decide (ws.take 1=[Eu]),yt_,hw v (gU hv),yu_,β->Shared->ν,yv_,cutL ws υ aG!,yw_,h≠ψ byPass,yx_,(by intro x;cases x),yy_,mono (g9 n s h) (λak s' hf=>?_) λ_ _ h'=>h',yz_,.builtin "claim.caller" {},yA_,(∀i∈is,N_<10 ^ 61),yB_,.lst ((dA_).map W),yC_,(by simp[ha,G,hc]),yD_,[intC a,intC b,intC c],yE_,classAt s₀.heap,yF_,s.heap.nsMap mainGlobals,yG_,λq=>#[namesKept_of TH hg _ keeps g.2.1.old,noTable TC q],yH_,(by rw[EX];exact hl),yI_,Params->W.Frag,yJ_,(∀(s:Shared) (u:Value),Hq_ x),yK_,Qz h n tm k r,yL_,h Γ _ bz hC,yM_,.func body env,yN_,(.int h::.int n::.int tm::.str k::(p++[l]):μ D),yO_,#[dl_,dl_],yP_,(∀i∈is,N_<10 ^ 4),yQ_,λa σ h₁=>eV ?_,yR_,starEach (e::rest) env=oN!::FI! env,yS_,(yS!).any q!=θ,yT_,∀a,k' (f a)=k a,yU_,fF d0! λus s1 ⟨vs,H1,I1,r,q⟩=>sS!,yV_,#[χ,hg _ hK],yW_,Pk ft ρ M θ,yX_,List.filter_cons_of_pos yX!,yY_,Ms P w s.heap es ks,yZ_,o.data=Fi_ es,y0_,(by simpa using am),y1_,Str.ofString "ours",y2_,Str.ofString "waiting",y3_,ks[i]?=ψ k',y4_,bq=υ/\rest.find? cP_=Kf ks k,y5_,bD (d:=.lst []) χ,y6_,uH hu x hk ho hd ?_,y7_,.int (lt S h),y8_,aE_<=sizeLine,y9_,dictSet a u v,ya_,ψ (excClassObj nm q C N bs ζ hdct sn sub ab col dd k0 k1 k2 k3 k5 "ValueError.__new__"),ye_,False.elim ζ]
def z'z:String:=z [za!,xT X Z D rX_,zb!,bD (d:=.int 2) χ,zc!,.obj t.B2 jP_,zd!,(by show _<100;simp),ze!,(by rw[hp];simp),zf!,hF yy ta wa bd,zg!,(by show 4<100;decide),zh!,bC λz=>ho em!,zi!,.ins C dx vs,zj!,Gq P w KF hb H a c,zk!,MR P w KF M' G' H',zl!,Vz X.prog X.w X.K own f,zm!,∀U hb H Q ρ M R,Gt! H->F1! ft->(∀d M' G' H',R d M'->XM M hb H M' G' H'->MR X.prog X.w X.K M' G' H'->Q d H')->t U H Q,zn!,Am.cons cb! q2,zo!,ρ[i]?=ψ bo_,zp!,Pn (gN i g0),zq!,#[_,χ,k _ M' G' H' r' x' m'],zr!,k _ M1 G1 H1 r1 x1 m1,zs!,Cq.laid x1.sub hp,zt!,.dct (jb.map λo=>o9_) jd,zu!,decide (x≠o),zv!,#[#[o,q o z1,z2,z3],z4],zw!,∀de s',GI_ j4!->qS_ Gq hb j4! a zv_->Q () s',zx!,X.mg xf=ψ ad!,zy!,λb G=>HD_ (eH G h0) (fr b G),zz!,.builtin "dict.get",zA!,∀o∈Wt,Es o,zB!,ES (NY hT K_),zC!,rN a! I m sub e #[_,r,rx] hk λs' I'=>EV #[.bl _,H,I',χ,q],zD!,bD (d:=ay_) χ,zE!,QZ.mem_iff.mp ho,zF!,x1.trans cX! m1,zG!,(.int o.n::.int o.tm::.str k::r:μ D),zH!,(zG!).map wordC,zI!,λx hx e=>?_,zJ!,G.run I2 ((ka!).grow x2 m2) r2 λz M3 zv G3 H3 jv s3 r3 x3 m3 q3 I3 rz=>JM ?_,zK!,#[yv,q2.mono x3.g,ry],zL!,(bt!).trans x3 m2,zM!,λj hj p e=>?_,zN!,λd M' v G' H' r x m q=>k1 _ M' G' _ H' r ((ke!).set dr q),zO!,.obj C (Im x y fs),zP!,sr.grow x1 m1,zQ!,(∃dn,BX_ cd_ []=ψ dn/\Wv S dn=τ),zR!,.Subscript o i p2,zS!,gZ aQ_ hA.ob hF3,zT!,iD (ρ:=cT_) gM_ zS_ (uE (o:=o) hA),zU!,decide (o∈Wt),zV!,.inr (s.noF z),zW!,Ja fi bnd q1,zX!,#[e_ - bq!,n!,ax,χ,G2,br,M2,O,h3],zY!,λd M4 v G4 H4 r4 x4 m4 q4=>k2 d M4 v G4 H4 r4 (jo.unx x4) m4 q4,zZ!,#[e_,GT _,χ,G1,M1,[],.refl er.or.sub,er,Am.nil,GT _,e],z0!,#[kz,ez.mr,av!],z1!,bc.trans x4 m3,z2!,J.length<=1000,z3!,λr M2=>R (ws++[y]++r) M2,z4!,∀cl C ae au fp,ME bD_ [] c7 fe,z5!,#[z4_,m1,av!],z6!,if b=τ then A else B,z7!,λd M1 v G1 H1 r1 x1 m1 q1=>?_,z8!,[ay_,W J,b7!],z9!,λρ' M' G' ac H' r sr=>kk _ M' _ G' H' r sr.x sr.st.mr Bc.non]
def z'zz:String:=z [za_,a0s ho hc hd (BE! Ws),zb_,.obj t.B2 [eO!],zc_,Uk ac ie ix v,zd_,.obj t.B2 jQ!,ze_,.lst ((bs!).map Op.v++bd!),zf_,(by rw[gq,i1];rfl),zg_,λb G ho=>?_,zh_,[(.int o.h,.fn q)],zi_,.dct (jQ_++zh_) cS_,zj_,MR P w KF M1 G1 H1,zk_,μ D->Mh->ν,zl_,#[by rintro Z s U H Q I ⟨hb,ρ,M,R,st,e,k⟩;exact Hi! h o7!],zm_,#[_,by assumption,h],zn_,Qb X.prog X.w X.K own hb H U ρ M,zp_,x.h=o.h/\x.n=o.n,zq_,#[G1,ρ,M1,R,o9!,r1,λd M2 G2 H2 r2 x2 m2=>k d M2 G2 H2 r2 bt! m2],zr_,λo ho=>(CH! ho),zs_,#[O,h2.mono (By.refl hb) (aH G)],zt_,[Y_,eR_,aG_,az!,y4,y5],zu_,λO h2 z q=>?_,zv_,.dct o1_ (Tv h1 d ep),zw_,FE (show o.n<=nh S o.h from c),zx_,#[_,χ,GP h],zy_,(∀b,M0 b≠υ->M b=M0 b),zz_,#[o,χ,h ho],zA_,upd H a (dE a de cS_),zB_,Er KF H p ys\/DT! p,zC_,[Y_,aG_,ψ eP!,j1_,ψ gK!],zD_,lS.mpr #[A7_ Prod.fst e,A7_ Prod.snd e],zE_,Sk X.prog X.w X.K r g,zF_,#[ys,z,χ],zG_,.dct q.2.1 q.2.2,zH_,mup M2 q.1 (.lst (q.2++[v])),zI_,.Attribute o "get" be,zJ_,(cb!).mono x3.g,zK_,#[zv,q3,rz],zL_,o.nm∉Gb! Op.nm,zM_,λd M' v G' H' r x m q=>D6! k2 r pk! m q,zN_,λd M' v G' H' r x m q=>k1 ρ M' G' U H' r ke!,zO_,mup M2 p zO!,zP_,(zP!).grow x2 m2,zQ_,[Y_,qX_ bd!],zR_,.write m3 x3.sub hM,zS_,bD (f:=Aa 1) χ,zT_,o.tm>lt S o.h,zU_,fM (hw x hx).dg,zV_,FS.mpr (by omega:pn_≠8),zW_,λf9 H2=>∃G2 br M2,qS_ Ih own M1 G1 cY! M2 G2 H2 f9 br/\Md bnd ck q1 (Ez_ bq!) br M2 R,zX_,λuz M4 G4 TQ H4 r4 u0=>#[G4,uz,M4,u0,r4],zY_,Js bnd ck ft fe j0 ds M1 R,zZ_,d7.mr.ext x2,z0_,λb M3 G3 H3 r3 x3 m3=>?_,z1_,(jk.grow x4 m4).or.le m7,z2_,cR vM! (BB_ q4),z3_,∀cl C ae au fp,FT_ pr_,z4_,je.or.cap NL.length ix gk,z5_,(CC! x).trans pt! m,z6_,λd M2 v G2 H2 r2 x2 m2 q2=>k d M2 v G2 H2 r2 bt! m2 q2,z7_,[bn_,b1_,cB!],z8_,mup M1 x (.obj C []),z9_,λd M' v G' H' r x m q=>D6! kk r x m q,zo_,λhr _=>(aN (aZ ζ))]
end
def z'L(t:String):List String:=let c:=t.back;if c=='!'||c=='_'||"ψχυτθινμξοδ".contains c then (let b:=c=='!';if t.length<3 then if b then z'0 else z'00 else match t.front with|'a'=>if b then z'a else z'aa|'b'=>if b then z'b else z'bb|'c'=>if b then z'c else z'cc|'d'=>if b then z'd else z'dd|'e'=>if b then z'e else z'ee|'f'=>if b then z'f else z'ff|'g'=>if b then z'g else z'gg|'h'=>if b then z'h else z'hh|'i'=>if b then z'i else z'ii|'j'=>if b then z'j else z'jj|'k'=>if b then z'k else z'kk|'l'=>if b then z'l else z'll|'m'=>if b then z'm else z'mm|'n'=>if b then z'n else z'nn|'o'=>if b then z'o else z'oo|'p'=>if b then z'p else z'pp|'q'=>if b then z'q else z'qq|'r'=>if b then z'r else z'rr|'s'=>if b then z's else z'ss|'t'=>if b then z't else z'tt|'u'=>if b then z'u else z'uu|'v'=>if b then z'v else z'vv|'w'=>if b then z'w else z'ww|'x'=>if b then z'x else z'xx|'y'=>if b then z'y else z'yy|'z'=>if b then z'z else z'zz|_=>if b then z'0 else z'00).splitOn ("\r"++t++"\r") else []
open Lean in
def z'S(a:Array Syntax):Nat->Syntax->Syntax
|n+1,.node i k b=>.node i k (b.map (z'S a n))
|_,s=>let v:=s.getId;if v== `ζ then a[0]! else if v== `η then a[1]! else s
open Lean in
local macro_rules|`($s:ident)=>match s.getId with|.str .anonymous t=>(match z'L t with|[_,f]=>do return z'Z (.fromRef (<-getRef)) f|_=>Macro.throwUnsupported)|_=>Macro.throwUnsupported
open Lean in
local macro_rules(kind:=Lean.Parser.Term.app)|x=>match x[0].getId with|.str .anonymous t=>(match z'L t with|[_,f]=>do let g:=(f.takeWhile (·≠'\r')).toString;let p:=λs=>(g.splitOn s).length>1;let n:=if p "\niη\n" then 2 else if p "\niζ\n" then 1 else 0;let a:=x[1].getArgs;let s:=z'S a 999 (z'Z (.fromRef (<-getRef)) f);let r:=a.extract n a.size;let k:=``Parser.Term.app;return if a.size==n then s else .node .none k (if s.isOfKind k then #[s[0],mkNullNode (s[1].getArgs++r)] else #[s,mkNullNode r])|_=>Macro.throwUnsupported)|_=>Macro.throwUnsupported
open Lean in
local macro_rules|`(tactic|push_cast)=>`(tactic|show"pc!")|`(tactic|push_cast[$x,*])=>match z't't.splitOn "\rpc!\r" with|[_,f]=>do let s:=(z'Z (.fromRef (<-getRef)) f)[1][1][0][0][0];return s.setArg 4 (s[4].setArg 1 (mkNullNode (s[4][1].getArgs.push (mkAtom ",")++x.elemsAndSeps)))|_=>Macro.throwUnsupported
open Lean in
local macro_rules|`(tactic|show$s:str)=>match z't't.splitOn ("\r"++s.getString++"\r") with|[_,f]=>do let q:=z'Z (.fromRef (<-getRef)) f;let q:TSyntax ``Lean.Parser.Tactic.tacticSeq:=⟨q[1][1]⟩;`(tactic|($q))|_=>Macro.throwUnsupported
set_option hygiene true
open Lean in
def z'P:Nat->Syntax->Syntax
|n+1,s=>let k:=s.getKind;if k== `«term#[_,]» then .node .none ``Parser.Tactic.rcasesPat.tuple #[mkAtom "⟨",.node .none `null (s[1].getArgs.mapIdx λi x=>if i%2==1 then x else .node .none ``Parser.Tactic.rcasesPatLo #[.node .none ``Parser.Tactic.rcasesPatMed #[.node .none `null #[z'P n x]],.node .none `null #[]]),mkAtom "⟩"] else if s.isIdent then .node .none ``Parser.Tactic.rcasesPat.one #[s] else if k==``Parser.Term.hole then .node .none ``Parser.Tactic.rcasesPat.ignore #[mkAtom "_"] else s
|_,s=>s
open Lean in
local macro_rules(kind:=Lean.Parser.Command.declaration)|x=>if x.getPos?.isNone||x[1].isOfKind ``Parser.Command.theorem then Macro.throwUnsupported else let m:=(x[0].reprint.getD "").trimAscii.toString;let p:=m=="protected"||(x.find? (·.isOfKind ``Parser.Tactic.renameI)).isSome;let N:=z'N (!p) 9999;let k:=N x[1];let u:=match k[1][0].getId with|.str _ s=>s.front.isUpper|_=>false;match k.isOfKind ``Parser.Command.definition&&(m=="protected"||m==""||m=="nonrec"),u||m=="nonrec" with|true,false=>do let d<-`(theorem $(⟨k[1]⟩):declId $(⟨.node .none ``Parser.Command.declSig #[k[2][0],k[2][1][0]]⟩):declSig $(⟨k[3]⟩):declVal);if p then return N (<-`(set_option tactic.hygienic true in $d:command)) else return N d|true,_=>do return N (<-`(noncomputable def $(⟨k[1]⟩):declId $(⟨k[2]⟩):optDeclSig $(⟨k[3]⟩):declVal))|_,_=>return N x
open Lean in
local macro_rules|`(universe $x*)=>do let p:=`PySem.Challenge;let c:=p.str "cw_manyhands_k31_not_saved_holds";return mkNullNode (<-(p.str "pw_manyhands_k31_not_saved"::x.toList.map (λi=>c.str i.getId.toString)++(List.range 433).map λn=>c.str s!"o_{n+43}").toArray.mapM λn=>do return z'N false 99 (<-`(noncomputable def $(mkIdent (PySem.W.Fast.stemOf n).1):ident:=0)))
universe env_41 heap_39 heap_46 heap_476 sts_109 sts_152 sts_208 sts_240 sts_298 sts_379 sts_464 sts_49 sts_64 sts_79 sts_94 tree_108 tree_151 tree_207 tree_237 tree_297 tree_378 tree_463 tree_47 tree_475 tree_63 tree_78 tree_93 view_39
local macro_rules|`(tactic|omega)=>`(tactic|first|lia|omega +splitDisjunctions)
theorem z'Hd{G:Prop}(h:∀g:Prop,(G->g)->g):G:=h G λx=>x
set_option hygiene false in
local macro_rules|`(tactic|obtain $p:rcasesPatMed:=$e:term)=>do let s:=p.raw.reprint.getD "";if (s.splitOn ",").length>2+(s.splitOn "rfl").length then `(tactic|first|(refine z'Hd λz'g z'k=>?_;rcases $e:term with $p:rcasesPatMed<;>refine z'k ?_<;>clear z'g z'k)|rcases $e:term with $p:rcasesPatMed) else `(tactic|rcases $e:term with $p:rcasesPatMed)
open Lean in
local macro_rules|`(tactic|rintro $x:rintroPat*)=>let l:=x.back!.raw[0];let p:TSyntax `rcasesPat:=⟨l⟩;if l.isOfKind ``Parser.Tactic.rcasesPat.tuple&&((l.reprint.getD "").splitOn ",").length>3 then `(tactic|(rintro $(x.pop):rintroPat* z';obtain $p:rcasesPat:=z')) else Macro.throwUnsupported
set_option hygiene false in
local macro_rules|`(tactic|rcases $x:term)=>`(tactic|first|exact d5p $x rfl|exact cne $x rfl|exact d5r $x rfl|exact d5q $x rfl|obtain rfl:=Option.some.inj $x|subst $x)
set_option tactic.hygienic false
open Lean in
local macro_rules(kind:=Lean.Parser.Tactic.tacticLet__)|x=>let d:=x[2][0];if x[1][0].getNumArgs>0 then Macro.throwUnsupported else if d.isOfKind ``Parser.Term.letPatDecl then let q:TSyntax `rcasesPat:=⟨z'P 99 d[0]⟩;let e:TSyntax `term:=⟨d[4]⟩;`(tactic|obtain $q:rcasesPat:=$e) else return .node .none ``Parser.Tactic.tacticHave__ #[mkAtom "have",x[1],x[2]]
local macro_rules|`(#[$y,$x,*])=>`(⟨$y,$x,*⟩)|`(#[$y])=>`(⟨$y⟩)
local macro_rules|`(tactic|exact $t)=>`(tactic|refine $t)
local macro_rules|`(tactic|delta $x* $[$l]?)=>`(tactic|unfold $x* $[$l]?)
local macro_rules|`(tactic|simp![$x,*]$[$l:location]?)=>`(tactic|simp only[$x,*]$[$l:location]?)
noncomputable section
namespace L2
def d5p{P:ν}{x y:wY_ α}(h:x=y)(e:(x.isSome==y.isSome)=θ):P:=by subst h;rw[JJ]at e;cases e
def d5r{P:ν}{x y:Bool}(h:x=y)(e:(x==y)=θ):P:=by subst h;rw[JJ]at e;cases e
def d5q{P:ν}{x y:A_}(h:x=y)(e:(x.isEmpty==y.isEmpty)=θ):P:=by subst h;rw[JJ]at e;cases e
open PySem PySem.Spec PyProof.Rows
abbrev Key:=Sum Int Str
def Pb:Key->Value->Bool
 |.inl k,v=>Value.isInt k v
 |.inr x,v=>Value.isStrOf x v
def AQ(w:wY!):Key->Int
 |.inl k=>hashInt k
 |.inr x=>hashStr w x
def bG:∀{k:Key} {v:wX!},Pb k v=τ->(∃i t,k=Sum.inl i/\v=Value.int i t)\/(∃x t,k=Sum.inr x/\v=Value.str x t)
 |.inl i,v,h=>by
  let#[t,e]:=Value.isInt_shape (k:=i) (v:=v) h;exact .inl #[i,t,χ,e]
 |.inr x,v,h=>by
  let#[t,e]:=Value.isStrOf_shape (x:=x) (v:=v) h;exact .inr #[x,t,χ,e]
def wY(i:Int)(t:Tok):Pb (.inl i) c0!=true:=by simp[Pb,Value.isInt]
def pX(x:Str)(t:Tok):Pb (.inr x) e1!=true:=by simp[Pb,Value.isStrOf]
def d0x(a b:Int):decide (kw!=Sum.inl b)=c0_:=by
 by_cases e:a=b
 .subst e;simp
 .let h:¬kw!=Sum.inl b:=λq=>e (Sum.inl.inj q);rw[FA h];exact(FS.mpr e).symm
def d0t(a b:Str):decide (kw_=Fi! b)=decide (a=b):=by
 by_cases e:a=b
 .subst e;simp
 .let h:¬kw_=Sum.inr b:=λq=>e (Sum.inr.inj q);rw[FA h,FA e]
def d0w(a:Int)(b:Str):decide (kw!=Fi! b)=false:=FA pO_
def d0u(a:Str)(b:Int):decide (kw_=Sum.inl b)=false:=FA pO_
nonrec def mixKind(prog:xz!)(w:wY!):PySem.KeyKind prog w Key where
 is:=Pb
 hash:=AQ w
 inj:=λv a b ha G=>by
  obtain⟨i,t,rfl,rfl⟩|⟨x,t,rfl,rfl⟩:=bG ha
  .obtain⟨j,u,rfl,e⟩|⟨y,u,rfl,e⟩:=bG G
   .injection e with e1 _;rw[e1]
   .exact ky!
  .obtain⟨j,u,rfl,e⟩|⟨y,u,rfl,e⟩:=bG G
   .exact ky!
   .injection e with e1 _;rw[e1]
 byValue:=λk v h=>by
  obtain⟨i,t,rfl,rfl⟩|⟨x,t,rfl,rfl⟩:=bG h<;>rfl
 pyHash:=λhv h=>by
  obtain⟨i,t,rfl,rfl⟩|⟨x,t,rfl,rfl⟩:=bG hv
  .exact wpAny_pyHash_int h
  .exact wpAny_pyHash_str h
 eqBool:=λhu hv h=>by
  obtain⟨i,t,rfl,rfl⟩|⟨x,t,rfl,rfl⟩:=bG hu
  .obtain⟨j,u,rfl,rfl⟩|⟨y,u,rfl,rfl⟩:=bG hv
   .rw[d0x]at h;exact wpAny_eqBool_int h
   .rw[d0w]at h;exact SeqAt.EqAt.int_str i t y u _ _ _ _ h
  .obtain⟨j,u,rfl,rfl⟩|⟨y,u,rfl,rfl⟩:=bG hv
   .rw[d0u]at h;exact SeqAt.EqAt.str_int x t j u _ _ _ _ h
   .rw[d0t]at h;exact wpAny_eqBool_str h
 «strs»:=λk x t v h=>by
  obtain⟨i,u,rfl,e⟩|⟨y,u,rfl,e⟩:=bG h
  .exact ky!
  .injection e with e1 _
   subst e1;cases v<;>rfl
def a3k(prog:xz!)(w:wY!)(i:Int)(t:Tok):(pP!).is (.inl i) c0!=true:=wY i t
def kA(prog:xz!)(w:wY!)(x:Str)(t:Tok):(pP!).is (.inr x) e1!=true:=pX x t
inductive V where
 |non|bl (b:Bool)|int (i:Int)|str (x:Str)|byt (b:Array UInt8)|flt (b:UInt64)|ref (a:uv!)|ty (n:String)
 deriving DecidableEq
def Cf:V->Value->ν
 |.non,u=>u=bu_
 |.bl b,u=>u=Value.bool b
 |.int i,u=>∃t,u=Value.int i t
 |.str x,u=>∃t,u=Value.str x t
 |.byt b,u=>∃t,u=Value.bytes b t
 |.flt b,u=>∃t,u=Value.float b t
 |.ref a,u=>u=Er_ a
 |.ty n,u=>u=DR! n
abbrev Bp:μ V->μ Value->Prop:=B7! Cf
def Bp.length(r:dL!):h!=am_:=MC r
def Bp.get:∀{xs:l_} {us:k_} {i:δ} {x:V},Bp xs us->xs[i]?=ψ x->∃u,us[i]?=ψ u/\Cf x u
 |_,_,_,_,.nil,e=>by simp at e
 |_,_,0,_,.cons r _,e=>by simp at e;subst e;exact kz!
 |_,_,i+1,x,.cons _ t,e=>by
  let#[u,O,h2]:=Bp.get (i:=i) (x:=x) t cf!;exact pP_
def Bp.set(r:Cf x u):∀{xs:l_} {us:k_} (i:δ),Bp xs us->Bp (xs.set i x) (us.set i u)
 |_,_,_,.nil=>.nil
 |_,_,0,.cons _ t=>.cons r t
 |_,_,i+1,.cons q t=>.cons q (Bp.set r i t)
def Bp.append(h:dL!)(s:Bp ys ws):Bp dL_ (us++ws):=by
 induction h with
 |nil=>exact s
 |cons r _ ih=>exact DB_ r
def Bp.take:∀{xs:l_} {us:k_} (n:δ),Bp xs us->Bp (xs.take n) (us.take n)
 |_,_,0,_=>.nil
 |_,_,_+1,.nil=>.nil
 |_,_,n+1,.cons r t=>.cons r (Bp.take n t)
def Bp.drop:∀{xs:l_} {us:k_} (n:δ),Bp xs us->Bp (xs.drop n) (us.drop n)
 |_,_,0,r=>r
 |_,_,_+1,.nil=>.nil
 |_,_,n+1,.cons _ t=>Bp.drop n t
def Kz:ι V->wY_ Value->ν
 |some v,some u=>Cf v u
 |none,none=>True
 |_,_=>False
def KV:Ge! κ V->Ge! κ Value->Prop:=Paired λ(p:κ×V) (q:κ×Value)=>p.1=q.1/\Cf p.2 q.2
nonrec def kV:Key->V
 |.inl i=>.int i
 |.inr x=>.str x
inductive HO where
 |lst (xs:l_)
 |tup (xs:l_)
 |dK (h1:Ge! Key V)|dT (h1:μ kB!)
 |set (S:Int->Bool) (n:δ)
 |ins (C dx:uv!) (fs:μ cf_)
 |own (x:uv!)
 |xd (fs:μ cf_)
 |met (f x:uv!)
 |rng (lo hi:Int)
 |frz (o:Obj) (u:HO)
 |tbl (ps:Z!)
 |ext (φ:e3!)
abbrev Hp:=Addr->wY_ HO
nonrec def upd(H:Hp)(a:uv!)(o:HO):Hp:=λb=>if b=a then ψ o else H b
def aV:HV! o a=ψ o:=by delta upd;rw[S!]
def aH(h:b≠a):HV! o b=H b:=by delta upd;rw[FC h]
def d4f{H:Hp}{a:uv!}{o u:HO}:upd bf! a u=upd H a u:=by funext b;delta upd;split<;>rfl
def aU{H:Hp}(h:H a=ψ o)(h':H b=υ):a≠b:=by intro e;subst e;rw[h]at h';rcases h'
section
variable(P:xz!)(w:wY!)
def Dv(H:Hp)(h:Heap)(a:uv!):HO->ν
 |.lst xs=>h!<=sizeLine/\∃(its:k_) (n:δ),E5_ xs/\h.get? a=ψ {cls:=.type "list",data:=Bk! n}
 |.tup xs=>h!<=sizeLine/\∃its:List Value,E5_ xs/\IsTup h a aH_
 |.dK h1=>bN_<=sizeLine/\cg!=θ/\∃vs,KV h1 vs/\h.DictOf a2_ a vs
 |.dT h1=>bN_<=sizeLine/\cg!=θ/\∃xs:List kC!,
   Paired (λ(p:List Key×V) (q:List Key×Addr×Value)=>p.1=q.1/\H q.2.1=ψ pS_/\Cf p.2 q.2.2) h1 xs/\
   ∃o es ep,h.get? a=ψ o/\g6_/\o.data=Fi_ es/\es.toList=xs.map (entryOfKey e3_)/\(xs.map q!).Nodup
 |.set S n=>h.SetOf (intKind P w) a S n
 |.ins C dx fs=>H dx=ψ e4!/\aT!<=1000/\dx≠a/\h.get? a=ψ kD!/\
   ∃mA,h.Ns1 dx mA/\pU!/\Es! kD_
 |.own _=>∃o,h.get? a=ψ o
 |.xd fs=>∃mA,h.Ns1 a mA/\∀f,Kz (BB! f) (mA f)
 |.rng lo hi=>∃t u v,h.get? a=ψ {cls:=.type "range",data:=AP_ t}
 |.frz o u=>h.get? a=ψ o/\Dv H h a u
 |.tbl ps=>h.get? a=ψ {cls:=.none,data:=Bw_ ps}
 |.met f x=>h.get? a=ψ (W.methodObj ad! bf_)
 |.ext φ=>φ h/\(∃o,h.get? a=ψ o)/\∀O h2:Heap,φ O->(∀o,O.get? a=ψ o->h2.get? a=ψ o)->φ h2
def Hw(H:Hp)(h:Heap):Prop:=∀a o,H a=ψ o->DR_ a o
end
section
variable{P:xz!}{w:wY!}{H H':Hp}{h h':Heap}{a:uv!}{o:HO}
def Dv.lt(x:kE!):a<C!:=by
 cases o with
 |lst xs=>let#[_,_,_,_,e]:=x;exact FK e
 |tup xs=>let#[_,_,_,p]:=x;exact p.lt
 |dK h1=>let#[_,_,_,_,o,_,_,e,_]:=x;exact FK e
 |dT h1=>let#[_,_,_,_,o,_,_,e,_]:=x;exact FK e
 |set S n=>let#[o,_,_,_,e,_]:=x;exact FK e
 |ins C dx fs=>let#[_,_,_,e,_]:=x;exact FK e
 |own y=>let#[_,e]:=x;exact FK e
 |xd fs=>let#[_,#[_,_,_,e,_],_]:=x;exact FK e
 |rng lo hi=>let#[_,_,_,e]:=x;exact FK e
 |frz ob u=>let#[e,_]:=x;exact FK e
 |tbl ps=>exact FK g7!
 |met f y=>exact FK g7!
 |ext φ=>let#[_,#[_,e],_]:=x;exact FK e
def Paired.mapP{F hb:α->β->ν}(h:DC! VC VE)(f:∀a b,F a b->hb a b):B7! hb VC VE:=by
 induction h with
 |nil=>exact .nil
 |cons r _ ih=>exact DB_ (f _ _ r)
def Dv.stay(x:kE!)(k:∀b u,(b=a\/H b=ψ e4!)->h.get? b=ψ u->Ab_ b=ψ u)
  (ho:∀b,H b=ψ e4!->H' b=ψ e4!)(ht:pW!):FP! H' a o:=by
 induction o with
 |lst xs=>let#[z,its,n,r,e]:=x;exact#[z,its,n,r,bg!]
 |tup xs=>let#[z,its,r,ob,e,c]:=x;exact#[z,its,r,ob,bg!,c]
 |dK h1=>let#[z,y,vs,r,ob,es,ep,e,c]:=x;exact#[z,y,vs,r,ob,es,ep,bg!,c]
 |dT h1=>
  let#[z,y,xs,r,ob,es,ep,e,c]:=x;exact#[z,y,xs,Paired.mapP r λp q z=>#[z.1,ht _ _ z.2.1,z.2.2],ob,es,ep,bg!,c]
 |set S n=>let#[ob,es,ep,t,e,c]:=x;exact#[ob,es,ep,t,bg!,c]
 |ins C dx fs=>
  let#[d,z,ne,e,mA,#[od,es,ep,e2,c],r]:=x;exact#[ho _ d,z,ne,bg!,mA,#[od,es,ep,k _ _ (.inr d) e2,c],r]
 |own y=>let#[ob,e]:=x;exact#[ob,bg!]
 |xd fs=>let#[mA,#[od,es,ep,e,c],r]:=x;exact#[mA,#[od,es,ep,bg!,c],r]
 |rng lo hi=>let#[t,u,v,e]:=x;exact#[t,u,v,bg!]
 |frz ob u ih=>let#[e,q]:=x;exact#[bg!,ih q]
 |tbl ps=>
  let e:h.get? a=ψ {cls:=.none,data:=Bw_ ps}:=x;show Ab_ a=ψ {cls:=.none,data:=Bw_ ps};exact k a _ q_ e
 |met f y=>
  let e:h.get? a=ψ pX!:=x;show Ab_ a=ψ pX!;exact k a _ q_ e
 |ext φ=>let#[p,#[o,e],st]:=x;exact#[st _ _ p λo q=>k _ _ q_ q,#[o,bg!],st]
def Hw.lt(x:aI_)(e:H a=ψ o):a<C!:=(x a o e).lt
def Hw.fresh(x:aI_)(e:C!<=a):H a=none:=by
 cases q:H a with
 |none=>rfl
 |some u=>exact Gx_ (x.lt q) e
def Hw.kept(x:aI_)(k:g9!):FP_ H:=λa o e=>
 (x a o e).stay (λb u _ q=>k b u q) e5_ λ_ _ q=>q
def Hw.laid(x:aI_)(k:g9!)(hp:C!<=a)(new:FP! bf! a o):FP_ bf!:=λb u e=>by
 let hn:=x.fresh hp;show"#B"
 .show"!x";exact new
 .rw[aH G]at e;exact(x b u e).stay (λc v _ q=>k c v q) (λc q=>by rw[cg_];exact q) λc xs q=>by rw[cg_];exact q
end
def Rd(H:Hp)(a:uv!)(u:HO):Prop:=H a=ψ u\/∃o,H a=ψ e6_
def Rd.ok(r:Rd H a u)(x:aI_):DR_ a u:=by
 obtain r|⟨o,r⟩:=r
 .exact x a u r
 .let#[_,q]:=x a _ r;exact q
def Zh:wY_ HO->ν
 |some (.lst _)=>True
 |some (.dK _)=>True
 |some (.dT _)=>True
 |some (.set _ _)=>True
 |some (.ins _ _ _)=>True
 |some (.ext _)=>True
 |_=>False
section
variable{P:xz!}{w:wY!}{H:Hp}{h h':Heap}{x e:uv!}{o':HO}
def Hw.write(ok:aI_)(mu:Zh (H x))(he:kG!)(k:ha!)(mq:ha_)
  (new:FP! (upd H x o') x o'):FP_ (upd H x o'):=λb u q=>by
 let sw:∀c y,H c=ψ (.own y)->c≠x:=λc y r z=>by subst z;rw[r]at mu;exact mu
 let xz:∀c xs,H c=ψ aI!->c≠x:=λc xs r z=>by subst z;rw[r]at mu;exact mu
 by_cases G:b=x
 .subst G;rw[aV]at q;rcases q;exact new
 .rw[aH G]at q;by_cases g8:b=e
  .let q':H b=ψ g9_:=by
    obtain z|z:=he
    .exact Ac_ (g8.trans z) G
    .rw[g8];exact z
   rw[q]at q';rcases q';let#[v,hv]:=mq;exact#[v,by rw[g8];exact hv]
  .exact(ok b u q).stay (Dd! r) (λc r=>by rw[aH (sw c b r)];exact r) λc xs r=>by rw[aH (xz c xs r)];exact r
   obtain rfl|hc:=hc
   .exact g8
   .rintro rfl;obtain z|z:=he
    .exact sw c b hc z
    .rw[hc]at z;cases z;exact G χ
end
structure Un(fs ex:v!)(H H':Hp)(h h':Heap):Prop where
 keep:∀b o,h.get? b=ψ o->H b=υ->b∉fs->b∉ex->Ab_ b=ψ o
 slot:∀b o,h.get? b=ψ o->H b=υ->b∈fs->b∉ex->∃sl,Ab_ b=ψ {o with slots:=sl}
 free:∀b o,h.get? b=ψ o->H b=υ->b∉ex->H' b=υ
 there:∀b o,h.get? b=ψ o->b∉ex->∃o',Ab_ b=ψ o'
 tups:∀b xs,H b=ψ aI!->H' b=ψ aI!
 frzs:∀b o u,H b=ψ e6_->H' b=ψ e6_
 tbls:∀b ps,H b=ψ (.tbl ps)->∃qm,H' b=ψ p1!
section
variable{fs sx ex RY:List Addr}{H H1 H2:Hp}{h O h2 h':Heap}{a x e:uv!}{o:HO}
def Un.any(u:kH_)(q:h.get? b=ψ ob)(n:H b=υ)(hx:b∉ex):∃sl,O.get? b=ψ {ob with slots:=sl}:=by
 by_cases G:b∈fs
 .exact u.slot b ob q n G hx
 .exact#[ob.slots,u.keep b ob q n G hx]
def Un.trans(a:kH_)(b:Un fs ex H1 H2 O h2):B0! H2 h2 where
 keep:=λc ob q n hc hx=>b.keep c ob (a.keep c ob q n hc hx) kI! hc hx
 slot:=λc ob q n hc hx=>by
  let#[sl,e1]:=a.slot c ob q n hc hx;let#[ya,e2]:=b.slot c _ e1 kI! hc hx;exact#[ya,e2]
 free:=λc ob q n hx=>by
  let#[o',e1]:=a.there c ob q hx;exact b.free c o' e1 kI! hx
 there:=λc ob q hx=>by
  let#[o',e1]:=a.there c ob q hx;exact b.there c o' e1 hx
 tups:=λc xs q=>b.tups c xs (a.tups c xs q)
 frzs:=λc ob xs q=>b.frzs c ob xs (a.frzs c ob xs q)
 tbls:=λc ps q=>by
  let#[m1,e1]:=a.tbls c ps q;let#[m2,e2]:=b.tbls c _ e1;exact p2!
def Un.kept(k:g9!):B0! H h':=
 #[λb ob q _ _ _=>k b ob q,λb ob q _ _ _=>#[ob.slots,k b ob q],λ_ _ _ n _=>n,λb ob q _=>#[ob,k b ob q],λ_ _ q=>q,λ_ _ _ q=>q,λ_ ps q=>#[#[],by rw[q];simp]]
def Un.refl:B0! H h:=Un.kept λ_ _ q=>q
def Un.laid(k:g9!)(hp:C!<=a)(hn:e7_):B0! bf! h' where
 keep:=λb u q _ _ _=>k b u q
 slot:=λb u q _ _ _=>#[u.slots,k b u q]
 free:=λb u q n _=>by rw[aH (Ge_ (FK q) hp)];exact n
 there:=λb u q _=>#[u,k b u q]
 tups:=λb xs q=>by rw[cg_];exact q
 frzs:=λb u xs q=>by rw[cg_];exact q
 tbls:=λb ps q=>Cr! cg_ q
def Un.write(mu:Zh (H x))(he:kG!)(k:ha!)(mq:ha_):B0! kK! h':=by
 let hx:∀b,H b=υ->b≠x:=λb n z=>by subst z;rw[n]at mu;exact mu
 let G:∀b,H b=υ->b≠e:=λb n z=>by
  subst z;obtain r|r:=he
  .exact hx b n r
  .rw[n]at r;rcases r
 let hm:∀b u,H b=ψ u->¬Zh (ψ u)->b≠x:=λb u q nm z=>by subst z;rw[q]at mu;exact nm mu
 exact⟨λb u q n _ _=>k b u (G b n) q,λb u q n _ _=>#[u.slots,k b u (G b n) q],λb u q n _=>by rw[aH (hx b n)];exact n,λb u q _=>?_,
  λb xs q=>by rw[kK_];exact q,λb u xs q=>by rw[kK_];exact q,λb ps q=>Cr! kK_ q⟩
 by_cases g8:b=e
 .subst g8;exact mq
 .exact#[u,k b u g8 q]
def Un.mono(u:kH_)(hs:∀b∈fs,b∈sx)(hx:∀b∈ex,b∈RY):Un sx RY H H1 h O:=
 #[λb ob q n G he=>u.keep b ob q n (λz=>G (hs b z)) λz=>FQ! b,λ_ _ q n _ he=>u.any q n λz=>FQ! _,λb ob q n he=>FQ_ ob q λz=>FQ! b,λb ob q he=>u.there b ob q λz=>FQ! b,u.tups,u.frzs,u.tbls]
end
def BO(h:Heap)(H:Hp):μ Addr:=(p5!).filter λa=>(H a).isSome
def Rc(h:Heap)(H:Hp):Heap:=W.hideAll h (BO h H)
def b4p(h:Heap)(H:Hp):(hc_).objs.size=C!:=W.hideAll_size _ _
def c0e(e:p5_)(n:H b=υ):DC_ hc_=ψ o:=
 W.hideAll_get _ e λhm=>by
  let q:(H b).isSome=true:=(LU.mp hm).2;rw[n]at q;simp at q
def c4k(e:DC_ hc_=ψ o):h.get? b=ψ o/\H b=none:=by
 let e':h.get? b=ψ o:=W.of_hideAll (BO h H) e;exact#[e',?_];cases q:H b with
 |none=>rfl
 |some x=>
  let hm:b∈BO h H:=LU.mpr #[JN.mpr (FK e'),by simp[q]];let z:DC_ hc_=none:=W.hideAll_none (BO h H) hm;rw[z]at e;rcases e
def Xb(g h:Heap)(L:uv!):μ dO!:=(p5!).filterMap λa=>if a=L\/(g.get? a).isSome=τ then υ else(h.get? a).map λo=>(a,o)
nonrec def rest(g h:Heap)(L d:uv!):μ dO!:=(Xb g h L).filter λp=>decide (p.1≠d)
structure Mod(K:ye!)(mg:o!)(base:Heap):Prop where
 kin:K.In base
 glob:A2_ base.Ns
 blt:∃mb,base.Ns builtinsNs mb/\∀x:Str,x≠"__name__"->mb x=AS_ x
 nolimit:base.NoLimit
structure Cx where
 prog:Program
 w:World
 K:W.Frag
 mg:Str->wY_ Value
 base:Heap
 A:Around
 N:μ Str
 s₀:Shared
 H₀:Hp
 env:Env
 outer:μ Env
 stack:μ Env
 ex:μ Addr
 fn:Str->Bool
 calm:Bool
 pn:μ dO!
 xe:Value->Shared->ν
nonrec def frs(l:C_):μ Addr:=l.filterMap (·.frame)
abbrev Cx.fs(X:Cx):μ Addr:=frs X.outer
def Px(sc:Scope)(x:Str):Prop:=Bd_ x=Ad! ψ\/Bd_ x=ψ .cell\/Bd_ x=ψ .free
def Uo(sc:Scope)(x:Str):Prop:=Bd_ x=Ad! ψ\/Bd_ x=ψ .cell
def BD(env:Env)(h:Heap)(m:o!)(x:Str)(u:wX!):Prop:=
 (env.kindOf x=Ad! ψ/\m x=ψ u)\/((env.kindOf x=ψ .cell\/env.kindOf x=ψ .free)/\∃c,env.cells.lookup x=ψ c/\h.IsCell c (ψ u))
structure Cx.Ok(X:Cx):Prop where
 mod:Mod X.K X.mg X.base
 kind:kM!=.function
 glob:X.env.globals=mainGlobals
 blt:X.env.builtins=builtinsNs
 above:c1_<=X.env.locals
 inj:∀x y c,ro_ x=ψ c->ro_ y=ψ c->x=y
 has:∀x,p6_->∃c,ro_ x=ψ c
 cab:∀x c,X.fn x=τ->ro_ x=ψ c->c1_<=c
 hd:X.calm=τ->kM_=υ
 frames:dO_=Dl_ ψ
 stk:X.stack=X.outer\/(X.stack=X.env::X.outer/\hd!=ψ X.env.locals)
 exf:∀b∈X.ex,b≠X.env.locals/\∀x c,ro_ x=ψ c->c≠b
 bs:∀b o,Cx_ b=ψ o->A9! b=ψ o/\X.H₀ b=υ
 bsz:X.base.objs.size<=c1_
 noex:∀b o,Cx_ b=ψ o->b∉X.ex
 exfs:∀b∈X.ex,b∉X.fs
 funs:Ef! X.outer
 frf:∀b∈X.fs,X.H₀ b=υ
structure Inv(X:Cx)(Z:j_)(U:List (Option V))(H:Hp)(s:x1!):Prop where
 ok:X.Ok
 os:s.os=X.s₀.os
 bare:Es_ s.gens
 base:Un X.fs X.ex X.H₀ H X.s₀.heap s.heap
 loc:∃m,Bq_ s.heap.Ns m/\∀(i:δ) (x:Str) (v:V),X.N[i]?=ψ x->U[i]?=ψ an!->Px X.env.scope x->∃u,Cf v u/\BD X.env s.heap m x u
 cell:∀x c,ro_ x=ψ c->∃v,s.heap.IsCell c v
 free:Bq_ H=υ
 freeC:∀x c,ro_ x=ψ c->H c=υ
 pin:∀p∈X.pn++Z,s.heap.get? p.1=ψ p.2/\H p.1=υ/\p.1≠X.env.locals/\p.1∉X.fs/\∀v,p.2.data≠.cell v
 hok:AX! Hw H s.heap
 len:dP_=X.N.length
section
variable{X:Cx}{Z:List (Addr×Obj)}{U:List (Option V)}{H H':Hp}{s:x1!}{h':Heap}
def Cx.Ok.nofr(ok:X.Ok){b:uv!}{o:Obj}(e:Cx_ b=ψ o):b∉X.fs:=λG=>by
 let:=(ok.funs.mem G).1;rw[e]at this;rcases this
def Inv.bs(I:c!):∀b o,Cx_ b=ψ o->qY_ b=ψ o/\H b=none:=λb o e=>
 #[I.base.keep b o (hd_).1 (hd_).2 (I.ok.nofr e) p7_,Fj! o (hd_).1 (hd_).2 p7_]
def Inv.bk(I:c!):∀b o,Cx_ b=ψ o->qY_ b=ψ o:=λb o e=>(I.bs b o e).1
def Inv.mod(I:c!):Mod X.K X.mg X.base:=I.ok.mod
def Inv.kIn(I:c!):Br! X.K.In:=I.ok.mod.kin.keeps I.bk
def Inv.lt(I:c!):X.env.locals<h_:=by let#[_,hn,_]:=I.loc;exact hn.lt
def Inv.sz(I:c!):c1_<=h_:=GB I.ok.above (JH I.lt)
def Inv.nofs(I:c!){a:uv!}(h:h_<=a):a∉X.fs:=λG=>by
 let#[_,o,ho,_]:=I.ok.funs.mem G;exact Gx_ e8_ (GB I.sz h)
def Inv.cne(I:c!):∀x c,ro_ x=ψ c->c≠X.env.locals:=λx c e z=>by
 let#[v,o,ho,hd]:=C5! x e;let#[m,#[o',es,ep,ir,jc,_],_]:=I.loc;rw[z,ir]at ho;rcases ho;rw[jc]at hd;cases hd
def Inv.funs(I:c!):B5_ X.base X.outer:=by
 let all:∀(l:C_),(∀b∈frs l,b∈X.fs)->Ef! l->B5_ X.base l:=by
  intro l
  induction l with
  |nil=>intro _ _;trivial
  |cons env r ih=>
   intro hs hl;let#[hk,#[L,o,hf,hn,ho,hd],hr]:=hl;let hL:L∈X.fs:=hs L (by delta frs;rw[IS,hf];exact EY);let#[sl,e]:=I.base.slot L o ho (I.ok.frf L hL) hL λz=>I.ok.exfs L z hL
   exact#[hk,#[L,_,hf,hn,e,hd],ih (λb G=>hs b (by delta frs;rw[IS,hf];exact EW _ G)) hr]
 exact all X.outer (λ_ G=>G) I.ok.funs
def Inv.stack(I:c!):B5_ X.base X.stack:=by
 obtain e|⟨e,hf⟩:=I.ok.stk
 .rw[e];exact I.funs
 .rw[e];let#[m,hn,_]:=I.loc;exact .cons (Fj_ I.ok.kind) hf hn ?_ I.funs;exact LZ (GB I.ok.bsz I.ok.above)
def Inv.stkSub(I:c!):∀b∈frs X.stack,b∈X.env.locals::X.fs:=λb G=>by
 obtain e|⟨e,hf⟩:=I.ok.stk
 .rw[e]at G;exact EW _ G
 .rw[e]at G;delta frs at G;rw[IS,hf]at G;exact G
def Inv.stkFree(I:c!):∀b∈frs X.stack,H b=none:=λb G=>by
 obtain e|G:=FD.mp (I.stkSub b G)
 .rw[e];exact I.free
 .let#[_,o,ho,_]:=I.ok.funs.mem G;exact Fj! o ho (I.ok.frf b G) λz=>I.ok.exfs b z G
def Inv.step{g':p9!}{t':δ}{d':Drawn}{ch:v!}(I:c!)
  (iu:∀b∈ch,he_/\b≠X.env.locals/\he!/\∀p∈X.pn++Z,p.1≠b)
  (keep:∀b o,b≠X.env.locals->b∉X.fs->b∉ch->qY_ b=ψ o->H b=υ->Ab_ b=ψ o)
  (slot:∀b o,b≠X.env.locals->b∈X.fs->b∉ch->qY_ b=ψ o->H b=υ->∃sl,Ab_ b=ψ {o with slots:=sl})(free:∀b o,b∉ch->qY_ b=ψ o->H b=υ->H' b=υ)
  (there:∀b o,b∉ch->qY_ b=ψ o->∃o',Ab_ b=ψ o')
  (tups:pW!)(frzs:∀b o u,H b=ψ e6_->H' b=ψ e6_)(tbls:∀b ps,H b=ψ (.tbl ps)->∃qm,H' b=ψ p1!)
  (ns:∀m,Bq_ s.heap.Ns m->Bq_ h'.Ns m)(hok:hf!)(hg:kO_):
  Inv X Z U H' {s with heap:=h',gens:=g',drawn:=d',toks:=t'}:=by
 let RZ:∀b o,A9! b=ψ o->b≠X.env.locals:=λb o e=>FW kO!;let oj:∀b o,A9! b=ψ o->b∉X.ex->b∉ch:=λb o e hx G=>by
  obtain z|z:=(iu b G).1
  .exact hx z
  .exact Gx_ bv_ z
 let SA:∀x c,ro_ x=ψ c->∀v,s.heap.IsCell c v->h'.IsCell c v:=by
  rintro x c e v ⟨o,ho,hd⟩;let sy:c∉ch:=λz=>(iu c z).2.2.1 x c e χ;by_cases hc:c∈X.fs
  .let#[sl,q]:=slot c o (I.cne x c e) hc sy ho kP!;exact#[_,q,hd]
  .exact#[o,keep c o (I.cne x c e) hc sy ho kP!,hd]
 exact#[I.ok,I.os,hg,#[e9_,e9_,λb o e n hx=>?_,kP_,λb xs e=>tups b xs (I.base.tups b xs e),λb o xs e=>frzs b o xs (I.base.frzs b o xs e),λb ps e=>?_],?_,kQ_,?_,kQ_,ci!,hok,I.len]
 .exact keep b o (RZ b o e) G hg_ hh! kR!
 .show"!H";let#[ya,e2]:=slot b _ (RZ b o e) G hg_ e1 kR!;exact#[ya,e2]
 .show"!?";exact free b o' hg_ e1 kR!
 .show"!?";exact there b o' hg_ e1
 .let#[m1,e1]:=I.base.tbls b ps e;let#[m2,e2]:=tbls b _ e1;exact p2!
 .let#[m,hn,hl]:=I.loc;exact#[m,ns m hn,qe!];let#[u,r,l]:=hl i x v e1 e2 e3;exact#[u,r,?_];obtain l|⟨k,c,e,z⟩:=l
  .exact .inl l
  .exact .inr #[k,c,e,SA x c e _ z]
 .let#[v,z]:=C5! x e;exact#[v,SA x c e v z]
 .let#[m,#[o,_,_,ho,_],_]:=I.loc;exact E6! free iu I.free
 .let#[v,o,ho,hd]:=C5! x e;exact free c o (λz=>(iu c z).2.2.1 x c e χ) ho kP!
 .show"!]";let sy:p.1∉ch:=λz=>(iu p.1 z).2.2.2 p hp χ;exact#[keep p.1 p.2 ne nf sy e n,free p.1 p.2 sy e n,ne,nf,d]
def Inv.un{t':δ}(I:c!)(u:Un X.fs [] H H' s.heap h')(hok:hf!):m2! H' {s with heap:=h',toks:=t'}:=by
 let#[m,#[o,es,ep,ho,r],_]:=id I.loc;let#[sl,hL]:=u.any ho I.free c_;exact I.step (g':=s.gens) (d':=s.drawn) (ch:=[]) qh_ (D8_ u.keep) (D8_ u.slot) (λb o _ e n=>FQ_ o e c_) (λb o _ e=>u.there b o e c_) u.tups u.frzs u.tbls (λm' hm=>by
  let#[o',de,jd,ir,r']:=hm;rw[ho]at ir;rcases ir;exact qj_) hok I.bare
def Inv.call(I:c!)(u:Dd_ ch H' h')(hok:hf!)(hg:kO_)
  (iu:∀b∈ch,he_/\b≠X.env.locals/\he!/\∀p∈X.pn++Z,p.1≠b):
  Inv X Z U H' {s with heap:=h',gens:=g',drawn:=d',toks:=t'}:=by
 let#[m,#[o,es,ep,ho,r],_]:=id I.loc;let#[sl,hL]:=u.any ho I.free λz=>(iu _ z).2.1 χ
 exact I.step (ch:=ch) iu (λb o hL G hc e n=>u.keep b o e n (λz=>(FD.mp (I.stkSub b z)).elim hL G) hc) (λb o _ _ hc e n=>u.any e n hc) (λb o hc e n=>FQ_ o e hc) (λb o hc e=>u.there b o e hc) u.tups u.frzs u.tbls (λm' hm=>by
  let#[o',de,jd,ir,r']:=hm;rw[ho]at ir;rcases ir;exact qj_) hok hg
def Inv.turned(I:c!)(k:∀b o,b≠it->qY_ b=ψ o->Ab_ b=ψ o)(hn:H it=υ)(hL:it≠X.env.locals)
  (O:it∈X.ex\/c1_<=it)(h2:∀x c,ro_ x=ψ c->c≠it)(h3:∀p∈X.pn++Z,p.1≠it):m2! H {s with heap:=h',toks:=t'}:=by
 let SD:∀b u,H b=ψ u->b≠it:=λb u e z=>by rw[z,hn]at e;rcases e
 exact I.step (g':=s.gens) (d':=s.drawn) (ch:=[it]) dR! (λb o _ _ hc e _=>k b o kT_ e) (λb o _ _ hc e _=>#[o.slots,k b o kT_ e]) ts_
  (λb o hc e=>#[o,k b o kT_ e]) kW! qp! (λb ps e=>kV_) qq_ qq! I.bare
 .let e:b=it:=by simpa using G
  subst e;exact#[O,hL,h2,h3]
 .show"#E";exact#[o,es,ep,k _ o (GI hL) ho,r]
 .exact(kW_).stay (Dd! q) e5_ λ_ _ q=>q;obtain z|z:=hc
  .rw[z];exact SD b u e
  .exact SD c _ z
def Inv.tok(I:c!)(t:δ):m2! H {s with toks:=t}:=I.un (h':=s.heap) (t':=t) Un.refl I.hok
def Inv.kept(I:c!)(k:qr!):m2! H {s with heap:=h',toks:=t'}:=I.un (Un.kept k) (I.hok.kept k)
def Inv.laid(I:c!)(k:qr!)(hp:h_<=a)(new:AX! Dv bf! h' a o):
  Inv X Z U bf! {s with heap:=h',toks:=t'}:=I.un (Un.laid k hp (Cb_ hp)) (I.hok.laid k hp new)
def Inv.write(I:c!)(mu:Zh (H x))(he:kG!)(k:∀b u,b≠e->qY_ b=ψ u->Ab_ b=ψ u)(mq:ha_)
  (new:AX! Dv kK! h' x o):m2! kK! {s with heap:=h',toks:=t'}:=I.un (Un.write mu he k mq) (I.hok.write mu he k mq new)
def Inv.pins_of(I:c!)(h:∀p∈fq,s.heap.get? p.1=ψ p.2/\H p.1=υ/\p.1≠X.env.locals/\p.1∉X.fs/\∀v,p.2.data≠.cell v):D1! X fq:=
 #[I.ok,I.os,I.bare,I.base,I.loc,I.cell,I.free,I.freeC,λp hp=>De! FT (h p),I.hok,I.len]
def a3e{N:l!}(hN:N.Nodup){i j:δ}(a:N[i]?=ψ x)(b:N[j]?=ψ x):i=j:=by let#[O,e1]:=FO.mp a;let#[h2,e2]:=FO.mp b;exact(List.getElem_inj hN).mp qr_
def vX(I:c!)(hN:V!)(hi:Z_)(hx:aT_)(r:aU!)
  (h:∀s',Cy! c3! H s'->(∃a,Heap.SameBut a s.heap s'.heap/\(a=X.env.locals\/X.env.cells.lookup x=ψ a))->Q () s')(hf:X.fn x=τ\/qg! x=Ad! some:=by first|exact .inl χ|exact .inr χ|assumption):qS! M qt_:=by
 let#[m,hn,hl]:=id I.loc;let VF:(kM!==.class||(kM!==.module&&X.env.locals != X.env.globals))=false:=by rw[I.ok.kind];rfl
 let SE:i<dP_:=by rw[I.len];exact(FO.mp hi).1
 let cne:=I.cne;let SG:∀{a:uv!} {h':Heap},(∃o,s.heap.get? a=ψ o/\H a=υ)->AL_ a->AX! Hw H h':=λ{a h'} ha hs b ob e=>by
  let#[_,_,gr]:=ha;exact(qu!).stay qu_ e5_ λ_ _ q=>q;rintro rfl;obtain rfl|hc:=hc
  .rw[gr]at e;rcases e
  .rw[gr]at hc;rcases hc
 obtain hk|hk:=hx
 .exact wpAny_storeName_local hk hn (λh' qo hs=>?_) VF;let#[oL,_,_,v6,_]:=id hn;exact h _ #[I.ok,I.os,I.bare,qv!,#[_,qo,qv_],λy c e=>?_,I.free,I.freeC,ci!,SG #[oL,v6,I.free] hs,qw_] #[_,hs,dR_]
  .exact DN_ kX! hh!
  .show"!H";exact Ch_ sl kX!
  .show"!?";exact Ch_ o' kX!
  .by_cases hj:j=i
   .show"#0";exact#[u,r,.inl #[hk,G_]]
   .rw[hl!]at e2;let#[u',r',q]:=hl j y v' e1 e2 e3;exact kX_;obtain⟨k,e⟩|⟨k,c,e,z⟩:=q
    .exact .inl #[k,?_];let:y≠x:=λe=>hj (a3e hN e1 (e▸hi));simp[this,e]
    .exact .inr #[k,c,e,qy_]
  .let#[w',z]:=C5! y e;exact#[w',qy_]
  .show"!]";exact qz_
 .let yd:X.fn x=true:=by
   obtain z|z:=hf
   .exact z
   .rw[z]at hk;cases hk
  let#[c,hc]:=I.ok.has x fc!;let#[w',z]:=C5! x hc;exact wpAny_storeName_cell I.ok.kind hk hc z (λh' gh hs=>?_);let#[oc,v7,VG]:=id z;exact h {s with heap:=h'} #[I.ok,I.os,I.bare,qv!,#[m,hn.sameBut hs (GI (cne x c hc)),qv_],λy c' e=>?_,I.free,I.freeC,ci!,SG #[oc,v7,I.freeC x c hc] hs,qw_] #[c,hs,.inr hc]
  .exact DN_ kY_ hh!
  .show"!H";exact Ch_ sl kY_
  .show"!?";exact Ch_ o' kY_
  .by_cases hj:j=i
   .show"#0";exact#[u,r,.inr #[.inl hk,c,hc,gh]]
   .rw[hl!]at e2;let#[u',r',q]:=hl j y v' e1 e2 e3;exact kX_;obtain q|⟨k,c',e,z'⟩:=q
    .exact .inl q
    .exact .inr #[k,c',e,z'.sameBut hs ?_];rintro rfl;exact hj (a3e hN e1 (I.ok.inj _ _ _ e hc▸hi))
  .by_cases v8:c'=c
   .subst v8;exact#[_,gh]
   .let#[w2,z2]:=I.cell y c' e;exact#[w2,z2.sameBut hs v8]
  .show"!]";exact#[(hs.2 p.1 ?_).trans e,n,ne,nf,d];intro q;rw[q,v7]at e;let q':oc=p.2:=GN e;exact d w' (B6! q' VG)
def jI(I:c!)(hN:V!)(hi:Z_)(hx:aT_)(r:aU!)
  (h:∀s',Cy! c3! H s'->Q () s')(hf:X.fn x=τ\/qg! x=Ad! some:=by first|exact .inl χ|exact .inr χ|assumption):qS! M qt_:=
 vX I hN hi hx r (λs' I' _=>h s' I') hf
def Inv.call'(I:c!)(ho:s'.os=s.os)(u:Dd_ ch H' s'.heap)(hok:AX! Hw H' s'.heap)(hg:Es_ s'.gens)
  (iu:∀b∈ch,he_/\b≠X.env.locals/\he!/\∀p∈X.pn++Z,p.1≠b):GI_ H':=by
 let#[h',g',d',t',o']:=s';let e:o'=s.os:=ho;subst e;exact I.call (g':=g') (t':=t') (d':=d') u hok hg iu
end
abbrev XK:=Value->(ι Addr×Value)->Hp->ν
abbrev St:=μ (ι V)
abbrev VK:=V->Hp->ν
abbrev TE:=St->Hp->VK->ν
abbrev TT:=St->Hp->qC!->ν
abbrev TA:=St->Hp->(μ V->Hp->ν)->ν
structure Ends where
 nx:St->Hp->ν
 rt:VK
 bk:St->Hp->Prop:=λ_ _=>False
 ct:St->Hp->Prop:=λ_ _=>False
abbrev TS:=Ends->St->Hp->ν
inductive EP(X:Cx)(Z:j_)(U:St)(Q:VK)(u:wX!)(s':x1!):Prop
 |mk (v:V) (H':Hp) (I:kZ!) (r:aU!) (q:Q v H'):BS_ EP u s'
inductive TP(X:Cx)(Z:j_)(U:St)(Q:c3_)(b:Bool)(s':x1!):Prop
 |mk (H':Hp) (I:kZ!) (q:Q b H'):BS_ TP b s'
inductive AP(X:Cx)(Z:j_)(U:St)(Q:bh!)(us:k_)(s':x1!):Prop
 |mk (vs:l_) (H':Hp) (I:kZ!) (r:c4!) (q:Q vs H'):BS_ AP us s'
def SP(X:Cx)(Z:j_)(D:Ends)(f:Flow)(s':x1!):Prop:=
 match f with
 |.next=>∃ac H',AX_ X Z/\D.nx ac H'
 |.brk=>∃ac H',AX_ X Z/\D.bk ac H'
 |.cont=>∃ac H',AX_ X Z/\D.ct ac H'
 |.ret u=>∃v ac H',AX_ X Z/\Cf v u/\D.rt v H'
def PE(X:Cx)(e:Expr)(t:TE):Prop:=
 ∀(Z:j_) (s:x1!) (U:St) (H:Hp) (Q:VK),m2! H s->t U H Q->Gp! dS! ad_
def PT(X:Cx)(e:Expr)(t:TT):Prop:=
 ∀(Z:j_) (s:x1!) (U:St) (H:Hp) (Q:c3_),m2! H s->t U H Q->Gp! (HT! dS!) hn!
def PW(X:Cx)(e:Expr)(t:TT):Prop:=
 ∀(il:ci_) (Z:j_) (s:x1!) (U:St) (H:Hp) (Q:c3_),m2! H s->t U H Q->Gp! (HT! il) hn!
def PW.pt(h:PW X e t):PT X e t:=h _
def PA(X:Cx)(es:bh_)(t:TA):Prop:=
 ∀(pos:Pos) (Z:j_) (s:x1!) (U:St) (H:Hp) (Q:bh!),m2! H s->t U H Q->Gp! (spliced kZ_) (BS_ AP)
def PS(X:Cx)(st:Stmt)(t:TS):Prop:=
 ∀(Z:j_) (s:x1!) (U:St) (H:Hp) (D:Ends),m2! H s->t D U H->Gp! uG_ dS_
def Jy(X:Cx)(st:ai_)(t:TS):Prop:=
 ∀(Z:j_) (s:x1!) (U:St) (H:Hp) (D:Ends),m2! H s->t D U H->Gp! uI! dS_
def cO(h:qF_)(hQ:qE!):Cc! t Q' E s:=GK h hQ λ_ _ x=>x
section
variable{X:Cx}
def bin(ha:aJ!)(G:bO_){R:qG!}(I:c!)(h:qF!)
  {f:Value->Value->Sem α}
  (hf:qG_):
  wpAny d_ X.A k0_ qH_ X.xe s:=by
 show"!@"
def BY(i:δ):TE:=λU H Q=>∃v,U[i]?=ψ an!/\Q v H
nonrec def tC(v:V):TE:=λ_ H Q=>Q v H
def eL(hN:Z_)(hv:cj!)(hd:s_:=by decide)(bj:ck!:=by decide):PE X bP! (BY i):=by
 intro Z s U H Q I h;let#[v,e,h]:=h;let#[m,hn,hl]:=I.loc;let#[u,r,l]:=hl i x v hN e hv;let ak:Hk_ u:=k1_;obtain⟨hk,hm⟩|⟨hk,c,hc,df⟩:=l
 .exact Fk! (wpAny_loadName_local I.ok.kind hk hn hm ak)
 .obtain hk|hk:=hk
  .exact Fk! (wpAny_loadName_cell I.ok.kind hk hc df ak)
  .exact Fk! (wpAny_loadName_free I.ok.kind hk hc df ak bj)
def c9n {i j pos}:E6_ qI_ ae!:=λ_ _ _ H _ I h=>wpAny_Constant_int #[ck_,H,aJ_,P!,h]
def c7r {b j pos}:E6_ (GD! k3_) V_:=λ_ _ _ H _ I h=>Constant_bool #[.bl b,H,I,χ,h]
def c9m {j pos}:PE X qJ_ (tC .non):=λ_ _ _ H _ I h=>Constant_none #[.non,H,I,χ,h]
def c9i {x j pos}:E6_ (GD! bP_) bP_:=λ_ _ _ H _ I h=>KI (FI_ x h)
def Gl(X:Cx)(x:Str):Prop:=D1_ x=ψ .globalImplicit
def dX(I:c!)(hg:x_)(hm:X.mg x=ψ u)(h:Q u s)
  (hd:s_:=by decide):GM_ qK!:=
 Calls.Name_function_global I.ok.kind hg (Calls.loadGlobal_global qK_ hm h) hd
def iV(I:c!)(hg:x_)(hm:bx!)(hv:qL_)(h:Q u s)
  (hn:bx_:=by decide)(hd:s_:=by decide):GM_ qK!:=by
 let#[mb,O,h2]:=I.mod.blt;exact Calls.Name_function_global I.ok.kind hg (Calls.loadGlobal_builtin qK_ hm (by rw[I.ok.blt];exact O.keeps I.bk) ((h2 x hn).trans hv) h) hd
def yP(hg:x_)(hm:X.mg x=ψ u)(r:aU!)(hd:s_:=by decide):E6_ bP! v:=
 λ_ _ _ H _ I h=>dX I hg hm k1_ hd
def a9l(hg:x_)(hm:bx!)(hv:qL_)(r:aU!)(hn:bx_:=by decide)(hd:s_:=by decide):E6_ bP! v:=
 λ_ _ _ H _ I h=>iV I hg hm hv k1_ hn hd
variable{a b:Expr}{ta tb:TE}{pos:Pos}
def PC(X:Cx)(op:CmpOp)(a b:Expr)(t:TE):Prop:=
 ∀(Z:j_) (s:x1!) (U:St) (H:Hp) (Q:VK),m2! H s->t U H Q->
  wpAny d_ X.A k0_ (λv σ=>rr_ qH! (EV! (compareOp op v u) ad_) X.xe σ) X.xe s
def b8o(b:Expr)(h:op≠.In)(h2:op≠.NotIn):behindInMarks op b=false:=by
 let e1:qM!=false:=by cases op<;>first|rfl|exact AS! h
 let e2:qM_=false:=by cases op<;>first|rfl|exact AS! h2
 cases b<;>simp[behindInMarks,e1,e2]
nonrec def tB(t:TE):TT:=λU H Q=>t U H λx H1=>∃c,x=.bl c/\Q c H1
def d4k(h:PC X op a b t)(O:c5!:=by first|exact b8o _ a_ a_|rfl):PT X c5_ (tB t):=by intro Z s U H Q I hw;exact NZ (cO k5! λv s1 O=>cO O λu s2 h2=>cO h2 ?_) O;rintro c s3 ⟨x,H1,I1,r1,q1⟩;let#[d,rfl,q]:=q1;subst r1;exact GP #[H1,I1,q]
def yM{e:Expr}{t:TE}(h:hp_)(he:hq!:=by intro _;rfl):PT X e (tB t):=by intro Z s U H Q I hw;exact isTrue_plain (cO k5! ?_) (he _);rintro v s1 ⟨x,H1,I1,r1,q1⟩;let#[d,rfl,q]:=q1;subst r1;exact GP #[H1,I1,q]
variable{tA v9:TT}{rest:List Expr}
def CG(t u:TT):TT:=λU H Q=>t U H λc H1=>if c=τ then u U H1 Q else Q θ H1
def EE(t u:TT):TT:=λU H Q=>t U H λc H1=>if c=τ then Q τ H1 else u U H1 Q
def CB(t:TT):TT:=λU H Q=>t U H λc H1=>Q (!c) H1
def yL(ha:fe_):PW X k6! tA:=by
 intro wh Z s U H Q I h;exact isTrue_and qR!;cases c with
 |true=>exact isTrue_and_nil e
 |false=>exact e
def b7d(ha:fe_):PW X k6_ tA:=by
 intro wh Z s U H Q I h;exact isTrue_or qR!;cases c with
 |false=>exact isTrue_or_nil e
 |true=>exact e
def a6h(ha:fe_)(G:PW X ff! v9):PW X ff_ (CG tA v9):=by
 intro wh Z s U H Q I h;exact isTrue_and dT_;rintro c s1 ⟨H1,I1,q1⟩;cases c with
 |true=>exact Gf! G
 |false=>exact qT_
def c7q(ha:fe_)(G:PW X fg_ v9):PW X fh! (EE tA v9):=by
 intro wh Z s U H Q I h;exact isTrue_or dT_;rintro c s1 ⟨H1,I1,q1⟩;cases c with
 |true=>exact qT_
 |false=>exact Gf! G
def b7k(ha:fe_):PT X fh_ (CB tA):=by intro Z s U H Q I h;exact isTrue_not (cO (ha Z s U H (λc H1=>Q (!c) H1) I h) λ_ _ ⟨H2,I2,q⟩=>#[H2,I2,q])
def Zw(ta tb:TE):TE:=λU H Q=>ta U H λx H1=>∃c,x=.bl c/\if c=τ then tb U H1 Q else Q aK! H1
def CA(ta tb:TE):TE:=λU H Q=>ta U H λx H1=>∃c,x=.bl c/\if c=τ then Q ae_ H1 else tb U H1 Q
def Zn(ta:TE):TE:=λU H Q=>ta U H λx H1=>∃c,x=.bl c/\Q (.bl (!c)) H1
def c9k {op}{t:TE}(h:PE X a t):PE X qU! t:=λZ s U H Q I hw=>BoolOp_one qU_
def c9p(ha:aJ!)(G:PE X ff! tb):PE X ff_ (Zw ta tb):=by
 intro Z s U H Q I h;exact BoolOp_and dT_;rintro v s1 ⟨x,H1,I1,r1,q1⟩;let#[c,rfl,q1]:=q1;subst r1;exact GP ?_;cases c with
 |true=>exact A6! G Q
 |false=>exact#[k8!,H1,I1,χ,q1]
def d2y(ha:aJ!)(G:PE X fg_ tb):PE X fh! (CA ta tb):=by
 intro Z s U H Q I h;exact BoolOp_or dT_;rintro v s1 ⟨x,H1,I1,r1,q1⟩;let#[c,rfl,q1]:=q1;subst r1;exact GP ?_;cases c with
 |false=>exact A6! G Q
 |true=>exact#[fi_,H1,I1,χ,q1]
def c9l(ha:aJ!):PE X fh_ (Zn ta):=by intro Z s U H Q I h;exact UnaryOp_ dT_;rintro v s1 ⟨x,H1,I1,r1,q1⟩;let#[c,rfl,q1]:=q1;subst r1;exact not_of (GP #[.bl (!c),H1,I1,χ,q1])
def EF(t:TT)(ta tb:TE):TE:=λU H Q=>t U H λc H1=>if c=τ then ta U H1 Q else tb U H1 Q
def a2r{c:Expr}(hc:PT X c tA)(ha:aJ!)(G:bO_):PE X qY! (EF tA ta tb):=by
 intro Z s U H Q I h;exact wpAny_IfExp (cO la! ?_);rintro d s1 ⟨H1,I1,q1⟩;cases d with
 |true=>exact A6! ha Q
 |false=>exact A6! G Q
end
def Er(K:ye!)(H:Hp)(a:uv!)(xs:l_):Prop:=
 Rd H a af!\/
  ∃(o:Obj) (its:Z!) (n:δ),AU_ a=ψ o/\o.cls=.type "list"/\o.dict=υ/\o.data=FO_ its/\its.size<=sizeLine/\Bp xs hr_
def Fe(K:ye!)(H:Hp)(a:uv!)(xs:l_):Prop:=
 Rd H a aI!\/
  ∃(o:Obj) (its:Z!) (n:δ),AU_ a=ψ o/\o.cls=.type "tuple"/\o.data=FO_ its/\its.size<=sizeLine/\Bp xs hr_
def CT:Value->ι V
 |.none=>ψ .non
 |.bool b=>ψ V_
 |.int i _=>ψ ae!
 |.str x _=>ψ bP_
 |.bytes b _=>ψ (.byt b)
 |.float b _=>ψ (.flt b)
 |.ref a=>ψ u!
 |.type n=>ψ (.ty n)
 |_=>υ
def Cf.abs{x:V}{u:wX!}(r:Cf x u):CT u=ψ x:=by
 cases x with
 |non=>cases r;rfl
 |bl _=>cases r;rfl
 |int _=>let#[t,rfl]:=r;rfl
 |str _=>let#[t,rfl]:=r;rfl
 |byt _=>let#[t,rfl]:=r;rfl
 |flt _=>let#[t,rfl]:=r;rfl
 |ref _=>cases r;rfl
 |ty _=>cases r;rfl
def Cf.inj{x y:V}{u:wX!}(r:Cf x u)(q:Cf y u):x=y:=GN (r.abs.symm.trans q.abs)
def Bp.inj(h:dL!):Bp ys us->xs=ys:=by
 induction h generalizing ys with
 |nil=>intro h;cases h;rfl
 |cons r t ih=>intro h;cases h with|cons r' t'=>rw[r.inj r',ih t']
section
variable{X:Cx}{Z:List (Addr×Obj)}{U:St}{H:Hp}{s:x1!}{a:uv!}{xs ys:List V}
def Er.of{K:ye!}(h:H a=ψ af!):DD! a:=.inl hs_
def Fe.of{K:ye!}(h:H a=ψ aI!):B0_ K:=.inl hs_
def Inv.list(I:c!)(h:Ef_ a xs):∃its:List Value,E5_ xs/\Br! PlainL a aH_/\h!<=sizeLine:=by
 obtain h|⟨o,its,n,hk,hc,hd,hs,hz,r⟩:=h
 .let#[z,its,n,r,e]:=h.ok I.hok;exact#[its,r,#[_,n,e,χ,χ,χ],z]
 .exact#[hr_,r,#[o,n,I.kIn a o hk,hc,hd,q1!],?_];show"#1"
def Inv.tuple(I:c!)(h:B0_ X.K):∃its:List Value,E5_ xs/\Br! IsTup a aH_/\h!<=sizeLine:=by
 obtain h|⟨o,its,n,hk,hc,hs,hz,r⟩:=h
 .let#[z,its,r,p]:=h.ok I.hok;exact#[its,r,p,z]
 .exact#[hr_,r,#[o,I.kIn a o hk,hc,n,q1!],?_];show"#1"
def Inv.list_inj(I:c!)(h:Ef_ a xs)(h':Ef_ a ys):xs=ys:=by
 let#[its,r,#[o,n,e,_,_,d],_]:=I.list h;let#[its',r',#[o',n',e',_,_,d'],_]:=Cj_ h';rw[e]at e';rcases e';rw[d]at d';injection d' with d1 _
 let:its=its':=by simpa using GA_ d1
 subst this;exact r.inj r'
def Inv.tuple_inj(I:c!)(h:B0_ X.K)(h':Fe X.K H a ys):xs=ys:=by
 let#[its,r,#[o,e,_,n,d],_]:=A1! h;let#[its',r',#[o',e',_,n',d'],_]:=A1! h';rw[e]at e';rcases e';rw[d]at d';injection d' with d1 _
 let:its=its':=by simpa using GA_ d1
 subst this;exact r.inj r'
end
abbrev Cx.wish(X:Cx)(E:i!):Cx:={X with xe:=E}
abbrev Cx.nox(X:Cx):Cx:=X.wish λ_ _=>False
def Cx.Ok.wish{X:Cx}(ok:X.Ok)(E:i!):(fj!).Ok:=
 fk!
def Cx.Ok.unwish{X:Cx}{E:i!}(ok:(fj!).Ok):X.Ok:=
 fk!
section
variable{X:Cx}{Z:List (Addr×Obj)}{U:St}{H:Hp}{s:x1!}{E:Value->Shared->Prop}
def Inv.wish(I:c!)(E:i!):D1! fj! Z:=#[I.ok.wish E,I.os,I.bare,I.base,I.loc,I.cell,I.free,I.freeC,I.pin,I.hok,I.len]
def Inv.unwish(I:D1! fj! Z):m2! H s:=#[I.ok.unwish,I.os,I.bare,I.base,I.loc,I.cell,I.free,I.freeC,I.pin,I.hok,I.len]
def SP.unwish(h:SP fj! Z D f s'):SP X Z D f s':=by
 cases f with
 |next=>let#[ac,H',I,q]:=h;exact lc!
 |brk=>let#[ac,H',I,q]:=h;exact lc!
 |cont=>let#[ac,H',I,q]:=h;exact lc!
 |ret u=>let#[v,ac,H',I,r,q]:=h;exact#[v,ac,H',I.unwish,r,q]
def Jy.nox{st:ai_}(h:Jy X.nox st t):Jy X st t:=λZ s U H D I hw=>
 GK q2! ld_ λ_ _ z=>ye_ z
end
section
variable{X:Cx}{st:Stmt}{rest:List Stmt}{t u:TS}{e:Expr}{te:TE}{pos:Pos}
def Zo:TS:=λD U H=>D.nx U H
def Zk(t u:TS):TS:=λD U H=>t {D with nx:=u D} U H
def a9c:Jy X [] Zo:=λ_ _ U H _ I h=>HQ #[U,H,I,h]
def nE(O:fk_)(h2:E7! Jy u):Jy X bQ! (Zk t u):=by
 intro Z s U H D I h;exact NO (Et! cO q3!);cases f with
 |next=>
  let#[ac,H',I',q]:=q;exact h2 Z s1 ac H' D I' q
 |ret v=>exact q
 |brk=>exact q
 |cont=>exact q
def dL(O:fk_):Jy X [st] t:=by
 intro Z s U H D I h;exact NO (Et! cO q3_);cases f with
 |next=>exact HQ q
 |ret v=>exact q
 |brk=>exact q
 |cont=>exact q
def Inv.quiet(I:c!):interactive X.env=false:=by simp[interactive,I.ok.kind]
def Zv(te:TE):TS:=λD U H=>te U H λ_ H1=>D.nx U H1
def sF(he:bQ_)(hs:hv_:=by rfl):PS X fl! (Zv te):=by intro Z s U H D I h;exact wpAny_Expr_any (B3_ cO q5!) I.quiet hs
def Zl(te:TE):TS:=λD U H=>te U H D.rt
def a6i(he:bQ_):PS X dU! (Zl te):=by intro Z s U H D I h;exact wpAny_Return_some (B3_ cO q6!)
def Zt(c:TT)(t u:TS):TS:=λD U H=>c U H λb H1=>if b=τ then t D U H1 else u D U H1
def b7n(hc:PT X c tc)(ha:Jy X a t)(G:Jy X b u):PS X q7! (Zt tc t u):=by
 intro Z s U H D I h;exact wpAny_If (cO la! ?_);rintro d s1 ⟨H1,I1,q1⟩;cases d with
 |true=>exact A6! ha D
 |false=>exact A6! G D
end
abbrev TG:=V->St->Hp->q7_->ν
abbrev AY:=μ V->St->Hp->q7_->ν
def PG(X:Cx)(gu:Expr)(t:TG):Prop:=
 ∀(Z:j_) (s:x1!) (U:St) (H:Hp) (v:V) (u:wX!) (Q:hw!),m2! H s->Cf v u->t v U H Q->
  wpAny d_ X.A (assign gu X.env u) q8! X.xe s
def BU(X:Cx)(ts:bh_)(t:AY):Prop:=
 ∀(Z:j_) (s:x1!) (U:St) (H:Hp) (vs:l_) (us:k_) (Q:hw!),m2! H s->Bp vs us->t vs U H Q->
  wpAny d_ X.A (assignInOrder (A8! ts) us) q8! X.xe s
abbrev AX:=V->V->V->Hp->lf!->ν
def Ul(X:Cx)(t:AX):Prop:=
 ∀(Z:j_) (s:x1!) (U:St) (H:Hp) (o i v:V) (ov iv u:wX!) (Q:Hp->ν),m2! H s->Cf o ov->Cf i iv->Cf v u->t o i v H Q->
  wpAny d_ X.A (setItem ov iv u) (λ_ s'=>∃H',GI_ H'/\Q H') X.xe s
section
variable{X:Cx}{pos:Pos}
def Kh(i:δ):TG:=λv U H Q=>Q c3! H
def bX(hN:V!)(hi:Z_)(hx:aT_)(hf:X.fn x=τ\/qg! x=Ad! some:=by first|exact .inl χ|exact .inr χ|assumption):PG X bP! c6_:=by intro Z s U H v u Q I r h;exact wpAny_assign_Name (jI I hN hi hx r (λs' I'=>#[_,H,I',h]) hf)
def Yp:AY:=λvs U H Q=>vs=[]/\Q U H
def Sd(t:TG)(u:AY):AY:=λvs U H Q=>∃v r,vs=v::r/\t v U H λac H'=>u r ac H' Q
def a9i:BU X [] Yp:=by intro Z s U H vs us Q I r h;let#[e,h]:=h;subst e;cases r;exact assignInOrder_nil #[U,H,I,h]
def nG(O:PG X e t)(h2:BU X es u)
  (hs:A8! J_=assign e X.env::FR! lf_:=by rfl):BU X J_ (Sd t u):=by
 intro Z s U H vs us Q I r h;let#[v,vr,e1,h]:=h;subst e1;cases r with
 |cons r rr=>
  rw[hs];exact assignInOrder_cons (cO (O Z s U H _ _ _ I r h) ?_);rintro _ s1 ⟨bg,H1,I1,q1⟩;exact h2 Z s1 bg H1 _ _ Q I1 rr q1
def Yo(K:ye!)(n:δ)(t:AY):TG:=λv U H Q=>∃a xs,v=.ref a/\B0_ K/\h!=n/\t xs U H Q
def b7s(hc:af_)(h:BU X es t)
  (hn:(lf_).length=n:=by rfl)(ai:(lf_).findIdx? q!=none:=by rfl):PG X (.Tuple es k pos) (Yo X.K n t):=by
 intro Z s U H v u Q I r hw;let#[a,xs,e1,hq,hl,hw]:=hw;subst e1;subst r;let#[its,rv,ht,hz]:=A1! hq;exact assign_Tuple_tuple by! ht (by simp[hn,<-hl,rv.length]) ai λh' hx=>?_;let I1:m2! H {s with heap:=h'}:=I.kept (t':=s.toks) λb o e=>hx b o (FW bv_) e;exact h Z _ U H xs _ Q I1 (AM! rv) hw
def CS(to ti:TE)(t:AX):TG:=λv U H Q=>to U H λo H1=>ti U H1 λi H2=>t o i v H2 λH3=>Q U H3
def b7t(ho:PE X o to)(hi:PE X i ti)(hs:Ul X t)
  (ha:∀v,assign rb! X.env v=(do
   let ov <-holding [v] bS!
   let iv <-holding [v,ov] rb_
   standAt pos
   holding dU_ lh_
   release dU_ []):=by intro _;rfl):PG X rb! (CS to ti t):=by
 intro Z s U H v u Q I r h;rw[ha];exact Fk_ rd!;rintro ov s1 ⟨x,H1,I1,r1,q1⟩;exact ES (GE (cO (A6! hi _) ?_));rintro iv s2 ⟨y,H2,I2,r2,q2⟩;exact ES (HX (Fk_ (cO (hs Z s2 U H2 x y v ov iv u _ I2 r1 r2 r q2) ?_)));rintro _ s3 ⟨H3,I3,q3⟩;exact wpAny_release #[U,H3,I3,q3]
def Wn(te:TE)(g:TG):TS:=λD U H=>te U H λx H1=>g x U H1 D.nx
def b7o(he:bQ_)(hg:dV_)(hs:B1! [tg]=pure false:=by rfl)(hw:CW! [tg]=pure none:=by rfl)
  (O:A8! [tg]=[assign tg X.env]:=by rfl):PS X (Ck! [tg] e) (Wn te g):=by
 show"#:";exact wpAny_Assign_stores dW! hs hw;rintro v s1 ⟨x,H1,I1,r1,q1⟩;rw[O];exact cO (hg Z s1 U H1 x v _ I1 r1 q1) λ_ s2 q=>q
def yN(hN:V!)(hi:Z_)(hx:aT_)(he:bQ_)(hs:rd_:=by rfl)(hf:X.fn x=τ\/qg! x=Ad! some:=by first|exact .inl χ|exact .inr χ|assumption):
  PS X re! (Wn te c6_):=by
 show"#:";exact wpAny_Assign_Name dW! hs;rintro v s1 ⟨y,H1,I1,r1,q1⟩;exact Hx_ jI
end
structure It where
 go:δ->Hp->ν
 yld:δ->Hp->V->Hp->ν
 stop:δ->Hp->ν
def Iy(X:Cx)(Z:j_)(H:Hp)(b:uv!):Prop:=
 H b=υ/\b≠X.env.locals/\b∉X.fs/\he_/\he!/\∀p∈X.pn++Z,p.1≠b
def Inv.fpOk(I:c!)(G:h_<=b)(hn:H' b=υ):DD_ H':=by
 exact#[hn,IZ (FM I.lt G),I.nofs G,.inr (GB I.sz G),λx c e z=>?_,λp hp z=>?_]
 .let#[v,q]:=C5! x e;exact Gx_ q.lt rf_
 .exact Gx_ (FK (ll!).1) rf_
structure Py(P:xz!)(w:wY!)(K:ye!)(tg:Expr)(J:It)(fp:v!)(it:uv!)(tn:fn!):Prop where
 mem:it∈fp
 obj:∀i h,tn i h->∀b∈fp,∃o,h.get? b=ψ o/\∀v,o.data≠.cell v
 keep:∀i h h',tn i h->(∀b∈fp,∀o,h.get? b=ψ o->h'.get? b=ψ o)->tn i h'
 item:∀(X:Cx),X.prog=P->X.w=w->X.K=K->X.calm=τ->∀(i:δ) (Z:j_) (s:x1!) (U:St) (H:Hp) (E:i!),m2! H s->rg_->tn i s.heap->J.go i H->
  wpAny B! X.A hz_ (λr s1=>∃u,r=ψ u/\
   wpAny B! X.A rh! (λ_ s2=>∃x H',m2! H' s2/\Cf x u/\J.yld i H x H'/\E7_ u_/\∀b∈fp,H' b=υ) E s1) E s
 done:∀(X:Cx),X.prog=P->X.w=w->X.K=K->X.calm=τ->∀(i:δ) (Z:j_) (s:x1!) (U:St) (H:Hp) (E:i!),m2! H s->rg_->tn i s.heap->J.stop i H->
  wpAny B! X.A hz_ (λr s1=>r=υ/\m2! H s1) E s
 self:∀(A:w5!) (i:δ) (s:x1!) (Q:i!) (E:i!),tn i s.heap->Q by_ s->HW_ by_
abbrev TI:=St->Hp->(It->Hp->ν)->ν
def CW(X:Cx)(Z:j_)(U:St)(tg:Expr)(R:hA!)(qq:wX!)(s2:x1!):Prop:=
 ∃(it:uv!) (fp:v!) (tn:fn!) (J:It) (H':Hp),qq=.ref it/\m2! H' s2/\qS_ Py tg J fp it tn/\E7_ 0/\(∀b∈fp,Iy X Z H' b)/\R J H'
def PI(X:Cx)(tg iter:Expr)(wi:TI):Prop:=
 ∀(Z:j_) (s:x1!) (U:St) (H:Hp) (R:hA!),m2! H s->wi U H R->
  wpAny d_ X.A (AV! iter) (λv s1=>rr_ (pyIter v) rj! X.xe s1) X.xe s
def c0h(ho:qY_ it=ψ o)(hc:o.cls=.type n)(hd:rj_)
  (hn:(rk_).contains n=θ)(hQ:dW_):qS! M rh!:=by
 delta letOwnedTupleGo;cases tg<;>first
  |exact EV hQ
  |(cases u<;>first
    |exact EV hQ
    |(exact ES rl_;rw[hc,hd];show Cc! (GH_ ((rk_).contains n&&vs[0]?==ψ (rawInt _))) Q E s;rw[FC (by intro h;rw[hn,NR]at h;exact Bool.noConfusion h)];exact EV hQ))
def DB(K:ye!)(a:uv!):It:=
 (AT! Er)
def CZ(K:ye!)(a:uv!):It:=
 (AT! Fe)
def BX(lo:Int)(n:δ):It:=#[λi _=>i<n,λi H x H'=>H'=H/\x=.int (lo+i),λi _=>n<=i]
def b2c{K:ye!}(a it:uv!):Hu! DB h.IsListIter where
 mem:=by simp
 obj:=λi h st b G=>by
  let e:b=it:=by simpa using G
  subst e;show"#)"
 keep:=λi h h' st k=>st.at λo e=>k it c_ o e
 item:=by
  show"!,";let#[xs,x,hq,hx]:=hg;let#[its,rv,p,hz]:=Cj_ hq;let#[u,hu,ru]:=rv.get hx;show"!1";exact wpAny_pyNext_list_item st p.isList (x:=u) ln_ λh' af sb=>?_;show"!P";exact D2! #[x,H,I1,ru,#[χ,rp!],af,hC!]
 done:=by
  show"!,";let#[xs,hq,hx]:=hg;let#[its,rv,p,hz]:=Cj_ hq;show"!1";let hl:=c7!;exact wpAny_pyNext_list_end by! st p.isList ao! λh' eb=>lp!
 self:=λ_ _ _ _ _ st h=>wpAny_pyIter_listiter st h
def a5j{P:xz!}{w:wY!}{K:ye!}{tg:Expr}(a it:uv!):Hu! CZ h.IsTupleIter where
 mem:=by simp
 obj:=λi h st b G=>by
  let e:b=it:=by simpa using G
  subst e;show"#)"
 keep:=λi h h' st k=>st.at λo e=>k it c_ o e
 item:=by
  show"!,";let#[xs,x,hq,hx]:=hg;let#[its,rv,p,hz]:=A1! hq;let#[u,hu,ru]:=rv.get hx;show"!1";exact wpAny_pyNext_tuple_item st rq! (x:=u) ln_ λh' af sb=>?_;show"!P";exact D2! #[x,H,I1,ru,#[χ,λys hy=>by rw[I.tuple_inj hy hq];exact hx],af,hC!]
 done:=by
  show"!,";let#[xs,hq,hx]:=hg;let#[its,rv,p,hz]:=A1! hq;show"!1";let hl:=c7!;exact wpAny_pyNext_tuple_end by! st rq! ao! λh' eb=>lp!
 self:=λ_ _ _ _ _ st h=>wpAny_pyIter_tupleiter st h
def a5k{K:ye!}(it:uv!)(lo:Int)(n:δ):Dm! (BX lo n) (λi h=>IsRangeIter h it (lo+(i:δ)*1) ((n:Int) - (i:δ)) 1) where
 mem:=by simp
 obj:=λi h st b G=>by
  let e:b=it:=by simpa using G
  subst e;exact⟨_,st,λv z=>by
   let z':Data.fields _=Data.cell v:=z;cases z'⟩
 keep:=λi h h' st k=>k it c_ _ st
 item:=by
  show"!,";show"!1";let W:=Walks.range (prog:=X.prog) (w:=X.w) by! it lo 1 n;exact W.item i s _ _ hg st λv h' tk hv af kk=>?_;let#[t,rfl]:=hv;show"!j";exact#[_,χ,c0h (s:={s with heap:=h',toks:=tk}) (n:="range_iterator") af χ χ a_ #[.int (lo+i),H,I1,#[t,?_],aa_,af,hC!]];rw[Int.mul_one]
 done:=by
  show"!,";show"!1";exact wpAny_pyNext_range_end by! st (by let:n<=i:=hg;omega) λh' eb=>lp!
 self:=λ_ _ _ _ _ st h=>wpAny_pyIter_rangeiter st h
section
variable{X:Cx}{tg:Expr}
def AT(K:ye!)(tl:TE):TI:=λU H R=>tl U H λx H1=>∃a,x=.ref a/\(∃xs,Er K H1 a xs)/\R (DB K a) H1
def Po(K:ye!)(tl:TE):TI:=λU H R=>tl U H λx H1=>∃a,x=.ref a/\(∃xs,Fe K H1 a xs)/\R (CZ K a) H1
def a9h(hl:PE X l tl):Et_ l (AT X.K tl):=by
 intro Z s U H R I h;exact cO lr_ ?_;rintro v s1 ⟨x,H1,I1,r1,q1⟩;let#[a,e,#[xs,hq],q]:=q1;subst e;subst r1;let#[its,rv,p,hz]:=I1.list hq;exact LP p.isList ?_;exact CW_ b2c;let e:b=F!:=by simpa using G
 show"!t"
def c9f{l:Expr}{tl:TE}(hl:PE X l tl):Et_ l (Po X.K tl):=by
 intro Z s U H R I h;exact cO lr_ λv s1 ⟨x,H1,I1,r1,q1⟩=>?_;let#[a,e,#[xs,hq],q]:=q1;subst e;cases r1;let#[its,rv,p,hz]:=I1.tuple hq;exact OW (show s1.heap.IsTuple a aH_ from p) ?_;exact CW_ a5j;let e:b=F!:=by simpa using G
 show"!t"
def b7c{lo hi:Int}(I:c!)(O:-(2 ^ 62)<=lo)(h2:lo<2 ^ 62)(h3:-(2 ^ 62)<=hi)(h4:hi<2 ^ 62)
  (q:R (BX lo (ls_).toNat) H):rr_ (pyIter c9!) rj! E {s with heap:=s.heap.push {cls:=.type "range",data:=AP_ t},toks:=tk}:=by
 exact wpAny_pyIter_range (IsRange.new ..) (small_one O h2 h3 h4) ?_;let I1:m2! H {s with heap:=s.heap.push {cls:=.type "range",data:=AP_ t},toks:=tk}:=I.kept λb o e=>EU _ e;exact⟨(lt!).objs.size,[(lt!).objs.size],_,_,H,χ,
  I1.kept (t':=tk) λb o e=>EU _ e,a5k _ lo (ls_).toNat,?_,λb G=>?_,q⟩
 .let e1:lo+dY_*1=lo:=by simp
  let e2:rw_ - dY_=Builtin.Range.rangeSize lo hi 1:=by rw[rangeSize_one];split<;>omega
  show IsRangeIter _ _ (lo+dY_*1) (rw_ - dY_) 1;rw[e1,e2];exact FP _ χ
 .let e:b=(lt!).objs.size:=by simpa using G
  show"!t"
def AS(ta:TA):TI:=λU H R=>ta U H λvs H1=>∃j:Int,vs=[dZ!]/\-(2 ^ 62)<=j/\j<2 ^ 62/\R (BX 0 j.toNat) H1
def b2z(hg:Gl X "range")(hm:rx!)(ha:PA X [a] ta)(hs:rx_:=by rfl):Et_ ry! (AS ta):=by
 intro Z s U H R I h;exact Call_ (iV I hg hm boot_range (LR (cO d0! ?_) hs χ));rintro us s1 ⟨vs,H1,I1,r1,q1⟩;let#[j,e,q1,q2,q]:=q1;subst e;cases r1 with
 |cons r rr=>
  cases rr;show"#,";exact call_range_1 (b7c I1 a! a! q1 q2 (AM! q))
def Zu(wi:TI)(g:TG)(tb:TS):TS:=λD U H=>wi U H λJ H1=>∃W:Nat->Nat->St->Hp->Prop,(∃m,W 0 m U H1)/\∀i m U H,W i m U H->
 (J.stop i H/\D.nx U H)\/(J.go i H/\∃N:St->Hp->Prop,(∀ac H',N ac H'->∃m',m'<m/\W u_ m' ac H')/\∀x H',J.yld i H x H'->g x U H' λf9 H2=>tb {D with nx:=N,ct:=N,bk:=D.nx} f9 H2)
def Ks(fp:v!)(h:Heap):μ dO!:=fp.filterMap λb=>(h.get? b).map λo=>(b,o)
def eE(G:b∈fp)(e:p5_):(b,o)∈Ks fp h:=JQ.mpr #[b,G,by rw[e];rfl]
def b3s(hp:p∈Ks fp h):p.1∈fp/\h.get? p.1=ψ p.2:=by
 let#[b,G,e]:=JQ.mp hp;cases q:h.get? b with
 |none=>rw[q]at e;rcases e
 |some o=>
  rw[q]at e;let e':(b,o)=p:=GN e;subst e';exact#[G,q]
def Inv.pinned(I:c!)(hf:∀b∈fp,DD_ H)(ho:∀b∈fp,∃o,qY_ b=ψ o/\∀v,o.data≠.cell v):D1! X (Z++Ks fp s.heap):=
 I.pins_of λp hp=>De! FQ λz=>by
  let#[G,e]:=b3s z;let#[f0,f1,f2,_]:=hf p.1 G;let#[o,e',d]:=ho p.1 G;rw[e]at e';rcases e';exact#[e,f0,f1,f2,d]
def Inv.unpinned(I:D1! X (Z++pl)):m2! H s:=I.pins_of λp hp=>I.pin p (FQ _ cn_)
def a6j(hp:d0_)(hc:af_)(hi:fp!)(hg:dV_)(G:Dm_ X tb)
  (hs:aM_:=by intro _;rfl):PS X fp_ (Zu wi g tb):=by
 intro Z s U H D I h;exact wpAny_For rA_ hs;let#[it,fp,tn,J,H2,e,I2,T,cz,f2,W,#[m0,w0],g9]:=h2;subst e;let iw:∀{H':Hp},bT_->∀b∈fp,DD_ H':=λhn b G=>rB_;exact codeAny_forLoop_any rC! ?_ m0 rD!;rintro n s3 ⟨i,iy,H3,I3,om,s9,w3⟩;obtain⟨stop,qn⟩|⟨go,N,hN,step⟩:=g9 i n iy H3 w3
 .exact DE! rE!;rintro r s4 ⟨hr,I4⟩;subst hr;exact HQ rF_
 .exact DE! rE_;rintro r s4 ⟨u,hr,h4⟩;subst hr;exact DE! h4;rintro _ s5 ⟨x,H5,I5,r5,y5,iz,oo⟩;let oq:=DE_ jB_;exact DE! rF!;rintro _ s6 ⟨im,H6,I6,q6⟩;exact IW hp (cO rG! λf s7 q7=>?_);let again:∀{fh:St} {H7:Hp},Inv X rH! fh H7 s7->N fh H7->∃m,m<n/\∃i ac H',Cy! ac H' s7/\tn i s7.heap/\bT_/\W i m ac H':=λ{fh H7} I7 n7=>by
   show"!W"
  cases f with
  |next=>let#[fh,H7,I7,n7]:=q7;exact again I7 n7
  |cont=>let#[fh,H7,I7,n7]:=q7;exact again I7 n7
  |brk=>let#[fh,H7,I7,q7]:=q7;exact rK_
  |ret v=>let#[x7,fh,H7,I7,r7,q7]:=q7;exact rJ_
end
abbrev R2:=V->V->Hp->VK->ν
def Fw(X:Cx)(f:rK!)(r:R2):Prop:=
 ∀(Z:j_) (s:x1!) (U:St) (H:Hp) (x y:V) (v u:wX!) (Q:VK),m2! H s->Cf x v->Cf y u->Eu! r->
  wpAny d_ X.A (f v u) ad_ X.xe s
def CU(X:Cx)(f:Value->Sem Value)(r:rL!):Prop:=
 ∀(Z:j_) (s:x1!) (U:St) (H:Hp) (x:V) (v:wX!) (Q:VK),m2! H s->Cf x v->r x H Q->
  wpAny d_ X.A (f v) ad_ X.xe s
def Ft(X:Cx)(f:wX!)(r:co!):Prop:=
 ∀(Z:j_) (s:x1!) (U:St) (H:Hp) (xs:l_) (us:k_) (Q:VK),m2! H s->Bp xs us->r xs H Q->
  wpAny d_ X.A (call f us) ad_ X.xe s
def CV(X:Cx)(r:V->Hp->qC!->ν):Prop:=
 ∀(Z:j_) (s:x1!) (U:St) (H:Hp) (x:V) (v:wX!) (Q:c3_),m2! H s->Cf x v->r x H Q->
  wpAny d_ X.A k5_ hn! X.xe s
def Yd(r:R2)(ta tb:TE):TE:=λU H Q=>ta U H λx H1=>tb U H1 λy H2=>r x y H2 Q
def ED(r:rL!)(ta:TE):TE:=λU H Q=>ta U H λx H1=>r x H1 Q
nonrec def rI(C:Int->Int->ν)(g:Int->Int->V):R2:=λx y H Q=>∃i j,x=.int i/\y=.int j/\C i j/\Q a5! H
def Qw(g:Int->Int->V):R2:=λx y H Q=>∃i j,x=.int i/\y=.int j/\Q a5! H
nonrec def rU(g:Int->V):V->Hp->VK->Prop:=λx H Q=>∃i,x=.int i/\Q (g i) H
section
variable{X:Cx}{a b c:Expr}{ta tb tc:TE}{pos:Pos}
def d2d(ha:aJ!)(G:bO_){R:qG!}(I:c!)
  (h:qF!){f:rK!}
  (hf:qG_):
  wpAny d_ X.A k0_ qH_ X.xe s:=by
 show"!@"
def b7v(ho:fr_)(ha:aJ!)(G:bO_):PE X fs! fs_:=by intro Z s U H Q I h;exact wpAny_BinOp rM!
def d2x(ho:CU X (unaryOp op) r)(ha:aJ!):PE X (.UnaryOp op a pos) (ED r ta):=by intro Z s U H Q I h;exact UnaryOp_ (BT! ho)
def opI{g:rN!}
  (rule:∀(i j:Int) (t u:Tok) (s:x1!) (Q:i!) (E:i!),C i j->Q rN_ {s with toks:=s.toks+1}->GM_ lx_):
  Fw X f (rI C λi j=>.int a5!):=by
 intro Z s U H x y v u Q I rx ry h;let#[i,j,rfl,rfl,hc,q]:=h;show"!I";let#[t',rfl]:=ry;exact Dn! hc rO!
def d3c{g:rN!}
  (rule:∀(i j:Int) (t u:Tok) (s:x1!) (Q:i!) (E:i!),Q rN_ {s with toks:=s.toks+1}->GM_ lx_):
  Fw X f (Qw λi j=>.int a5!):=by
 show"!Y";exact Dn! rO!
def c4h{g:rP!}
  (rule:∀(i j:Int) (t u:Tok) (s:x1!) (Q:i!) (E:i!),Q (.bool a5!) s->GM_ lx_):
  Fw X f (Qw λi j=>.bl a5!):=by
 show"!Y";exact Dn! #[.bl a5!,H,I,χ,q]
def Zb(i j:Int):Prop:=0<j/\j<1073741824
def Za(i j:Int):Prop:=0<=j/\j<=1000000/\N_<2 ^ 64
def Vx(i j:Int):Prop:=(-hG!<i/\i<2 ^ 64)\/(-hG!<j/\j<2 ^ 64)
def Vx.ok(h:Vx i j):IntMulOk i j:=by
 obtain⟨O,h2⟩|⟨O,h2⟩:=h
 .exact .of_left rQ_
 .exact .of_right rQ_
def c9w:Fw X d1_ (Qw λi j=>.int (i+j)):=d3c λ_ _ _ _ _ _ _ q=>add_int q
def pO:Fw X (binaryOp .Sub) rR_:=d3c λ_ _ _ _ _ _ _ q=>sub_int q
def jN:Fw X (binaryOp .Mult) lz!:=opI λ_ _ _ _ _ _ _ hc q=>mul_int q hc.ok
def lD:Fw X (binaryOp .FloorDiv) lA!:=opI λi j _ _ _ _ _ hc q=>by
 let O:(0:Int)<j:=hc.1;let h2:j<1073741824:=hc.2;exact FR_ floordiv_int Int.fdiv_eq_ediv_of_nonneg (.inl (PyProof.noPylong_small a!))
def cL:Fw X (binaryOp .Mod) lB!:=opI λi j _ _ _ _ _ hc q=>by
 let O:(0:Int)<j:=hc;exact FR_ mod_int' Int.fmod_eq_emod_of_nonneg
def c9q:Fw X (binaryOp .Pow) lD!:=opI λ_ _ _ _ _ _ _ hc q=>pow_int_small hc.1 hc.2.1 hc.2.2 q
def unI{g:co_}
  (rule:∀(i:Int) (t:Tok) (s:x1!) (Q:i!) (E:i!),Q (.int (g i) s.toks) {s with toks:=s.toks+1}->GM_ (f c0!)):
  CU X f (rU λi=>.int (g i)):=by
 intro Z s U H x v Q I rx h;let#[i,rfl,q]:=h;show"!I";exact rule i t s _ _ #[.int (g i),H,aJ_,P!,q]
def c8j:CU X (unaryOp .USub) (rU λi=>.int (-i)):=unI λ_ _ _ _ _ q=>neg_int q
end
def CH:V->V->Bool
 |.non,.non=>τ|.non,.int _=>τ|.int _,.non=>τ|.non,.bl _=>τ|.bl _,.non=>τ|.non,.str _=>τ|.str _,.non=>τ
 |.int _,.int _=>τ|.bl _,.bl _=>τ|.str _,.str _=>τ|.byt _,.byt _=>τ
 |.int _,.str _=>τ|.str _,.int _=>τ|.bl _,.str _=>τ|.str _,.bl _=>τ
 |_,_=>θ
def DP:R2:=λx y H Q=>CH x y=τ/\Cr_ (!decide (x=y))
def b1g:decide (V.int i=V.int j)=(i==j):=by rw[JW];simp
def d1t:decide (V.bl i=V.bl j)=(i==j):=by rw[JW];simp
def b1f:decide (V.str i=V.str j)=(i==j):=by rw[JW];simp
def c6y:decide (V.byt i=V.byt j)=(i.toList==j.toList):=by rw[JW];cases i;cases j;simp
section
variable{X:Cx}{a b c:Expr}{ta tb tc:TE}{pos:Pos}
def dO(I:c!)(q:Cr_ k)(e:k=k'):Hk_ (.bool k'):=by subst e;exact#[.bl k,H,I,χ,q]
def wI:Fw X rV_ DP:=by
 intro Z s U H x y v u Q I rx ry h;let#[hs,q]:=h;cases x with
 |non=>
  subst rx;cases y with
  |non=>cases ry;exact PySem.EqNone.ne_none_none bj!
  |bl j=>cases ry;exact PySem.EqNone.ne_none_bool bj!
  |int j=>let#[t',rfl]:=ry;exact PySem.EqNone.ne_none_int bj!
  |str j=>let#[t',rfl]:=ry;exact PySem.EqNone.ne_none_str bj!
  |_=>exact GJ! d2!
 |bl i=>
  subst rx;cases y with
  |non=>cases ry;exact PySem.EqNone.ne_bool_none bj!
  |bl j=>cases ry;exact Gy! ne_bool d1t
  |str j=>let#[t',rfl]:=ry;exact PySem.EqMixed.ne_bool_str bj!
  |_=>exact GJ! d2!
 |int i=>
  let#[t,rfl]:=rx;cases y with
  |non=>cases ry;exact PySem.EqNone.ne_int_none bj!
  |int j=>let#[t',rfl]:=ry;exact Gy! ne_int b1g
  |str j=>let#[t',rfl]:=ry;exact PySem.EqMixed.ne_int_str bj!
  |_=>exact GJ! d2!
 |str i=>
  let#[t,rfl]:=rx;cases y with
  |non=>cases ry;exact PySem.EqNone.ne_str_none bj!
  |bl j=>cases ry;exact PySem.EqMixed.ne_str_bool bj!
  |int j=>let#[t',rfl]:=ry;exact PySem.EqMixed.ne_str_int bj!
  |str j=>let#[t',rfl]:=ry;exact Gy! ne_str b1f
  |_=>exact GJ! d2!
 |byt i=>
  let#[t,rfl]:=rx;cases y with
  |byt j=>let#[t',rfl]:=ry;exact Gy! W.ne_bytes c6y
  |_=>exact GJ! d2!
 |_=>cases y<;>exact GJ! d2!
def a9m:Fw X (compareOp .Lt) lE!:=c4h λ_ _ _ _ _ _ _ q=>lt_int q
def d3a:Fw X lE_ (Qw λi j=>.bl hJ!):=c4h λ_ _ _ _ _ _ _ q=>le_int q
def a9n:Fw X (compareOp .Gt) lF!:=c4h λ_ _ _ _ _ _ _ q=>gt_int q
def d3b:Fw X (compareOp .GtE) lH!:=c4h λ_ _ _ _ _ _ _ q=>ge_int q
def b3i:Fw X d3! (CP_ hJ_):=by intro Z s U H x y v u Q I rx ry h;let#[i,j,rfl,rfl,q]:=h;let#[t,rfl]:=rx;let#[t',rfl]:=ry;exact in_str (dO I q χ)
def yS:Fw X (compareOp .Is) rY_:=by
 intro Z s U H x y v u Q I rx ry h;let#[rfl,q]:=h;subst ry;exact is_none_gen (dO I q ?_);cases x<;>first
  |(subst rx;rfl)
  |(let#[t,rfl]:=rx;rfl)
def c4f:Fw X (compareOp .IsNot) rZ!:=by
 intro Z s U H x y v u Q I rx ry h;let#[rfl,q]:=h;subst ry;exact isnot_none_gen (dO I q ?_);cases x<;>first
  |(subst rx;rfl)
  |(let#[t,rfl]:=rx;rfl)
def Fw.or(h:Fw X f r)(h':Fw X f r'):Fw X f r0!:=by
 intro Z s U H x y v u Q I rx ry q;obtain q|q:=q
 .exact Hl! h
 .exact Hl! h'
def aQ(b:Expr)(h:op≠.In:=by decide)(h2:op≠.NotIn:=by decide):behindInMarks op b=false:=by
 let e1:qM!=false:=by cases op<;>first|rfl|exact AS! h
 let e2:qM_=false:=by cases op<;>first|rfl|exact AS! h2
 cases b<;>simp[behindInMarks,e1,e2]
def a9k(ho:bA!)(ha:aJ!)(G:bO_)(hm:c5!):PE X c5_ fs_:=by intro Z s U H Q I h;exact wpAny_Compare1 rM! hm
def Xm(t:TE):TT:=λU H Q=>t U H λx H'=>∃k,x=.bl k/\Q k H'
def a9b(ho:bA!)(ha:aJ!)(G:bO_)(hm:c5!):PT X c5_ (Xm fs_):=by
 intro Z s U H Q I h;exact NZ (cO bw_ λv s1 ⟨x,H1,I1,r1,q1⟩=>cO dT! λu s2 ⟨y,H2,I2,r2,q2⟩=>
  cO lN! λc s3 ⟨z,H3,I3,r3,k,e,q3⟩=>?_) hm
 subst e;subst r3;exact GP #[H3,I3,q3]
def Uy(r r':R2)(ta tb tc:TE):TE:=λU H Q=>ta U H λx H1=>tb U H1 λy H2=>r x y H2 λz H3=>∃k,z=.bl k/\
 (if k=τ then tc U H3 λw' H4=>r' y w' H4 Q else Q aK! H3)
def b7z(ho:bA!)(ir:hL!)(ha:aJ!)(G:bO_)(hc:PE X c tc)
  (hm:hL_:=by with_unfolding_all rfl):PE X hM! r1_:=by
 intro Z s U H Q I h;exact Compare_chain (cO bw_ λv s1 ⟨x,H1,I1,r1,q1⟩=>chain_link (cO dT! λu s2 ⟨y,H2,I2,r2,q2⟩=>
  cO lN! λd s3 ⟨z,H3,I3,r3,k,e,q3⟩=>?_)) hm
 subst e;subst r3;exact GP ?_;cases k with
 |false=>exact ite_ff #[k8!,H3,I3,χ,q3]
 |true=>exact ite_tt (chain_last (cO r2! λw' s4 ⟨z',H4,I4,r4,q4⟩=>ir Z s4 U H4 y z' u w' Q I4 r2 r4 q4))
def b7l(ho:bA!)(ir:hL!)(ha:aJ!)(G:bO_)(hc:PE X c tc)
  (hm:hL_:=by with_unfolding_all rfl):PT X hM! (Xm r1_):=by
 intro Z s U H Q I h;exact isTrue_chain (cO bw_ λv s1 ⟨x,H1,I1,r1,q1⟩=>test_link (cO dT! λu s2 ⟨y,H2,I2,r2,q2⟩=>
  cO lN! λd s3 ⟨z,H3,I3,r3,k,e,q3⟩=>?_)) hm
 subst e;subst r3;exact GP ?_;cases k with
 |false=>
  let#[k',e',q']:=q3;cases e';exact ite_ff #[H3,I3,q']
 |true=>
  exact ite_tt (test_last (cO r2! λw' s4 ⟨z',H4,I4,r4,q4⟩=>cO (ir Z s4 U H4 y z' u w' _ I4 r2 r4 q4) ?_));rintro d' s5 ⟨z2,H5,I5,r5,k2,e2,q5⟩;subst e2;subst r5;exact GP #[H5,I5,q5]
def AW(K:ye!)(x:V)(H:Hp)(k:Bool):Prop:=
 match x with
 |.non=>k=θ
 |.bl b=>k=b
 |.int i=>k=fv!
 |.str y=>ag!<=sizeLine/\k=((ag!:Int) != 0)
 |.byt y=>y.size<=sizeLine/\k=((y.size:Int) != 0)
 |.ref p=>(B7_ Er K)\/(B7_ Fe K)\/∃h1,H p=ψ db!/\k=! lO!
 |_=>False
def a7l(r:KV h1 vs):(!vs.isEmpty)=! lO!:=by cases r<;>rfl
def uF(r:E5_ xs):(!its.toArray.isEmpty)=! da_:=by cases r<;>simp
def pU:(sizeLine:δ)<2 ^ 63:=by rw[HG];decide
def c8m:CV X (λx H Q=>∃k,AW X.K x H k/\Q k H):=by
 intro Z s U H x v Q I rx h;let#[k,e,q]:=h;let hl:=pU;let hs:sizeLine=16777216:=HG;cases x with
 |non=>
  subst rx;let e':k=false:=e;subst e';exact truthy_none lO_
 |bl b=>
  subst rx;let e':k=b:=e;subst e';exact GP lO_
 |int i=>
  show"!I";let e':k=fv!:=e;subst e';exact PySem.P.truthy_int lO_
 |str y=>
  show"!I";obtain⟨hy,e'⟩:ag!<=sizeLine/\k=((ag!:Int) != 0):=e;subst e';exact PySem.P.truthy_str a! #[H,aJ_,q]
 |byt y=>
  show"!I";obtain⟨hy,e'⟩:y.size<=sizeLine/\k=((y.size:Int) != 0):=e;subst e';exact W.truthy_bytes a! #[H,aJ_,q]
 |ref p=>
  subst rx;let e':(B7_ Er X.K)\/(B7_ Fe X.K)\/∃h1,H p=ψ db!/\k=! lO!:=e;obtain⟨xs,hx,e'⟩|⟨xs,hx,e'⟩|⟨h1,hx,e'⟩:=e'
  .subst e';let#[its,r,pl,hz]:=Cj_ hx;let az:=W!;exact DF! wpAny_truthy_list hN! r4!
  .subst e';let#[its,r,pl,hz]:=A1! hx;let az:=W!;exact truthy_tuple pl hN! r4!
  .subst e';obtain⟨hz,hS,vs,r,m⟩:bN_<=sizeLine/\(p==sysModules)=θ/\∃vs,KV h1 vs/\s.heap.DictOf (mixKind X.prog X.w) p vs:=I.hok p _ hx;let az:bN_=at!:=MC r;exact wpAny_truthy_dict hS m a! #[H,aJ_,by rw[a7l r];exact q]
 |_=>exact(r4_).elim
def b7j(ha:aJ!)(he:∀il,isTrue a X.env il=(do let v <-il;standAt a.pos;holding [v] k5_)):
  PT X a (λU H Q=>ta U H λx H'=>∃k,AW X.K x H' k/\Q k H'):=by
 show"!D";exact isTrue_plain (BT! c8m) (he _)
def a6p:Fw X d1_ (λx y H Q=>∃i j,x=.str i/\y=.str j/\i.length+j.length<=sizeLine/\Q (.str (i++j)) H):=by intro Z s U H x y v u Q I rx ry h;let#[i,j,rfl,rfl,hz,q]:=h;let#[t,rfl]:=rx;let#[t',rfl]:=ry;exact add_str (λt' tk=>FI_ (i++j) q) hz
def iC(r:Bp [x] us):∃u,us=[u]/\Cf x u:=by
 cases r with
 |cons r1 r2=>cases r2;exact D9! r1
def qJ(r:Bp [x,y] us):∃u w',us=[u,w']/\Cf x u/\Cf y w':=by
 cases r with
 |cons r1 r2=>
  cases r2 with
  |cons r3 r4=>cases r4;exact#[_,_,χ,r1,r3]
def c2c:Ft X r6_ r7!:=by intro Z s U H xs us Q I r h;let#[i,rfl,q]:=h;let#[u,rfl,t,rfl]:=iC r;exact call_abs_int λu tk=>#[.int hO!,H,aJ_,P!,q]
def a1b:Ft X aW_ (λxs H Q=>∃i,xs=[ck_]/\cp!<1920/\Q lS! H):=by intro Z s U H xs us Q I r h;let#[i,rfl,hz,q]:=h;let#[u,rfl,t,rfl]:=iC r;exact PySem.P.str_of_int hz r8!
def c1z:Ft X r9! sa!:=by intro Z s U H xs us Q I r h;let#[x,rfl,hz,q]:=h;let#[u,rfl,t,rfl]:=iC r;exact ord_of_one hz hQ!
def Yx(K:ye!)(x:V)(H:Hp)(n:δ):Prop:=
 match x with
 |.str y=>ag!<=sizeLine/\n=ag!
 |.byt y=>y.size<=sizeLine/\n=y.size
 |.ref p=>(FS! K)\/∃xs,Fe K H p xs/\n=h!
 |_=>False
def cC:Ft X sa_ (λxs H Q=>∃x n,xs=[x]/\Yx X.K x H n/\Q cp_ H):=by
 intro Z s U H xs us Q I r h;let#[x,n,rfl,e,q]:=h;let#[u,rfl,rx]:=iC r;let hl:=pU;let hs:sizeLine=16777216:=HG;cases x with
 |str y=>
  show"!I";obtain⟨hy,e'⟩:ag!<=sizeLine/\n=ag!:=e;subst e';exact len_str a! hQ!
 |byt y=>
  show"!I";obtain⟨hy,e'⟩:y.size<=sizeLine/\n=y.size:=e;subst e';exact W.len_bytes a! hQ!
 |ref p=>
  subst rx;let e':(FS! X.K)\/∃xs,Fe X.K H p xs/\n=h!:=e;obtain⟨xs,hx,e'⟩|⟨xs,hx,e'⟩:=e'
  .subst e';let#[its,r',pl,hz]:=Cj_ hx;let az:=lT!;exact DF! Calls.call_len_list hN! sb!
  .subst e';let#[its,r',pl,hz]:=A1! hx;let az:=lT!;exact len_tuple pl hN! sb!
 |_=>exact(r4_).elim
end
structure Td(h:Heap)(x dx C:uv!)(mA:o!):Prop where
 obj:h.get? x=ψ kD!
 ns:h.Ns1 dx mA
 ne:dx≠x
def wW{h:Heap}(n:h.Ns1 dx mA):∃od,h.get? dx=ψ od/\∀name,Fl! od=ψ (mA name):=by
 let#[o,es,ep,ho,hd,hk,_,hm]:=n;exact#[o,ho,λname=>?_];let e:=hm name;delta nsFind findBy at e;rw[<-Array.find?_toList]at e;delta W.lookIn;rw[hd];show"#-";split
 .rename_i y q;rw[q]at e;exact Hl_ e
 .rename_i q;rw[q]at e;let a:es.toList.any (·.refKey)=false:=by
   rw[OL];intro y hy;let#[z,t,VH]:=hk y (Array.mem_toList_iff.mp hy);simp[DictEntry.refKey,VH]
  let a':¬es.toList.any (·.refKey)=true:=by rw[a];exact FZ
  rw[FC a'];exact Hl_ e
def Td.look(I:Td h x dx C mA):∃od,W.InstAt h x kD! C lU_/\∀name,Fl! od=ψ (mA name):=
 let⟨od,ho,hl⟩:=wW I.ns
 #[od,#[I.obj,χ,χ,ho],hl]
section
variable{prog:xz!}{w:wY!}{A:w5!}{E:Value->Shared->Prop}{s:x1!}{K:ye!}{x dx C f:uv!}{mA:Str->Option Value}{name:Str}{v:wX!}
def c6g(X:db_)(I:lV!)(hg:sc!)(hh:sc_)
  (ha:lV_)(hv:mA name=ψ v)(VI:W.handedIn v=τ)(h:Q v {s with toks:=s.toks+1}):
  wpAny b_ A (getAttr bf_ name expr) Q E s:=by
 show"#O";exact W.get_value X J (lW!).1 (W.findObj_own hh ha χ (by rw[hl,hv])) VI h
def c0i(X:db_)(I:lV!)(hg:sc!)
  (hf:AR! name=ψ dc!)(ht:sf_)(hv:mA name=υ)(h:Q (.ref f,[d3_]) s):
  wpAny b_ A (getMethod bf_ name pl) Q E s:=by
 show"#O";exact W.method_fn X J (lW!).1 (lW!).2 hf (GS.mp ht) (by show(Fl! od).map (·.isSome)=ψ θ;rw[hl,hv];rfl) h
def c2y(X:db_)(I:lV!)
  (hs:lZ_)(hp:W.plainOver K C=τ)(ht:W.takerIn K C name=ψ υ)(hh:sc_)
  (hw:Es! ns)(hsz:sj_)
  (h:∀h',Td h' x dx C (λy=>if y=name then ψ v else mA y)->AL_ dx->Q () {s with heap:=h',toks:=s.toks+2}):
  wpAny b_ A sk_ Q E s:=by
 show"#O";exact W.set_plain X J hs (W.osa_open (s:=l0!) (r:=υ) X J hp ht λb=>?_);let#[cd,hc,jc]:=W.any_some hh;let hx:qY_ x=ψ #[.ref C,hS!,.plain,#[]]:=I.obj;exact CX! (GS! (NG hx (ES (W.Looks.here (s:=l0!) (W.looks_clsIn X hc) ?_))));rw[jc];exact EV (a:=hS!) (CX! d4!);exact wpAny_nsSet1 (s:=l0!) I.ns λh' mv da=>?_;let#[oD,VJ,VL,td,tj,ye]:=mv.count (PySem.Within.cons name v hw);exact By! hS_;exact EV (h _ #[(da.2 _ (GI I.ne)).trans I.obj,mv,I.ne] da)
def b9k(X:db_)(hm:W.makesIn K C=τ)
  (hi:AR! "__init__"=ψ dc!)(hf:W.typeIn K ad!=ψ sm!)
  (h:De_ codeAny #[.ref C::vs,kw] (.call ad! #[.ref ag_::vs,kw]) (W.InitBack ag_ R)
   {s with heap:=(d4_).push hT_}):
  codeAny b_ A (.call m_ #[vs,kw]) R s:=by
 let#[hh,g,d,t,os]:=s;exact W.make_core (W.makes_of X hm) (W.looks_findIn X hi) (λself=>W.bind_fn X self hf) q_ h
end
def Iu(f:Str)(v:V):μ cf_->μ cf_
 |[]=>[(f,v)]
 |(g,x)::r=>if g=f then(g,v)::r else(g,x)::Iu f v r
def qQ(f g:Str)(v:V):∀fs:List cf_,D2_ hU_ g=if g=f then ψ v else BB! g
 |[]=>by
  show Eu_ g [(f,v)]=_;by_cases h:g=f
  .let G:(g==f)=true:=GS.mpr h;simp![List.lookup,G,FE h]
  .let G:(g==f)=false:=FS.mpr h;simp![List.lookup,G,FC h]
 |(k,x)::r=>by
  let ih:=qQ f g v r;rw[l2!];by_cases hk:k=f
  .rw[FE hk];by_cases h:g=k
   .let G:(g==k)=true:=GS.mpr h;simp![List.lookup,G,FE (h.trans hk)]
   .let G:(g==k)=false:=FS.mpr h;simp![List.lookup,G,FC (λe:g=f=>h (e.trans hk.symm))]
  .rw[FC hk];by_cases h:g=k
   .let G:(g==k)=true:=GS.mpr h;simp![List.lookup,G,FC (λe:g=f=>hk (h.symm.trans e))]
   .let G:(g==k)=false:=FS.mpr h;simp![List.lookup,G];exact ih
def pW(f:Str)(v:V):∀fs:List cf_,f∈Cy_ hU_/\∀g,g∈fs.map q!->g∈Cy_ hU_
 |[]=>#[by simp[Iu],λg h=>by simp at h]
 |(k,x)::r=>by
  let#[i1,i2]:=pW f v r;rw[l2!];by_cases hk:k=f
  .rw[FE hk];subst hk;exact#[G_,λg h=>by simpa using h]
  .rw[FC hk];exact#[?_,λg h=>?_]
   .rw[FI];exact EW _ i1
   .rw[FI]at h ⊢;obtain e|e:=FD.mp h
    .exact FD.mpr (.inl e)
    .exact EW _ (i2 g e)
def qS(f:Str)(v:V):∀fs:List cf_,(hU_).length<=aT!+1
 |[]=>by simp[Iu]
 |(k,x)::r=>by
  let ih:=qS f v r;rw[l2!];by_cases hk:k=f
  .rw[FE hk,FN,FN];omega
  .rw[FC hk,FN,FN];omega
def Kz.some_of(r:Kz an! o):∃u,o=ψ u/\Cf v u:=by
 cases o with
 |none=>exact(hW!).elim
 |some u=>exact#[u,χ,r]
def Kz.none_of(r:Kz υ o):o=none:=by
 cases o with
 |none=>rfl
 |some u=>exact(hW!).elim
def xE(r:aU!):W.handedIn u=true:=by
 cases v with
 |non=>cases (show u=bu_ from r);rfl
 |bl b=>cases (show u=Value.bool b from r);rfl
 |int i=>let#[t,e]:=sq_;subst e;rfl
 |str x=>let#[t,e]:=sr!;subst e;rfl
 |byt b=>let#[t,e]:=(FS_ Value.bytes);subst e;rfl
 |flt b=>let#[t,e]:=(FS_ Value.float);subst e;rfl
 |ref a=>cases (show u=Value.ref a from r);rfl
 |ty n=>cases (show u=Value.type n from r);rfl
section
variable{P:xz!}{w:wY!}{H H':Hp}{h h':Heap}{a C dx:uv!}{fs sx:List (Str×V)}
def a0g(hok:aI_)(e:hW_):∃mA,Td h a dx C mA/\pU!/\Es! kD_/\aT!<=1000/\H dx=ψ e4!:=by let#[d,z,ne,ob,mA,n,r,q]:=(E8! d5! hok);exact#[mA,#[ob,n,ne],r,q,z,d]
end
structure Ud(K:ye!)(C:uv!):Prop where
 pg:W.plainGet K C Str.empty=τ
 hd:W.hasDictIn K C=τ
 po:W.plainOver K C=τ
 sa:AR! "__setattr__"=ψ lZ!
def Ud.get{K:ye!}(c:Ud K C)(f:Str):W.plainGet K C f=true:=c.pg
def Gp(K:ye!)(C:uv!)(f:Str):Prop:=AR! f=ψ υ
def Gp.taker{K:ye!}(n:Gp K C f):W.takerIn K C f=ψ none:=by delta W.takerIn;rw[show AR! f=ψ υ from n];rfl
structure Vr(K:ye!)(C:uv!)(m:Str)(f:uv!):Prop where
 at_:AR! m=ψ dc!
 fn:W.isFn K ad!=τ
 kp:Bt_ K ad!=τ
section
variable{X:Cx}{Z:List (Addr×Obj)}{U:St}{H:Hp}{s:x1!}{a C dx:uv!}{fs:List (Str×V)}{f:Str}{v:V}{A:w5!}{E:Value->Shared->Prop}
def a7o(I:c!)(e:hW_)(c:d5_)(n:Gp X.K C f)(l:BB! f=ψ v)
  (h:∀u s',m2! H s'->Cf v u->Q u s'):GX! (getAttr u! f b):=by
 let#[mA,dq,r,_,_,_]:=a0g I.hok e;let#[u,hu,ru]:=Kz.some_of (v:=v) (o:=mA f) (by rw[<-l];exact r f);exact c6g I.kIn dq (c.get f) c.hd n hu (xE ru) (h u _ bA_ ru)
def uG(I:c!)(e:hW_)(c:d5_)(k:Vr X.K C m g)(l:BB! m=υ)
  (h:Q (.ref g,[H!]) s):GX! (getMethod u! m pl):=by
 let#[mA,dq,r,_,_,_]:=a0g I.hok e;let hn:mA m=none:=Kz.none_of (by rw[<-l];exact r m);exact c0i I.kIn dq (c.get m) k.at_ k.fn hn h
def a5q(I:c!)(e:hW_)(c:d5_)(n:Gp X.K C f)(hl:aT!<1000)(ry:Cf y u)
  (h:∀s',GI_ (HV! su_)->Q () s'):GX! (setAttr u! f u):=by
 let#[mA,dq,r,wi,_,ho]:=a0g I.hok e;let hz:(kD_).length<=sizeLine:=by rw[EX,HG];omega
 exact c2y I.kIn dq c.sa c.po n.taker c.hd wi hz λh' O' sb=>h _ ?_;let hd:∃o,Ab_ dx=ψ o:=by let#[o,_,_,e',_]:=O'.ns;exact#[o,e']
 exact I.write (x:=a) (e:=dx) sv_ (.inr ho) (λb q G z=>DN_ lo! z) hd ?_;exact#[by rw[aH dq.ne];exact ho,?_,dq.ne,O'.obj,_,O'.ns,λg=>?_,λg hg=>?_]
 .let:=qS f y fs;omega
 .show Kz ((Iu f y fs).lookup g) sw!;rw[qQ];by_cases q:g=f
  .rw[FE q,FE q];exact ry
  .rw[FC q,FC q];exact r g
 .by_cases q:g=f
  .rw[q];exact(pW f y fs).1
  .exact(pW f y fs).2 g (wi g λz=>hg ?_);show sw!=υ;rw[FC q];exact z
def Inv.made(I:c!):m2! (upd (Hu_ (.own ag_)) ag_ (Hg! C))
  {s with heap:=(d4_).push hT_}:=by
 let e1:(d4_).get? h_=ψ hT!:=Br! FP χ;let e2:((d4_).push hT_).get? ag_=ψ hT_:=by
  let:=FP d4_ (o:=W.instObj C h_) χ;rwa[IN]at this
 let e3:(d4_).Ns s.heap.objs.size l5!:=#[hT!,#[],_,e1,χ,(λe he=>ξ he c_),bj_];let I1:=I.laid (a:=h_) (o:=.own ag_) (h':=s.heap.push hT!) (t':=s.toks) sy! p! #[_,e1];exact I1.laid (a:=h_+1) (o:=Hg! C) (t':=s.toks) sy! (JT (IN _ _)) ?_;let ne:h_≠h_+1:=FW (NC _);exact#[by rw[aH ne,aV],GT _,ne,e2,λ_=>υ,(Heap.Ns1.of_empty e3).at λo q=>EU _ q,λ_=>d6!,λy hy=>ξ χ hy]
def b1r(G:attributeBase e f env hX_=Cz! e)
  (h:Ac! hX_ (λo σ=>wpAny b_ A (getAttr o f τ) Q E σ) E s):Gy_ (eval sz_ env):=
 Attribute_any_ h (by rw[arm_eval_Attribute,G])
end
def CD(K:ye!)(ta:TE)(f:Str):TE:=λU H Q=>ta U H λx H1=>∃a C dx fs v,x=.ref a/\H1 a=ψ d5!/\Ud K C/\Gp K C f/\BB! f=ψ v/\Q v H1
def CI(K:ye!)(ta tv:TE)(f:Str):TS:=λD U H=>tv U H λy H1=>ta U H1 λx H2=>∃a C dx fs,x=.ref a/\H2 a=ψ d5!/\Ud K C/\Gp K C f/\aT!<1000/\
 D.nx U (upd H2 a su_)
section
variable{X:Cx}{o e value:Expr}{f:Str}{pos pos' tpos:Pos}{ta tv:TE}
def c9o(he:PE X e ta)(G:AO! e f dS!=AV! e):PE X sz_ (CD X.K ta f):=by intro Z s U H Q I h;exact b1r G dW!;rintro u s1 ⟨x,H1,I1,rx,a,C,dx,fs,v,ex,ea,c,n,l,q⟩;subst ex;obtain rfl:u=Value.ref a:=rx;exact a7o I1 ea c n l λu' s2 I2 ru=>#[v,H1,I2,ru,q]
def c9d(ha:PE X o ta)(hv:PE X value tv)(hs:Hg_ value (ψ (.Attribute o f pos'))=pure θ):PS X (Ck! [.Attribute o f pos'] value) (CI X.K ta tv f):=by intro Z s U H D I h;exact DS! (cO (hv Z s U H _ I h) λu s1 ⟨y,H1,I1,ry,q⟩=>cO (ha Z s1 U H1 _ I1 q) ?_) hs;rintro ov s2 ⟨x,H2,I2,rx,a,C,dx,fs,ex,ea,c,n,l,q2⟩;subst ex;obtain rfl:ov=Value.ref a:=rx;exact a5q I2 ea c n l ry λs3 I3=>#[U,_,I3,q2]
def c7y(he:bQ_)(I:c!)
  (h:te U H λx H1=>∃a C dx fs g,x=.ref a/\H1 a=ψ d5!/\Ud X.K C/\Vr X.K C m g/\BB! m=υ/\
   ∀s1,m2! H1 s1->rr_ (callWith pos (.ref g) [H!] sB! hY!) Q X.xe s1)
  (ht:eval sC! X.env=(do
   let ov <-eval e X.env
   standAt fx_
   let(f,first) <-holding [ov] l7!
   callWith pos f first sB! hY!)):
  wpAny d_ X.A (AV! sC!) Q X.xe s:=by
 exact W.methodCall_KW (pl:=pl) dW! ht;rintro u s1 ⟨x,H1,I1,rx,a,C,dx,fs,g,ex,ea,c,k,l,q⟩;subst ex;show"#F";exact uG I1 ea c k l (q s1 I1)
end
structure Ba(k:Nat)(A:w5!):Prop where
 hd:l7_=υ
 dp:A.depth+3*k+5<recursionLimit
 un:A.units+16*k+200<cLine
 gd:A.guards=ψ []
def Ba.mono(r:Ba k A)(h:j<=k):Ba j A:=#[r.hd,by let:=r.dp;omega,by let:=r.un;omega,r.gd]
def Ba.deeper(r:Ba Q! A)(env:Env):Ba k hY_:=
 #[r.hd,by let:=r.dp;show A.depth+1+3*k+5<_;omega,by let:=r.un;show A.units+3+16*k+200<_;omega,r.gd]
def tS{A:w5!}:(fy!).depth=A.depth+1:=by first|rfl|simp[Around.under,Code.weight,Code.isCreation,Code.isGuard,Code.isCaller,Code.frames,Code.isFrame,guardIds]
def tR{A:w5!}:(fy!).units=A.units+1:=by first|rfl|simp[Around.under,Code.cUnits,Code.frames,Code.isFrame]
def Ba.make(r:Ba Q! A)(C:uv!)(us:k_)(kw:d7!):Ba k fy!:=
 #[r.hd,by let:=r.dp;rw[tS];omega,by let:=r.un;rw[tR];omega,by first|exact r.gd|(simpa[Around.under,Code.guards,Code.isGuard,guardIds,pushGuards]using r.gd)]
def Ba.depth(r:Ba k A):A.depth<recursionLimit:=by let:=r.dp;omega
def Ba.units(r:Ba k A):A.units+64<cLine:=by let:=r.un;omega
def CC:TA:=λ_ H Q=>Q [] H
def Xn(ta:TE)(tr:TA):TA:=λU H Q=>ta U H λx H1=>tr U H1 λxs H2=>Q fy_ H2
section
variable{X:Cx}{e:Expr}{es:List Expr}{te:TE}{t:TA}{pos:Pos}
def eB:PA X [] CC:=λ_ _ _ _ H Q I h=>JM #[[],H,I,.nil,h]
def cE(ha:bQ_)(hr:d7_)(hs:z_:=by rfl):PA X J_ (Xn te t):=by intro pos Z s U H Q I h;rw[hs];show wX_ sF_ s;exact HZ dT_;rintro u s1 ⟨x,H1,I1,r1,q1⟩;exact cO sG! λus s2 ⟨xs,H2,I2,r2,q2⟩=>sG_
def BZ(t:TA):TE:=λU H Q=>t U H λxs H1=>h!<=sizeLine/\∀p,H1 p=υ->BQ_ H1 aI!
def Zr(t:TA):TE:=λU H Q=>t U H λxs H1=>h!<=sizeLine/\∀p,H1 p=υ->BQ_ H1 af!
def c9h {x1}(h:d7_):PE X sH! (BZ t):=by intro Z s U H Q I hq;exact wpAny_Tuple_spliced sJ!;let hf:H1 F!=none:=Ck_ p!;exact#[.ref F!,upd H1 s1.heap.objs.size aI!,sK!,χ,q _ hf];exact#[z,us,r,#[_,c8!,χ,_,χ]]
def yO(h:d7_):PE X d8! (Zr t):=by intro Z s U H Q I hq;exact wpAny_List_spliced sJ!;let hf:H1 F!=none:=Ck_ p!;exact sL!;exact sL_
end
abbrev Sp:=μ V->Hp->VK->XK->ν
abbrev So:=μ Env->Hp->Shared->XK->Value->Shared->ν
structure Rh(P:xz!)(w:wY!)(K:ye!)(mg:o!)(base:Heap)(A:w5!)(outer:C_)(s:x1!)(H:Hp):Prop where
 frames:A.frames=ψ outer
 mod:Mod K mg base
 bs:∀b o,base.get? b=ψ o->qY_ b=ψ o/\H b=υ
 bsz:base.objs.size<=h_
 funs:B5_ base outer
 frf:∀b∈frs outer,H b=υ
 hok:Hw P w H s.heap
 bare:Es_ s.gens
def CE(outer:C_)(P:xz!)(w:wY!)(H:Hp)(s:x1!)(Q:VK)(u:wX!)(s':x1!):Prop:=
 ∃v H',s'.os=s.os/\Es_ s'.gens/\Dn_ H/\Hw P w H' s'.heap/\Cf v u/\Q v H'
def CR(CX:So)(outer:C_)(P:xz!)(w:wY!)(H:Hp)(s:x1!)(Q:VK)(E:XK)(r:Result)(s':x1!):Prop:=
 match r with
 |.ok (.ret u)=>B1_ P
 |.ok _=>False
 |.error e=>CX outer H s E e s'
structure He(P:xz!)(w:wY!)(K:ye!)(mg:o!)(base:Heap)(CX:So)(k:Nat)(f:uv!)(fd:FuncData)(ps:l!)(sp:Sp):Prop where
 len:∀vs H Q E,Bk_ H->at!=K!
 run:∀(A:w5!) (outer:C_) (s:x1!) (H:Hp) (args:Args) (us:k_) (vs:l_) (Q:VK) (E:XK),Ba k A->G0_ A->B2! args bB!->Bp vs us->Bk_ H->
  codeAny B! A l9! sM! s
def He.mono{K:ye!}(F:GB! He j)(h:j<=k):
  He P w K mg base CX k f fd ps sp:=#[F.len,λA outer s H args us vs Q E hr=>F.run A outer s H args us vs Q E (hr.mono h)]
def Rh.make{K:ye!}(e:sM_)(C:uv!)(us:k_)(kw:d7!):
  Rh P w K mg base fy! outer s H:=#[by first|exact e.frames|(simpa[Around.under,Code.envs,Code.isFrame,pushEnvs]using e.frames),e.mod,e.bs,e.bsz,e.funs,e.frf,e.hok,e.bare]
section
variable{X:Cx}{Z:List (Addr×Obj)}{U:St}{H:Hp}{s s':x1!}
def Inv.env0(I:c!):qS_ Rh X.mg X.base X.A X.stack s H:=
 #[fz!,I.ok.mod,I.bs,GB I.ok.bsz I.sz,I.stack,I.stkFree,I.hok,I.bare]
def Inv.after(I:c!)(h:Dl_ CE X.prog X.w H s Q u s'):BS_ EP u s':=by let#[v,H',os,bare,un,hok,r,q]:=h;let#[hh,g,d,t,ou]:=s';obtain rfl:ou=s.os:=os;exact#[v,H',I.call (h':=hh) (g':=g) (d':=d) (t':=t) (ch:=[]) un hok bare fz_,r,q]
end
def Xo(sp:Sp)(du:l_)(E:XK)(t:TA):TE:=λU H Q=>t U H λvs H1=>sp bB_ H1 Q E
def Zp(C:uv!)(m:Str)(sp:Sp)(du:l_)(E:XK)(ta:TE)(t:TA):TE:=λU H Q=>ta U H λx H1=>∃a dx fs,x=.ref a/\H1 a=ψ d5!/\BB! m=υ/\
 t U H1 λvs H2=>sp (x::bB_) H2 Q E
def Zq(C:uv!)(sp:Sp)(du:l_)(E:XK)(t:TA):TE:=λU H Q=>t U H λvs H1=>∀x dx,H1 x=υ->H1 dx=υ->dx≠x->
 sp (.ref x::bB_) mc! sP_ E
def Dq(K:ye!)(fd:FuncData)(ps:l!)(ds:k_):Prop:=
 ∀(s:x1!) (us:k_),Br! K.In->(cs_).length=K!->B2! ct! (ps.zip cs_)
def Dq.all{K:ye!}(h:∀us:List Value,am_=K!->D3! fd=pure bB!):AV_ K:=λs us _ hl=>by
 rw[FY]at hl ⊢;exact .of_eq (h us hl)
def Ig(CX:So)(X:Cx)(E:XK):Prop:=∀(Z:j_) (U:St) (H:Hp) (s:x1!) (e:wX!) (s':x1!),m2! H s->HE_ H s->X.xe e s'
section
variable{X:Cx}{CX:So}{k:Nat}{f C:uv!}{fd:FuncData}{ps:List Str}{sp:Sp}{du:List V}{ds:List Value}{E:XK}{x m:Str}{p pos be:Pos}{e o:Expr}{es:List Expr}{ta:TE}{t:TA}
def a6a(F:fA_)(hr:T!)(G:de!)(hd:de_)(hx:df!)
  (I:c!)(r:c4!)(h:sp bB_ H Q E):Gp! md! ad_:=by
 let r2:Bp bB_ cs_:=Fl_ hd;let hl:(cs_).length=K!:=by rw[<-r2.length];exact Hy! h
 exact OH (OB sR! λr s' hq=>?_);cases r with
 |error e=>exact hx Z U H s e s' I hq
 |ok fl=>
  cases fl with
  |ret u=>exact I.after hq
  |next=>exact ye_ hq
  |brk=>exact ye_ hq
  |cont=>exact ye_ hq
def sG(F:fA_)(hr:T!)(hg:x_)(hm:md_)(hk:fB!)(G:de!)(hd:de_)(hx:df!)
  (ha:d9!)(al:s_:=by decide)(he:z_:=by rfl)(ao:W_:=by rfl):
  PE X ah! sR_:=by
 show"!D";exact KD d9_;exact W.callWith_K (h₀:=X.base) I.ok.mod.kin hk sS_ he ao;exact a6a F hr G hd hx I1 r q
def c3x(he:PE X o ta)(c:d5_)(hm:Vr X.K C m f)(F:fA_)(hr:T!)(G:de!)(hd:de_)(hx:df!)(ha:d9!)
  (ai:z_:=by rfl)(ao:W_:=by rfl)
  (ht:eval h1_ X.env=(do
   let ov <-eval o X.env
   standAt fx_
   let(f,first) <-holding [ov] l7!
   callWith pos f first sU! hY!):=by rfl):
  PE X h1_ (Zp C m sp du E ta t):=by
 show"!D";exact W.methodCall_KW (pl:=pl) dW! ht;rintro u s1 ⟨x,H1,I1,rx,a,dx,fs,ex,ea,l,q⟩;subst ex;show"#F";exact uG I1 ea c hm l ?_;exact W.callWith_K (first:=[H!]) (h₀:=X.base) I.ok.mod.kin hm.kp (cO (ha pos Z s1 U H1 _ I1 q) λus s2 ⟨vs,H2,I2,r,q2⟩=>sU_) ai ao;exact a6a (us:=.ref a::us) (vs:=.ref a::vs) F hr G hd hx I2 (Hy_ r) q2
structure Mk(K:ye!)(C f:uv!):Prop where
 makes:W.makesIn K C=τ
 init:AR! "__init__"=ψ dc!
 fn:W.isFn K ad!=τ
 kp:Bt_ K m_=τ
def b6u(M:Mk X.K C f)(F:fA_)(hr:me!)(G:de!)(hd:de_)
  (hx:df!)(I:c!)(r:c4!)
  (h:∀x dx,H x=υ->H dx=υ->dx≠x->sp (.ref x::bB_) (upd (upd H dx g9_) x mb_) sP_ E):
  wpAny d_ X.A (call m_ us) ad_ X.xe s:=by
 let hq:=BJ! h ag_ (Cb_ (KL _)) h2! (FW (NC _));let I2:=Inv.made (C:=C) I;let r2:Bp (V.ref ag_::bB_) sX_:=Hy_ (Fl_ hd);let hl:(Value.ref ag_::us++ds).length=K!:=by
  let e:=r2.length;rw[Hy! hq]at e;exact e.symm
 exact OH (b9k (f:=f) I.kIn M.makes M.init (GS.mp M.fn) (OB (F.run _ X.stack _ _ #[Value.ref ag_::us,[]] sX_ _ _ E (hr.make C us [])
  (I2.env0.make C us []) (G _ (Value.ref ag_::us) I2.kIn hl) r2 hq) λr s' i8=>?_))
 cases r with
 |error e=>exact hx Z U _ _ e s' I2 i8
 |ok fl=>
  cases fl with
  |ret u=>
   let#[v,H',I3,rv,ev,q3]:=I2.after i8;subst ev;exact#[rv,#[V.ref ag_,H',I3,χ,q3]]
  |next=>exact ye_ i8
  |brk=>exact ye_ i8
  |cont=>exact ye_ i8
def c3y(M:Mk X.K C f)(F:fA_)(hr:me!)(hg:x_)(hm:h2_)(G:de!)(hd:de_)(hx:df!)
  (ha:d9!)(al:s_:=by decide)(he:z_:=by rfl)(ao:W_:=by rfl):
  PE X ah! (Zq C sp du E t):=by
 show"!D";exact KD d9_;exact W.callWith_K (h₀:=X.base) I.ok.mod.kin M.kp sS_ he ao;exact b6u M F hr G hd hx I1 r q
end
structure Aq(N P:l!)(sc:Scope):Prop where
 kind:sc.kind=.function
 co:sc.isCoroutine=θ
 gen:sc.isGenerator=θ
 nd:N.Nodup
 pre:N.take P.length=P
 par:∀x∈P,Bd_ x=Ad! ψ\/Bd_ x=ψ .cell
 nofree:∀y∈sc.names,y.2≠.free
def xO{kindOf:h3!}:∀{binds:d7!} {m:o!},sZ!->bindL kindOf binds m x=m x
 |[],_,_=>rfl
 |(n,v)::r,m,h=>by
  delta bindL;rw[xO λw hw=>h w (EW _ hw)];split
  .let:x≠n:=by rintro rfl;exact h v EY
   simp[this]
  .rfl
def xQ{kindOf:h3!}:∀{binds:d7!} {m:o!},sZ!->bindC kindOf binds m x=m x
 |[],_,_=>rfl
 |(n,v)::r,m,h=>by
  delta bindC;rw[xQ λw hw=>h w (EW _ hw)];split
  .rfl
  .let:x≠n:=by rintro rfl;exact h v EY
   simp[this]
def xP{kindOf:h3!}:∀{P:l!} {vs:k_} {i:δ} {m:o!},P.Nodup->P[i]?=ψ x->vs[i]?=ψ v->kindOf x=Ad! ψ->
  bindL kindOf (P.zip vs) m x=ψ v
 |[],_,_,_,_,h,_,_=>by simp at h
 |_::_,[],_,_,_,_,h,_=>by simp at h
 |p::P,w::vs,0,m,nd,O,h2,hk=>by
  simp at O h2;subst O;subst h2;show D3_ bindL p=_;delta bindL;rw[xO λv hv=>(h4_).1 (LS hv).1,FE hk];simp
 |p::P,w::vs,i+1,m,nd,O,h2,hk=>by
  show D3_ bindL x=_;delta bindL;exact xP (i:=i) (h4_).2 sZ_ s0! hk
def xR{kindOf:h3!}:∀{P:l!} {vs:k_} {i:δ} {m:o!},P.Nodup->P[i]?=ψ x->vs[i]?=ψ v->kindOf x≠Ad! ψ->
  bindC kindOf (P.zip vs) m x=ψ v
 |[],_,_,_,_,h,_,_=>by simp at h
 |_::_,[],_,_,_,_,h,_=>by simp at h
 |p::P,w::vs,0,m,nd,O,h2,hk=>by
  simp at O h2;subst O;subst h2;show D3_ bindC p=_;delta bindC;rw[xQ λv hv=>(h4_).1 (LS hv).1,FC hk];simp
 |p::P,w::vs,i+1,m,nd,O,h2,hk=>by
  show D3_ bindC x=_;delta bindC;exact xR (i:=i) (h4_).2 sZ_ s0! hk
nonrec def start(N:l!)(vs:l_):St:=vs.map ψ++Cc_ (h5! - at!)
def Fd(CX:So)(P:xz!)(w:wY!)(K:ye!)(mg:o!)(base:Heap)(N:l!)(qual:Str)(scope:Scope)(f:uv!)(cd:wX!)(A:w5!)(outer:C_)(s:x1!)(H:Hp)(E:XK):Cx where
 prog:=P
 w:=w
 K:=K
 mg:=mg
 base:=base
 A:=A.deeper fB_
 N:=N
 s₀:=s
 H₀:=H
 env:=Bl_ qual scope f cd
 outer:=outer
 stack:=Bl_ qual scope f cd::outer
 ex:=[]
 calm:=τ
 fn:=λ_=>τ
 pn:=[]
 xe:=λe s'=>wpAny B! (A.deeper fB_) (leaving fB_ e) (λ_ kx=>CX outer H s E e kx) (λe' kx=>CX outer H s E e' kx) s'
def a5b{sc:Scope}(h:Bd_ x=ψ .cell):∃c,(cellsFrom n sc.names []).lookup x=ψ c:=by let q:=NP sc.names n [] hs_;exact MQ.mp q
def qA{K:ye!}
  (S:h5_)(hd:bk_)(e0:sM_)(hl:at!=K!)(r:c4!)
  (x:BJ! InCallC s (EP_ bindL) s1! (EP_ bindC) s1):
  Inv s1_ [] bC! H s1:=by
 let ao:K!<=h5!:=by let:=G3! S.pre;rw[JK]at this;omega
 let#[O,tk,rfl,hk]:=x.done;let tu:∀b:Addr,b∉(s1_).ex:=λb z=>Ac_ s2_ c_;exact⟨#[e0.mod,S.kind,χ,χ,FF _,λy z c O h2=>?_,λy hy=>?_,λy c _ h=>?_,λ_=>hd,s3_,.inr aa_,s4_,e0.bs,e0.bsz,λb _ _=>tu b,s4_,e0.funs,e0.frf],
  rfl,e0.bare,Un.kept hk,#[_,x.toInCall.ns,λi y v O h2 h3=>?_],λy c h=>#[_,x.cell y c h],e0.hok.fresh p!,λy c h=>?_,λp hp=>Ac_ (show p∈([]:μ dO!)from hp) c_,e0.hok.kept hk,?_⟩
 .exact name_of_addr x.apart (IR O) (IR h2)
 .let hy:BL! y=ψ .cell\/BL! y=ψ .free:=hy;obtain hy|hy:=hy
  .exact a5b hy
  .exact AS! (S.nofree _ (IR hy))
 .exact JH s5_
 .let hi:i<at!:=by
   delta start at h2;by_cases hi:i<at!
   .exact hi
   .rw[ea!]at h2;rw[KQ]at h2;split at h2<;>cases h2
  let ha:vs[i]?=ψ v:=by
   delta start at h2;rw[IF fC_,GF]at h2;cases e:vs[i]? with
   |none=>rw[e]at h2;rcases h2
   |some a=>rw[e]at h2;cases h2;rfl
  let#[u,hu,rv]:=r.get ha;let hp:ps[i]?=ψ y:=by
   rw[<-S.pre,List.getElem?_take_of_lt a!];exact O
  let SH:ps.Nodup:=by rw[<-S.pre];exact S.nd.sublist (List.take_sublist _ _)
  exact#[u,rv,?_];obtain k|k:=S.par y (JE hp)
  .exact .inl #[k,xP SH hp hu k]
  .let#[c,e]:=a5b (n:=h_+1) k;exact .inr #[.inl k,c,e,?_];let q:=x.cell y c e;rw[xR SH hp hu (by show scope.names.lookup y≠_;rw[k];decide)]at q;exact q
 .exact e0.hok.fresh (JH s5_)
 .delta start;show _=h5!;rw[FX,EX,JU];omega
def c8c{K:ye!}{kV:wX!}
  (lk:mi!)(bj:fD_)(S:h5_)
  (len:h6_)
  (li:∀(A:w5!) (outer:C_) (s:x1!) (H:Hp) (vs:l_) (Q:VK) (E:XK),Ba k s8!->Bk_ H->
   ∃t,Dm_ ea_ t/\t {nx:=λ_ H'=>Hz! H',rt:=Q} bC! H):
  He P w K mg base CX Q! f h6! ps sp:=by
 exact mi_;let hl:=BT_ len gi;let KX:Br! K.In:=e0.mod.kin.keeps λb o e=>(eb!).1;let bo:mk!:=e0.mod.nolimit.keeps λb o e=>(eb!).1;let cn:∀y∈ps.zip us,scope.names.lookup y.1=Ad! ψ\/mj_:=by
  rintro⟨n,v⟩ hy;obtain q|q:=Ev! n
  .exact .inl q
  .exact mk_
 exact Do! codeAny_call_function ml!;exact MU S.kind cn λenv he s1 x=>?_;subst he;exact tb!;let#[t,ht,hq]:=CX_ (hr.deeper _) gi;let I:CY! ea_:=qA S hr.hd e0 hl r x;exact GK mm_ mn! λe s' hs=>hs;let ak:∀{ac:St} {H':Hp} {v:V} {u:wX!},Br_ ea_ s'->Cf v u->Q v H'->B1_ P:=
  λ{ac H' v u} J rv q=>mn_
 cases fl with
 |ret u=>
  show"!a"
 |next=>
  show"!F"
 |brk=>
  show"!5"
 |cont=>
  show"!5"
section
variable{X:Cx}{x:Str}{p pos:Pos}{e:Expr}{es:List Expr}{t:TA}{id T:String}{r:List V->Hp->VK->Prop}
def CF(r:co!)(t:TA):TE:=λU H Q=>t U H λvs H1=>r vs H1 Q
def jL(hc:lQ!)(hg:x_)(hm:bx!)(hv:mo_)(ha:d9!)(hn:bx_:=by decide)(al:s_:=by decide)
  (he:z_:=by rfl)(ao:W_:=by rfl):EV_ PE:=by
 show"!D";exact KD mp_;exact PyProof.Rows.callWith_builtin1 tc! he ao
def b3b(hc:hP_)(hg:x_)(hm:bx!)(hv:fE_)(ha:d9!)(hn:bx_:=by decide)(al:s_:=by decide)
  (he:z_:=by rfl)(ao:W_:=by rfl):EV_ PE:=by
 show"!D";exact KD mp_;exact LR tc! he ao
end
end L2
namespace HT
open PySem PyProof.Rows
section
open PySem.SeqAt
open PySem.AutoSeq1 (wpAny_loadPart')
open PySem.MeetsSeq PySem.MeetsSeq2 PySem.MeetsSeq3
end
section
variable{prog:xz!}{w:wY!}{A:w5!}{E:Value->Shared->Prop}{s:x1!}
def cat_tup(ht:Br! IsTup t bC_)(G:Br! IsTup b ws.toArray)(hv:vs≠[])
  (O:ws=[]->Q hR! s)(h2:ws≠[]->Q c9! {s with heap:=s.heap.push {cls:=.type "tuple",data:=.seq (vs++ws).toArray}})
  (hsz:at!+bl!<=sizeLine):Gy_ (binaryOp .Add hR! ec!):=by
 let#[#[cls,dd,data,sl],ho,hc,n,hd]:=id ht;let#[#[VM,wb,data2,ky],ow,tz,n2,io]:=id G;simp only at hc hd tz io;subst hc hd tz io;let e:bC_++ws.toArray=(vs++ws).toArray:=by simp
 by_cases hw:ws=[]
 .exact AQ_ _
   (Cq! tuple_addW1 (BE! hw)) #[ho,ow,O hw]
 .exact AQ_ _
   (Cq! tuple_addW2 mt_ (by rw[FG,FG];exact hsz)) #[ho,ow,?_]
  rw[e];exact h2 hw
nonrec def sIx(n d:δ):wY_ Int->δ
 |none=>d
 |some v=>if v<0 then(mu!).toNat else min v.toNat n
def sIx_none(n d:δ):sIx n d υ=d:=χ
def sIx_nat(n d k:δ):sIx n d (ψ (k:Int))=min k n:=by show(if(k:Int)<0 then((k:Int)+(n:Int)).toNat else min (k:Int).toNat n)=min k n;rw[a5_,KA]
def c8t(n d:δ)(hd:d<=n)(o:T_):sIx n d o<=n:=by
 cases o with
 |none=>exact hd
 |some v=>
  show tg_<=n;by_cases hv:v<0
  .rw[FE hv];omega
  .rw[FC hv];exact Nat.min_le_right _ _
def b1o(v:Int)(n d:δ):ti!=((sIx n d an!:δ):Int):=by
 show ti!=((tg_:δ):Int);by_cases hv:v<0
 .simp only[FE hv];omega
 .simp only[FC hv];omega
def a8e(lo hi:T_)(n:δ):Builtin.Slice.sliceAdjust lo hi 1 (n:Int)=(ia_,ti_):=by
 let O:¬((1:Int)<0):=by omega
 delta Builtin.Slice.sliceAdjust;dsimp only[O,if_false];exact Prod.ext ?_ ?_
 .cases lo with
  |none=>rfl
  |some v=>exact b1o v n 0
 .cases hi with
  |none=>rfl
  |some v=>exact b1o v n n
def a6k(i j:δ):Builtin.Slice.slicePlaces (i:Int) (j:Int) 1=j - i:=by
 delta Builtin.Slice.slicePlaces;let O:(1:Int)>0:=by omega
 simp![O,IB,Int.ediv_one];split<;>omega
def sP(p:IsPart v o)(h:Q o s):Gy_ (Builtin.Slice.slicePartIndex v):=by
 cases p with
 |none=>exact slicePart_none h
 |int i t=>exact slicePart_int h
def pI{lo hi:T_}{Q:Int×Int×δ->Shared->ν}(hs:tj!)(pl:IsPart vl lo)(pu:IsPart vu hi)
  (h:Q (ia_,1,sIx n n hi - sIx n 0 lo) s):Gy_ (Builtin.Slice.sliceApplied ib! (pure (n:Int))):=by
 let#[os,ju,qr,wc]:=id hs;delta Builtin.Slice.sliceApplied Builtin.Slice.sliceFields;exact GS! (GM ju wc (x:=vl) χ (ES (GM ju wc (x:=vu) χ (ES (GM ju wc (x:=.none) χ K_)))));exact Do_ slicePart_none;show wX_ (GH_ ((1:Int)==0)) s;rw[bD!];exact ES (sP pl (ES (sP pu (ES K_))));show wpAny _ _ (match Builtin.Slice.sliceAdjust lo hi 1 (n:Int)with|(lo,hi)=>pure (lo,(1:Int),Builtin.Slice.slicePlaces lo hi 1)) _ _ s;rw[a8e lo hi n];show wX_ (pure (ia_,(1:Int),Builtin.Slice.slicePlaces ia_ ti_ 1)) s;rw[a6k];exact EV h
def b7r(xs:Z!)(i k:δ):((BU! k).filterMap λ(m:Nat)=>xs[(mv_).toNat]?).toArray=((xs.toList.drop i).take k).toArray:=by
 let e:(λ(m:Nat)=>xs[(mv_).toNat]?)=λm=>xs[i+m]?:=by
  funext m;let:(mv_).toNat=i+m:=by omega
  rw[this]
 rw[e];let:=pick_run xs i k;rw[List.filterMap_map]at this;let e2:((λx=>xs[x]?)∘λx=>i+x)=λm=>xs[i+m]?:=χ;rw[e2]at this;rw[this]
def getItem_tuple_cut{lo hi:T_}(ht:Br! IsTup t items)(hs:tj!)(pl:IsPart vl lo)(pu:IsPart vu hi)
  (hw:¬(sIx items.size 0 lo=0/\sIx items.size items.size hi=fF_))
  (h:Q c9! {s with heap:=s.heap.push {cls:=.type "tuple",data:=.seq (mw!).toArray}})
  (hsz:fF_<=sizeLine):Gy_ (getItem hR! ib!):=by
 let we:sizeOk (.seq (mw!).toArray):=by
  show(mw!).toArray.size<=sizeLine;rw[FG,JK,HV,IE];exact GB (Nat.min_le_right _ _) (GB (Nat.sub_le _ _) hsz)
 let hj:Cv! items.size hi<=fF_:=c8t _ _ p! hi;let#[os,ju,qr,wc]:=id hs;let VN:Eg! ib! "slice":=#[os,ju,qr];delta getItem
 try with_reducible exact GE ?_
 first|exact ES K_|skip
 exact ES (wpAny_sequenceKey ht.typeIs a_ ?_);exact ES (HB (name:=qZ! "__getitem__") ht.typeIs LC
  (GQ LC ht.typeIs entry_tuple_getitem ?_ (args_tuple_getitem _ _)))
 show wX_ (Builtin.Tuple.tupleItemsOf hR!>>=_) s;exact Cl! tupleItemsOf_ ht;exact Cl! wpAny_typeOf VN;rw[FE a_];exact ES (pI hs pl pu ?_);let oy:¬(tm!=τ):=by
  intro q;rw[FB,FB]at q;let q1:tl_=0:=eq_of_beq q.1.1;let q2:Cv! items.size hi - Cv! 0 lo=fF_:=eq_of_beq q.2;exact hw #[n!,n!]
 show wX_ (GH_ tm!) s;rw[FC oy,b7r]
 first
  |exact ES (m:=ib_) (GY ic! we)
  |exact ES (m:=ib_) (GY (CX! ic!) we)
  |exact E9! (EV ic!)
  |exact E9! ic!
end
end HT
namespace L2
open PySem PySem.Spec PyProof.Rows
abbrev TO:=St->Hp->(ι Int->Hp->ν)->ν
def PO(X:Cx)(e:my_)(t:TO):Prop:=
 ∀(Z:j_) (s:x1!) (U:St) (H:Hp) (Q:tn_),m2! H s->t U H Q->
  wpAny d_ X.A (evalPart e X.env) (λu s'=>∃o H',GI_ H'/\IsPart u o/\Q o H') X.xe s
def Wm:TO:=λ_ H Q=>Q υ H
def Zm(t:TE):TO:=λU H Q=>t U H λx H1=>∃i,x=.int i/\Q (ψ i) H1
section
variable{X:Cx}{e:Expr}{te:TE}{lo hi:Option Expr}{tl th:TO}{pos p2:Pos}
def c3u:PO X υ Wm:=by intro Z s U H Q I h;rw[evalPart_none];exact EV #[υ,H,I,.none,h]
def c3t(h:bQ_):PO X bR! (Zm te):=by intro Z s U H Q I hw;rw[evalPart_some];exact cO k5! ?_;rintro u s1 ⟨x,H1,I1,r1,q1⟩;let#[i,rfl,q]:=q1;let#[t,rfl]:=r1;exact#[ψ i,H1,I1,.int i t,q]
def Xc(X:Cx)(r:to_):Prop:=
 ∀(Z:j_) (s:x1!) (U:St) (H:Hp) (x:V) (v vl vu:wX!) (lo hi:T_) (sl:uv!) (Q:VK),m2! H s->Cf x v->s.heap.IsSliceOf sl vl vu .none->IsPart vl lo->IsPart vu hi->r x lo hi H Q->
  ∃T id,E9_ aA!=pure (ψ dg!)/\Eg! v T/\Gp! (getItem v ib!) ad_
def Xc.or(h:Xc X r)(h':Xc X r'):Xc X (λx lo hi H Q=>r x lo hi H Q\/r' x lo hi H Q):=by
 intro Z s U H x v vl vu lo hi sl Q I rx hs pl pu q;obtain q|q:=q
 .exact GB_ h
 .exact GB_ h'
def DN(r:to_)(te:TE)(tl th:TO):TE:=λU H Q=>te U H λx H1=>tl U H1 λl H2=>th U H2 λu H3=>r x l u H3 Q
def a2q(hr:Xc X r)(he:bQ_)(hl:PO X lo tl)(hu:PO X hi th):PE X (GN_ e mz!) (DN r te tl th):=by intro Z s U H Q I h;exact Hh! dW!;rintro v s1 ⟨x,H1,I1,r1,q1⟩;exact wpAny_Slice (cO tp! λvl s2 ⟨l,H2,I2,pl,q2⟩=>cO tp_ ?_);rintro vu s3 ⟨u,H3,I3,pu,q3⟩;rw[evalPart_none];exact EV ?_;let I4:m2! H3 {s3 with heap:=s3.heap.push {cls:=.type "slice",data:=Cj! vl}}:=I3.kept (t':=s3.toks) λb ob q=>EU _ q;let#[T,id,hT,ht,hg]:=hr Z {s3 with heap:=s3.heap.push {cls:=.type "slice",data:=Cj! vl}} U H3 x v vl vu l u s3.heap.objs.size Q I4 r1 (Heap.IsSliceOf.new ..) pl pu q3;show rr_ (subscriptTail e mz! v (.ref mz_)) ad_ X.xe {s3 with heap:=s3.heap.push {cls:=.type "slice",data:=Cj! vl}};exact tail_any (ops:=[.ref mz_,v]) ht hT hg mA_
def Sg(xs:l_)(lo hi:T_):μ V:=(xs.drop mB!).take mB_
def rO(xs:l_)(lo hi:T_):(fH_).length<=h!:=by delta Sg;rw[JK,HV];omega
def Yg(K:ye!):V->wY_ Int->wY_ Int->Hp->VK->Prop:=λx lo hi H Q=>∃a xs,x=.ref a/\B0_ K/\
 ¬(HT.sIx xs.length 0 lo=0/\HT.sIx xs.length xs.length hi=h!)/\∀p,H p=υ->BQ_ H (.tup fH_)
def b6h:Xc X (Yg X.K):=by
 intro Z s U H x v vl vu lo hi sl Q I rx hs pl pu h;let#[a,xs,rfl,hx,hw,q]:=h;subst rx;let#[its,r,ht,hz]:=A1! hx;let az:ed!=h!:=by rw[FG];exact r.length.symm
 exact#["tuple",_,LC.lookup,ht.typeIs,?_];exact HT.getItem_tuple_cut ht hs pl pu (w4_ az hw) ?_ (w4_ az hz);rw[az];exact#[fI!,_,I.laid (t':=s.toks) (o:=.tup fH_) mC! p! ?_,χ,q _ h2!];exact#[tq_,_,tr!,mD!]
def Xr(K:ye!):R2:=λx y H Q=>∃a b xs ys,x=.ref a/\y=.ref b/\B0_ K/\Fe K H b ys/\xs≠[]/\h!+H_<=sizeLine/\
 (ys=[]->Q u! H)/\(ys≠[]->∀p,H p=υ->Q bk! (Ev_ p dL_))
def Bp.nil_iff(r:dL!):us=[]↔xs=[]:=by
 cases r with
 |nil=>simp
 |cons _ _=>simp
def c4g:Df! Xr:=by intro Z s U H x y v u Q I rx ry h;let#[a,b,xs,ys,rfl,rfl,ha,G,hx,hz,q1,q2]:=h;subst rx;subst ry;let#[its,r1,p1,_]:=A1! ha;let#[qt,r2,p2,_]:=A1! G;exact HT.cat_tup p1 p2 (λz=>hx (r1.nil_iff.mp z)) (λz=>#[H!,H,I,χ,q1 (r2.nil_iff.mp z)]) mD_ (by rw[<-r1.length,<-r2.length];exact hz);exact#[fI!,_,I.laid (t':=s.toks) (o:=.tup dL_) mC! p! ?_,χ,q2 (λw=>z (r2.nil_iff.mpr w)) _ h2!];exact#[by rw[FX];exact hz,_,r1.append r2,mD!]
end
def Dd(n:δ)(i:Int):ι Nat:=if 0<=i then(if i<n then ψ i.toNat else υ)else if -(n:Int)<=i then ψ (i+n).toNat else υ
def Da(xs:A_)(i:Int):ι α:=(Df_ Dd i).bind λj=>xs[j]?
def b0s(h:Dd n i=ψ j):seqIndex? i n=ψ j/\j<n/\-(n:Int)<=i/\i<n:=by
 delta Dd at h;by_cases h0:0<=i
 .rw[FE h0]at h;by_cases O:i<n
  .rw[FE O]at h;let e:i.toNat=j:=GN h;exact#[by rw[seqIndex_of h0 O,e],n!,n!,O]
  .rw[FC O]at h;rcases h
 .rw[FC h0]at h;by_cases O:-(n:Int)<=i
  .rw[FE O]at h;let e:(i+n).toNat=j:=GN h;exact#[by rw[seqIndex_neg a! O,e],n!,O,n!]
  .rw[FC O]at h;rcases h
def a1g(h:Da xs i=ψ v):∃j,seqIndex? i h!=ψ j/\xs[j]?=ψ v/\j<h!/\-id_<=i/\i<h!:=by
 delta Da at h;cases e:Df_ Dd i with
 |none=>rw[e]at h;rcases h
 |some j=>
  rw[e]at h;let#[O,h2,h3,h4]:=b0s e;exact#[j,O,h,h2,h3,h4]
def Ny(b:Expr):Prop:=∀o i,Hz_ b=operate [o,i] (getItem o i)
def Uq(X:Cx)(r:R2):Prop:=
 ∀(value slice:Expr) (Z:j_) (s:x1!) (U:St) (H:Hp) (x y:V) (v u:wX!) (Q:VK),m2! H s->Cf x v->Cf y u->Eu! r->
  subscripted slice θ v u=operate [v,u] (getItem v u)->Gp! (subscriptTail value slice v u) ad_
def BC(X:Cx)(id:String)(r:mE!):Prop:=
 ∀(Z:j_) (s:x1!) (U:St) (H:Hp) (x:V) (xs:l_) (v:wX!) (us:k_) (Q:VK),m2! H s->Cf x v->Bp xs us->r x xs H Q->
  wpAny d_ X.A tv_ ad_ X.xe s
section
variable{X:Cx}{a b:Expr}{ta tb:TE}{pos:Pos}
def Uq.or(h:Uq X r)(h':Uq X r'):Uq X r0!:=by
 intro value slice Z s U H x y v u Q I rx ry q hs;obtain q|q:=q
 .exact CJ_ h
 .exact CJ_ h'
def b7x(hr:Uq X r)(ha:aJ!)(G:bO_)(hs:Ny b):PE X mE_ fs_:=by intro Z s U H Q I h;exact Hh! (d2d ha G I h λv u s2 x y H2 I2 rx ry q=>hr a b Z s2 U H2 x y v u Q I2 rx ry q (hs _ _))
def AE(K:ye!):R2:=λx y H Q=>∃p xs i v,x=.ref p/\y=.int i/\DD! p/\Da xs i=ψ v/\Q v H
def AC(K:ye!):R2:=λx y H Q=>∃p xs i v,x=.ref p/\y=.int i/\Fe K H p xs/\Da xs i=ψ v/\Q v H
def AD:R2:=λx y H Q=>∃z i c,x=.str z/\y=.int i/\D!<=sizeLine/\Da z.cps.toList i=ψ c/\Q mF! H
def b0r:Uq X (AE X.K):=by
 intro value slice Z s U H x y v u Q I rx ry h hs;let#[p,xs,i,z,rfl,rfl,hq,he,q]:=h;subst rx;let#[t,rfl]:=ry;show"!_";let#[j,O,h2,h3,h4,h5]:=a1g he;let#[w,ew,bf]:=r.get h2;let hl:=W!;let hn:=pU;let ak:Hk_ w:=tx!;by_cases h0:0<=i
 .let hj:i.toNat=j:=by
   rw[seqIndex_of h0 h5]at O;exact GN O
  exact DF! item_listR h0 a! tx_ ak hs
 .let hj:(i+(ed!:Int)).toNat=j:=by
   rw[seqIndex_neg a! h4]at O;rw[FG,<-hl];exact GN O
  exact subscriptTail_builtinR (x:=w) pl.isList.typeIs ty!
   (wpAny_getItem_list_neg (Q:=ty_) pl.isList a! tz_ a! tx_ #[χ,ak]) hs
def d0y:Uq X (AC X.K):=by
 intro value slice Z s U H x y v u Q I rx ry h hs;let#[p,xs,i,z,rfl,rfl,hq,he,q]:=h;subst rx;let#[t,rfl]:=ry;let#[its,r,pl,hz]:=A1! hq;let#[j,O,h2,h3,h4,h5]:=a1g he;let#[w,ew,bf]:=r.get h2;let hl:=W!;let hn:=pU;let ak:Hk_ w:=tx!;exact subscriptTail_builtinR (x:=w) pl.typeIs slot_tuple_getitem.lookup
  (getItem_tuple (j:=j) (Q:=ty_) pl a! a! (Db! O) (AM! ew) #[χ,ak]) hs
def d0z:Uq X AD:=by
 intro value slice Z s U H x y v u Q I rx ry h hs;let#[z,i,c,rfl,rfl,hz,he,q]:=h;let#[t,rfl]:=rx;let#[t',rfl]:=ry;let#[j,O,h2,h3,h4,h5]:=a1g he;let hl:mF_=D!:=by simp[Str.length]
 rw[hl]at O h4 h5;let hn:=pU;exact tail_any (MH s z t) slot_str_getitem.lookup (getItem_str (c:=c) (by
  let e1:decide (i< -(2 ^ 63:Int))=false:=FA a!;let e2:decide (i>=2 ^ 63)=false:=FA a!;rw[e1,e2,OG]) (by rw[O];simpa using h2) (FI_ L! q)) hs
def CK(K:ye!):R2:=λx y H Q=>AE K x y H Q\/AC K x y H Q\/Eu! AD
def aJ:Uq X (CK X.K):=b0r.or (d0y.or d0z)
def a7i(its:k_)(n j:δ)(u:wX!):Obj.mapSeq tA_ {cls:=.type "list",data:=Bk! n}={cls:=.type "list",data:=.seq (its.set j u).toArray n}:=by simp[Obj.mapSeq]
def Inv.lst(I:c!)(h:H p=ψ af!):
  ∃(its:k_) (n:δ),E5_ xs/\qY_ p=ψ {cls:=.type "list",data:=Bk! n}/\h!<=sizeLine:=by
 let#[z,its,n,r,e]:=I.hok p _ h;exact#[its,n,r,e,z]
def Inv.lstUpd{its its':k_}(I:c!)(h:H p=ψ af!)
  (ho:qY_ p=ψ {cls:=.type "list",data:=Bk! n})(hf:f {cls:=.type "list",data:=Bk! n}={cls:=.type "list",data:=.seq its'.toArray n'})(r:Bp ys its')(hz:ie!)(t:δ):
  Inv X Z U (upd H p ap_) {s with heap:=By_ p f,toks:=t}:=by
 let e:(By_ p f).get? p=ψ {cls:=.type "list",data:=.seq its'.toArray n'}:=by
  rw[GL f ho (by rw[hf]<;>rfl),hf]
 exact I.write (x:=p) (e:=p) (by rw[h];trivial) q_ (λb u G q=>(GR _ _ fJ!).trans q) a6! ?_;exact#[hz,its',n',r,e]
def Zy:V->V->V->Hp->lf!->Prop:=λo i v H Q=>∃p xs k j,o=.ref p/\i=.int k/\H p=ψ af!/\Df_ Dd k=ψ j/\Q tC!
def a1x:Ul X Zy:=by
 intro Z s U H o i v ov iv u Q I ro ri rv h;let#[p,xs,k,j,rfl,rfl,hp,hj,q]:=h;subst ro;let#[t,rfl]:=ri;let#[its,n,r,ho,hz]:=I.lst hp;let#[O,h2,h3,h4]:=b0s hj;let hl:=W!;let hn:=pU;let I':m2! tC! {s with heap:=By_ p (Obj.mapSeq tA_)}:=
  I.lstUpd hp ho (a7i its n j u) (r.set rv j) (w4_ IH hz) s.toks
 by_cases h0:0<=k
 .let hk:k.toNat=j:=by
   rw[seqIndex_of h0 h4]at O;exact GN O
  exact W.ki_setAt ho h0 a! (Db! h4) tE!
 .let hk:(k+(ed!:Int)).toNat=j:=by
   rw[seqIndex_neg a! h3]at O;rw[FG,<-hl];exact GN O
  exact W.ki_setBack ho a! (Db! h3) a! tE!
def xX(lo hi:T_)(n:δ):(mJ_).1=((HT.sIx n 0 lo:δ):Int)/\(mJ_).2.1=((HT.sIx n n hi:δ):Int)/\(mJ_).2.2=1:=by
 exact#[?_,?_,χ]
 .cases lo with
  |none=>simp[sliceBounds,HT.sIx]
  |some i=>
   show"!^"
   .simp only[h,IB]<;>omega
   .simp only[h,HD]<;>omega
 .cases hi with
  |none=>simp[sliceBounds,HT.sIx]
  |some i=>
   show"!^"
   .simp only[h,IB]<;>omega
   .simp only[h,HD]<;>omega
def vC(its:k_)(lo hi:T_):slicePick its.toArray lo hi υ=((its.drop (HT.sIx its.length 0 lo)).take (HT.sIx its.length its.length hi - HT.sIx its.length 0 lo)).toArray:=by let#[O,h2,h3]:=xX lo hi ed!;delta slicePick;rw[O,h2,h3];simp![sliceRange_one,pick_run,FG]<;>rfl
def CJ(K:ye!):V->wY_ Int->wY_ Int->Hp->VK->Prop:=λx lo hi H Q=>∃a xs,x=.ref a/\DD! a/\∀p,H p=υ->GX_ fH_
def a8p:Xc X (CJ X.K):=by intro Z s U H x v vl vu lo hi sl Q I rx hs pl pu h;let#[a,xs,rfl,hx,q]:=h;subst rx;let#[its,r,ht,hz]:=Cj_ hx;let az:=W!;exact#["list",_,ty!,ht.isList.typeIs,?_];exact wpAny_getItem_list_slice ht.isList hs pl pu .none c_ ?_ tz_;rw[vC,<-az];exact#[fI!,_,I.laid (t':=s.toks) (o:=.lst fH_) mC! p! ?_,χ,q _ h2!];exact#[tq_,_,0,tr!,c8!]
def Ki:V->Bool
 |.non=>τ
 |.bl _=>τ
 |.int _=>τ
 |.str _=>τ
 |_=>θ
def Wc:V->V->Bool
 |.non,.non=>τ
 |.bl a,.bl b=>a==b
 |.bl a,.int b=>tF!==b
 |.int a,.bl b=>a==if!
 |.int a,.int b=>a==b
 |.str a,.str b=>a==b
 |_,_=>θ
def d1j(ry:Cf y u)(rx:Cf x v)(fy:Ki y=τ)(fx:Ki x=τ):AY! v (Wc y x):=by
 cases y with
 |non=>
  subst ry;cases x with
  |non=>cases rx;exact SeqAt.EqAt.same _
  |bl b=>cases rx;exact SeqAt.EqAt.none_bool b
  |int b=>let#[t,rfl]:=rx;exact SeqAt.EqAt.none_int b t
  |str b=>let#[t,rfl]:=rx;exact SeqAt.EqAt.none_str b t
  |_=>exact GJ! if_
 |bl a=>
  subst ry;cases x with
  |non=>cases rx;exact SeqAt.EqAt.bool_none a
  |bl b=>cases rx;exact SeqAt.EqAt.bool_bool a b
  |int b=>let#[t,rfl]:=rx;exact SeqAt.EqAt.bool_int a b t
  |str b=>let#[t,rfl]:=rx;exact SeqAt.EqAt.bool_str a b t
  |_=>exact GJ! if_
 |int a=>
  let#[t',rfl]:=ry;cases x with
  |non=>cases rx;exact SeqAt.EqAt.int_none a t'
  |bl b=>cases rx;exact SeqAt.EqAt.int_bool a t' b
  |int b=>let#[t,rfl]:=rx;exact PD a t' b t
  |str b=>let#[t,rfl]:=rx;exact SeqAt.EqAt.int_str a t' b t
  |_=>exact GJ! if_
 |str a=>
  let#[t',rfl]:=ry;cases x with
  |non=>cases rx;exact SeqAt.EqAt.str_none a t'
  |bl b=>cases rx;exact SeqAt.EqAt.str_bool a t' b
  |int b=>let#[t,rfl]:=rx;exact SeqAt.EqAt.str_int a t' b t
  |str b=>let#[t,rfl]:=rx;exact SeqAt.EqAt.str_str a t' b t
  |_=>exact GJ! if_
 |_=>exact HS_ fy
def Xa(x:V)(u:wX!):Bool:=match u with
 |.none=>Wc .non x
 |.bool b=>Wc V_ x
 |.int i _=>Wc ae! x
 |.str z _=>Wc (.str z) x
 |_=>θ
def c0x(r:Cf y u)(f:Ki y=τ):Xa x u=Wc y x:=by
 cases y with
 |non=>cases r;rfl
 |bl b=>cases r;rfl
 |int i=>let#[t,rfl]:=r;rfl
 |str z=>let#[t,rfl]:=r;rfl
 |_=>exact HS_ f
def b1s(h:dL!):xs.all Ki=τ->us.any fK!=xs.any λy=>Wc y x:=by
 induction h with
 |nil=>exact λ_=>χ
 |cons r _ ih=>
  intro f;rw[JI,FB]at f;rw[IP,IP,c0x r f.1,ih f.2]
def tQ{A:w5!}{s:x1!}{x:V}{v:wX!}(rx:Cf x v)(fx:Ki x=τ):∀{xs:l_} {us:k_},Bp xs us->xs.all Ki=τ->∀u∈us,AY! v (Xa x u)
 |_,_,.nil,_=>λu hu=>by exact(FU hu).elim
 |y::xs,u::us,.cons r t,f=>λu' hu=>by
  rw[JI,FB]at f;obtain rfl|hu:=FD.mp hu
  .rw[c0x r f.1];exact d1j r rx f.1 fx
  .exact tQ rx fx t f.2 u' hu
def BR(x:V)(xs:l_):Bool:=xs.any λy=>Wc y x
def AH(K:ye!)(neg:Bool):R2:=λx y H Q=>∃p xs,y=.ref p/\(Er K H p xs\/Fe K H p xs)/\Ki x=τ/\xs.all Ki=τ/\Cr_ (if neg then !BR x xs else BR x xs)
def wJ:Gf_ AH:=by
 intro Z s U H x y v u Q I rx ry h;let#[p,xs,rfl,hq,fx,fs,q]:=h;subst ry;obtain hq|hq:=hq
 .show"!_";exact EQ! fK! tH!;rw[tG_,b1s r fs];exact q
 .show"#!";exact Gg! fK! tH!;rw[tG_,b1s r fs];exact q
def iB:Ft X aN_ (HO! X.K X.K):=by
 intro Z s U H xs us Q I r h;let#[p,ys,rfl,h]:=h;let#[u,rfl,rx]:=iC r;cases rx;obtain⟨hq,q⟩|⟨hq,q⟩:=h
 .let#[its,r',pl,hz]:=Cj_ hq;let az:=lT!;exact DF! call_tuple_list (λh' kp=>?_) (by simp![FG]<;>omega);let I1:m2! H {s with heap:=h'}:=I.kept (t':=s.toks) kp;let I2:m2! (upd H h'.objs.size ih!) {s with heap:=h'.push {cls:=.type "tuple",data:=.seq aH_}}:=
   I1.laid (t':=s.toks) (λb o e=>EU _ e) p! (show AX! Dv _ _ _ ih! from#[hz,its,r',mD!])
  exact#[.ref fK_,_,I2,χ,q _ fo_]
 .let#[its,r',pl,hz]:=A1! hq;exact call_tuple_same pl #[.ref p,H,I,χ,q]
def DF(K:ye!)(T:String)(x:V)(H:Hp):Prop:=match x with
 |.str _=>T="str"
 |.int _=>T="int"
 |.ref p=>(T="list"/\∃xs,Er K H p xs)\/(T="tuple"/\∃o,K.lookup p=ψ o/\o.cls=.type "tuple"/\o.dict=υ)\/
   (T="dict"/\((∃h1,H p=ψ db!)\/∃h1,H p=ψ ih_))\/(T="set"/\∃S n,H p=ψ (.set S n))
 |_=>False
def c8l{Z:j_}{U:St}{H:Hp}{s:x1!}{T:String}{x:V}{v:wX!}(I:c!)(r:Cf x v)(ty:DF X.K T x H):
  s.TypeIs v T/\∀a,v=.ref a->∃ob,qY_ a=ψ ob/\ob.dict=none:=by
 cases x with
 |str z=>
  show"#,";cases (show T="str" from ty);exact#[MH s z t,tK!]
 |int i=>
  show"#,";cases (show T="int" from ty);exact#[typeIs_int s i t,tK!]
 |ref p=>
  subst r;obtain⟨rfl,xs,hq⟩|⟨rfl,o,hk,hc,hd⟩|⟨rfl,hk⟩|⟨rfl,S,n,hk⟩:=ty
  .let#[its,_,pl,_]:=Cj_ hq;exact#[pl.isList.typeIs,λa e=>?_];cases e;let#[o,n,e,c,hd,_]:=pl;exact#[o,e,hd]
  .exact#[#[o,I.kIn p o hk,hc],λa e=>?_];cases e;exact#[o,I.kIn _ o hk,hd]
  .let z:∃o,qY_ p=ψ o/\g6_:=by
    obtain⟨h1,hk⟩|⟨h1,hk⟩:=hk
    .show"!{"
    .show"!{"
   let#[o,e,ex]:=z;exact tL!;cases e2;exact tM_
  .let#[o,_,_,_,e,ex,_]:=I.hok p _ hk;exact tL!;cases e2;exact tM_
 |_=>exact ye_ ty
def EG(K:ye!)(T:String)(r:mE!)(to:TE)(t:TA):TE:=λU H Q=>to U H λx H1=>DF K T x H1/\t U H1 λxs H2=>r x xs H2 Q
variable{o e:Expr}{es:List Expr}{to:TE}{t:TA}{name:Str}{be aj:Pos}{T id:String}{r:V->List V->Hp->VK->Prop}
def wG(pa:PlainAttrs T)(slot:Slot T name id)(VP:typeOf dg!=pure (.type "method_descriptor"))(hm:BC X id r)(ho:PE X o to)(ha:d9!)
  (f7:GO! name=AV! o:=by rfl)
  (jh:((Ew! sT_).all bW!&&Cd! bl_
   &&decide (Eg_ J_))=true:=by rfl)
  (ji:di_:=by rfl) (hs:z_:=by rfl) (eu:(tN_).any q!=false:=by rfl):
  PE X (AZ_ name J_) (EG X.K T r to t):=by
 show"!D";exact wpAny_Call_method_late f7 jh ji χ rd!;rintro v s1 ⟨x,H1,I1,r1,ty,q1⟩;let#[O,h2]:=c8l I1 r1 ty;exact#[T,id,pa,slot,VP,O,h2,?_];let hA:=ha aj Z s1 U H1 _ I1 q1;rw[hs]at hA ⊢;exact KB (by show(θ||(tN_).any q!)=θ;rw[eu]<;>rfl) (IA ?_);exact cO hA λus s2 ⟨vs,H2,I2,r2,q2⟩=>hm Z s2 U H2 x vs v us Q I2 r1 r2 q2
end
def ER(X:Cx)(id:String)(r:mE!):Prop:=
 ∀(Z:j_) (s:x1!) (U:St) (H:Hp) (x:V) (xs:l_) (v:wX!) (us:k_) (Q:VK),m2! H s->Cf x v->Bp xs us->r x xs H Q->
  wpAny d_ X.A tv_ ad_ X.xe s
def Bp.one(h:Bp [x] us):∃u,us=[u]/\Cf x u:=by
 cases h with
 |cons r t=>cases t;exact kz!
section
variable{X:Cx}{Z:List (Addr×Obj)}{U:St}{H:Hp}{s:x1!}{l b:uv!}{xs ys zs:List V}
def Inv.lset{its its':k_}{n:δ}{f:Array Value->Array Value}{t':δ}(I:c!)(hH:H l=ψ af!)
  (e:qY_ l=ψ {cls:=.type "list",data:=Bk! n})(hf:f aH_=its'.toArray)(hv:Bp ys its')(hz:ie!):
  Inv X Z U (upd H l ap_) {s with heap:=By_ l tP!,toks:=t'}:=by
 let q:=PySem.IsL.update e f;rw[hf]at q;exact I.write (x:=l) (e:=l) (by rw[hH];exact ο) q_ (λb' u G hu=>(GR s.heap tP! fJ!).trans hu) #[_,q] ?_;exact#[hz,its',_,hv,q]
def Inv.lnew{its:k_}{t':δ}(I:c!)(hv:E5_ ys)(hz:ie!):
  Inv X Z U (BJ! upd H ap_) {s with heap:=s.heap.push {cls:=.type "list",data:=.seq aH_},toks:=t'}:=
 I.laid tP_ p! #[hz,its,0,hv,c8!]
def Inv.fresh(I:c!):H h_=none:=Cb_ p!
def Inv.lstM(I:c!)(hH:H l=ψ af!):h!<=sizeLine/\∃(its:k_) (n:δ),E5_ xs/\h!=fL_/\qY_ l=ψ {cls:=.type "list",data:=Bk! n}:=by let#[z,its,n,r,e]:=I.hok l _ hH;exact#[z,its,n,r,W!,e]
end
section
variable{X:Cx}
def Wr:V->μ V->Hp->VK->Prop:=λx vs H Q=>∃l xs y,x=.ref l/\vs=[y]/\H l=ψ af!/\h!<sizeLine/\Hz! (upd H l (.lst (xs++[y])))
def wR:ER X "list.append" Wr:=by intro Z s U H x vs v us Q I rx rv h;let#[l,xs,y,rfl,rfl,hH,hz,q]:=h;subst rx;let#[u,rfl,ru]:=rv.one;let#[z,its,n,r,hl,e]:=I.lstM hH;exact NI F.slot_list_append (HF! e) F.entry_list_append (F.args_list_append_2 _ _) (PySem.list_append l its.toArray n u (CY_ FG)) #[e,?_];exact#[.non,_,I.lset (its':=its++[u]) hH e c_ (Fl_ tQ!) ?_,χ,q];rw[FX,IG];omega
end
section
variable{κ:Type} [DecidableEq κ]
def Lb(h1:Ge! κ V)(k:κ):ι V:=(h1.find? λkv=>decide (kv.1=k)).map an_
def b5u{k:κ}(e:p.1=k):Lb (p::r) k=ψ p.2:=by simp[Lb,IJ,e]
def b5v{k:κ}(e:¬p.1=k):Lb (p::r) k=Lb r k:=by simp[Lb,IJ,e]
def Kz.isSome_eq(r:Kz o u):o.isSome=u.isSome:=by
 cases o with
 |none=>cases u with
  |none=>rfl
  |some _=>exact(hW!).elim
 |some _=>cases u with
  |none=>exact(hW!).elim
  |some _=>rfl
def KV.val(r:KV h1 vs)(k:κ):Kz (Lb h1 k) (valueAt vs k):=by
 delta KV at r
 induction r with
 |nil=>exact d6!
 |@cons p q ps qs h t ih=>
  let#[O,h2]:=h;by_cases e:p.1=k
  .let e':q.1=k:=O.symm.trans e;let b:valueAt (q::qs) k=ψ q.2:=by simp[valueAt,IJ,e']
   rw[b5u e,b];exact h2
  .let e':¬q.1=k:=λz=>e (O.trans z);let b:valueAt (q::qs) k=valueAt qs k:=by simp[valueAt,IJ,e']
   rw[b5v e,b];exact ih
end
def b9x(r:Cf (kV k) u):(a2_).is k u=true:=by
 cases k with
 |inl i=>let#[t,e]:=sq_;subst e;exact a3k P w i t
 |inr x=>let#[t,e]:=sr!;subst e;exact kA P w x t
def pY:∀{ks:μ Key} {us:k_},Bp mM! us->ItemsAre a2_ ks us
 |[],_,r=>by rw[LL]at r;cases r;exact .nil
 |k::ks,_,r=>by
  rw[FI]at r;cases r with
  |cons h t=>exact .cons (b9x h) (pY t)
abbrev KT(H:Hp):μ kB!->μ kC!->Prop:=Paired λp q=>p.1=q.1/\H q.2.1=ψ pS_/\Cf p.2 q.2.2
section
variable{P:xz!}{w:wY!}{H:Hp}{h:Heap}{a:uv!}
def d2r(ok:aI_)(e:Rd H a u):DR_ a u:=e.ok ok
def d0v(ok:aI_)(e:H a=AW! mM!):(e3_).is h ks a:=by let#[_,its,r,o,O,h2,n,h3]:=(E8! (.tup mM!) ok);exact#[o,aH_,n,O,h2,h3,by simpa using pY r]
def d4c(ok:aI_)(e:Rd H a ih_):bN_<=sizeLine/\cg!=θ/\
  ∃xs,KT H h1 xs/\h.DictOfH e3_ a xs:=by
 let#[z,y,xs,r,o,es,ep,O,h2,h3,h4,h5]:=(show Dv P w H h a ih_ from d2r ok e);exact#[z,y,xs,r,o,es,ep,O,h2,h3,h4,bX!,h5];let all:∀{l:μ kB!} {m:μ kC!},KT H l m->∀x∈m,(e3_).is h x.1 x.2.1:=by
  intro l m q
  induction q with
  |nil=>intro x hx;exact nomatch hx
  |@cons p q ps qs hq t ih=>
   intro x hx;obtain e|hx:=FD.mp hx
   .subst e;exact d0v ok (by rw[<-hq.1];exact hq.2.1)
   .exact ih x hx
 exact all r x hx
def rM(ok:aI_)(e:H a=ψ ih_):bN_<=sizeLine/\cg!=θ/\
  ∃xs,KT H h1 xs/\h.DictOfH e3_ a xs:=d4c ok (.inl e)
end
section
variable{X:Cx}{Z:List (Addr×Obj)}{U:St}{H:Hp}{s:x1!}{a:uv!}{y v:V}{u r:wX!}{o:Option V}{A:w5!}{E:Value->Shared->Prop}
def Inv.big(I:c!):sysModules<h_:=by let h:mainGlobals<h_:=(I.mod.glob.keeps I.bk).lt;exact OP a_ h
def c7d(I:c!)(mu:Zh (H a))(hs:tT_)(he:∃q,Ab_ a=ψ q)(new:AX! Dv (HV! ob) h' a ob):
  Inv X Z U (HV! ob) {s with heap:=h',toks:=t'}:=
 I.write (x:=a) (e:=a) mu q_ (λb q G z=>(hs.2 b G).trans z) he new
end
def BB(i:Expr):Prop:=∀ov iv,subscripted i θ ov iv=operate [ov,iv] (getItem ov iv)
def c2r{T id:String}
  (hl:E9_ aA!=pure (ψ dg!))(hs:BB slice)
  (h:Ac! tU! (λo σ=>wpAny b_ A (Cz! slice) (λi ae=>ae.TypeIs o T/\wpAny b_ A (getItem o i) Q E ae) E σ) E s):
  wpAny b_ A (Cz! (GN_ value slice)) Q E s:=by
 exact Hh! (Ew_ (λo σ h₁=>GK h₁ (λi ae dh=>?_) λ_ _ x=>x));let#[hT,dh]:=dh;delta subscriptTail;exact ES ?_;rw[FT! hT.not_modules];exact ES (MJ hT hl ?_);let ak:Ac! (Hz_ slice) (λr bp=>wpAny b_ A (Dg! o) Q E bp) E ae:=by
  rw[hs o i];exact wpAny_operating (GY! dh (λr bp gb=>ES (EW! gb)))
 first
  |exact EV ij_
  |exact CX! ij_
  |exact ES ak
structure M1(X:Cx)(o:Expr)(m:Str)(be:Pos)(e:Expr)(aj:Pos):Prop where
 base:GO! m=AV! o
 few:(DF_ tV!&&Cd! bl_
  &&decide (C5_ [e]))=τ
 line:mL_=τ
 trees:Ew! tU_=[cr_]
structure M2(X:Cx)(o:Expr)(m:Str)(be:Pos)(e f:Expr)(aj:Pos):Prop where
 base:GO! m=AV! o
 few:((Ew! tW!).all bW!&&Cd! bl_
  &&decide (C5_ [e,f]))=τ
 line:mL_=τ
 trees:Ew! tW!=[cr_,(θ,eval f X.env)]
end L2
namespace Att
open PySem PySem.W PySem.Calls PyProof.Rows
def sB:∀(ns:B_) (vs:k_),WellAll P h vs tW_->DS_ vs:=by
 intro ns
 induction ns with
 |nil=>
  intro vs w;rw[LL]at w;cases w;exact .nil
 |cons n ns ih=>
  intro vs w;rw[FI]at w;cases w with
  |cons a b=>
   cases a;exact .cons _ _ (ih _ b)
def b2j{l:OpenLaw}(hn:ik!)
  (lj:l.row.toRowW.claim.pre args=τ)(yf:WellAll P h oz args):
  ∃a vs ns,oz=[Value.ref a]/\args=[WData.list tW_]/\h.get? a=ψ {cls:=.type "list",data:=.seq bC_}/\DS_ vs/\dd!<=n:=by
 let yh:WShape.hasAll [] args [.list .int]=true:=(mN!).1;let hc:l.pre.holds [] {args:=args}=true:=(mN!).2;let#[d,r,rfl,O,h2]:=hasAllW_cons yh;obtain rfl:=hasAllW_nil h2;let#[xs,rfl,h3]:=hasW_list O;let#[ns,rfl]:=items_int h3;let az:dd!<=n:=by
  delta OpenLaw.pre at hc;let h4:(WTm.not (.lt (.lit (.int (n:Int))) (.len (.arg 0)))).holds [] {args:=[.list mN_]}=true:=by
   let h4:=(holds_andW hc).1;rw[hn]at h4;exact h4
  let h5:=condW_of h4 (w_not (w_lt w_lit (w_len_list (w_arg χ))));rw[EX]at h5;exact Nat.le_of_not_lt λq=>?_;let q':(n:Int)<((dd!:δ):Int):=by omega
  first
   |(rw[FH q']at h5;exact Ac_ h5 a_)
   |(simp at h5;omega)
 cases yf with
 |cons w1 w2=>
  cases w2;cases w1 with
  |list ho jw=>exact#[_,_,ns,χ,χ,ho,sB ns _ jw,az]
def b2y(l:OpenLaw)(args:mO_):l.row.toRowW.claim.post args ei_ args=true:=
 postW_of (r:=l.row.toRowW) (X:=(τ==τ))
  (show WShape.has [] ei_ .bool=τ by first|rfl|decide|simp[WShape.has,WShape.arms,WShape.armsAll])
  (show(WTm.eq .res (.lit ei_)).value [] {args:=args,res:=ψ ei_,after:=args}=ψ (.bool (τ==τ))from w_eq_bool (w_res χ) w_lit) χ
section
variable{prog:xz!}{w:wY!}{A:w5!}{E:Value->Shared->Prop}{s:x1!}{K:Frag}
end
end Att
namespace L2
open PySem PySem.Spec PyProof.Rows
def b1z(h:DS_ vs):Bp cv! vs:=by
 induction h with
 |nil=>exact .nil
 |cons n t h ih=>exact DB_ fN!
def Xe(H:Hp):Prop:=∀b,H b=υ\/∃o xs,H b=ψ (.frz o af!)
def Eh(s:Stmt):Arguments:=match s with
 |.FunctionDef _ a _ _ _ _ _ _ _ _=>a
 |_=>{posonlyargs:=[],args:=[],vararg:=υ,kwonlyargs:=[],kw_defaults:=[],kwarg:=υ,defaults:=[]}
def Co(s:Stmt):μ Stmt:=match s with
 |.FunctionDef _ _ b _ _ _ _ _ _ _=>b
 |_=>[]
def Ae(s:Stmt):Scope:=match s with
 |.FunctionDef _ _ _ _ _ _ sc _ _ _=>sc
 |_=>{kind:=.function,names:=[],isGenerator:=θ,isCoroutine:=θ}
abbrev Mt:So:=λ_ _ _ _ _ _=>False
abbrev E0:XK:=λ_ _ _=>False
def a2t:Ig Mt X E0:=λ_ _ _ _ _ _ _ h=>h.elim
structure Ur(K:ye!)(x qual:Str)(st:Stmt)(f:uv!)(fd:FuncData):Prop where
 ex:∃(oc:wX!) (od:ak!) (kV bn pm:wX!) (an:ak!) (ah ct:wX!) (fz:bX_),
  fd=W.fnOf x qual ik_ aA_ ak_ .none kV bn pm an ah ct/\AU_ f=CQ! fd/\W.codeIn K ah qual=τ
 kp:Bt_ K ad!=τ
section
variable{P:xz!}{w:wY!}{K:ye!}{mg:Str->Option Value}{base:Heap}
def Ur.ok{st:Stmt}(F:t1_)(S:bY!)(len:h6_)
  (li:∀(ah:wX!) (A:w5!) (outer:C_) (s:x1!) (H:Hp) (vs:l_) (Q:VK) (E:XK),Ba k (A.deeper (envOfC qual ak_ s.heap.objs.size f ah))->Bk_ H->
   ∃t,Jy (Fd Mt P w K mg base N qual ak_ f ah A outer s H E).nox aA_ t/\t {nx:=λ_ H'=>Hz! H',rt:=Q} bC! H):kV! He Mt Q! f fd ps sp:=by
 show"!0";exact c8c lk bj S len λA outer s H vs Q E hr gi=>?_;let#[t,h,q]:=li ah A outer s H vs Q E hr gi;exact#[t,h.nox,q]
def Ur.binds{st:Stmt}(F:t1_)
  (h:t2!):AV_ K:=by
 show"!0";exact .all (h kV bn pm an ah ct)
def iZ{st:Stmt}{kV:wX!}(l:AU_ f=ψ t2_)
  (c:fD_)(k:Bt_ K ad!=τ):Ur K x qual st f mP!:=#[#[oc,od,kV,bn,pm,an,ah,ct,fz,χ,l,c],k]
end
def b2f(h:n<=1000):n<sizeLine:=OC h a_
def kO{A B:ν}(h:B):if θ=τ then A else B:=by rw[FC FZ];exact h
def kN{A B:ν}(h:A):if τ=τ then A else B:=by rw[S!];exact h
def By(H H':Hp):Prop:=∀b o,H b=ψ o->H' b=ψ o
def By.refl(H:Hp):By H H:=λ_ _ h=>h
def By.trans(a:By H H1)(b:By H1 H2):By H H2:=λc o h=>b c o (a c o h)
def By.free(e:ej!)(h:H' l=mP_):H l=mP_:=by
 cases q:H l with
 |none=>rfl
 |some o=>
  rw[e l o q]at h;rcases h
def By.seq{K:ye!}(e:ej!)(h:DD! a):Er K H' a xs:=by
 rcases h with(h|⟨o,h⟩)|h
 .exact t3!
 .exact t4!
 .exact .inr h
section
variable{κ:Type} [DecidableEq κ]
def c4s:∀{l:μ κ} {k:κ},l.Nodup->¬k∈l->(l++[k]).Nodup
 |[],k,_,_=>by simp
 |a::r,k,h,hk=>by
  let#[O,h2]:=GZ.mp h;show(a::(r++[k])).Nodup;exact GZ.mpr #[λm=>?_,c4s h2 λm=>hk (FD.mpr (Or.inr m))];obtain q|q:=FL.mp m
  .exact O q
  .exact hk (FD.mpr (Or.inl (FR.mp q).symm))
end
def Inv.track{D:uv!}(I:c!)
  (hD:qY_ D=ψ {cls:=.type "list",data:=FO_ us.toArray})(r:Bp ys us)(hz:ie!)(hn:H D=υ)(hs:c1_<=D)(hL:D≠X.env.locals)
  (hc:∀x c,ro_ x=ψ c->c≠D)(hp:∀p∈X.pn++Z,p.1≠D):m2! (upd H D ap_) s:=by
 let ne:∀b u,H b=ψ u->b≠D:=λb u e=>aU e hn;exact I.step (ch:=[D]) dR! (λb o _ _ _ e _=>e) (λb o _ _ _ e _=>mQ_) (λb o hc e n=>?_) (λb o _ e=>mR!)
  (λb xs e=>by rw[mR_];exact e) (λb o u e=>by rw[mR_];exact e) (λb ps e=>Cr! mR_ e) mS! qq! I.bare
 .let e:b=D:=by simpa using G
  subst e;exact#[.inr hs,hL,hc,hp]
 .rw[mS_];exact n
 .by_cases G:b=D
  .show"!x";exact#[hz,us,n,r,hD]
  .rw[aH G]at e;exact(kW_).stay mT! (λc q=>by rw[aH (ne c _ q)];exact q) λc xs q=>by rw[aH (ne c _ q)];exact q
nonrec def closOf(cells:aB!):μ t5_->μ ej_->μ ej_
 |[],av=>av
 |(n,k)::r,av=>if k==.free then D4! r ((n,(cells.lookup n).getD 0)::av)else D4! r av
structure Us(X:Cx)(scope:Scope)(cl:aB!):Prop where
 eq:closureFor scope X.env=pure cl
 sub:∀x c,cl.lookup x=ψ c->ro_ x=ψ c
 all:∀x,BL! x=ψ .free->∃c,cl.lookup x=ψ c
def qH:∀(names:ek!) (av:aB!),(CZ! env.cells.lookup)->
  (forIn names av λx r=>(match x with|(name,kind)=>if(kind==fO!)=true then(do let a <-cellOf env name;pure t6!)else pure il!:Sem t6_))=(pure (closOf env.cells names av):Sem (List ej_))
 |[],av,_=>rfl
 |(n,k)::r,av,h=>by
  rw[KR];cases hk:(k==fO!)with
  |true=>
   let#[c,hc]:=h (n,k) EY t7!;let gh:env.cells.lookup n=ψ c:=hc;let e:cellOf env n=pure c:=by delta cellOf;rw[gh]
   let ih:=qH r ((n,c)::av) λp hp=>h p mT_;let e2:CK! ((n,k)::r) av=CK! r ((n,c)::av):=by
    show t7_;rw[FE hk,gh];rfl
   rw[e2,<-ih];simp![hk,IB,e];rfl
  |false=>
   let ih:=qH r av λp hp=>h p mT_;let e2:CK! ((n,k)::r) av=CK! r av:=by
    show t7_;rw[GK! hk]
   rw[e2,<-ih];simp![hk];rfl
def mU(cells:aB!):∀(names:ek!) (av:aB!),(CZ! cells.lookup)->(∀p∈av,cells.lookup p.1=ψ p.2)->∀p∈closOf cells names av,cells.lookup p.1=ψ p.2
 |[],_,_,h=>h
 |(n,k)::r,av,hn,h=>by
  delta closOf;split
  .rename_i hk;let#[c,hc]:=hn (n,k) EY t7!;exact Ex! mU t8! λp hp=>?_;obtain rfl|hp:=FD.mp hp
   .let gh:cells.lookup n=ψ c:=hc;rw[gh];rfl
   .exact h p hp
  .exact Ex! mU t8! h
def mW(cells:aB!):∀(names:ek!) (av:aB!) (x:Str),(∃c,(x,c)∈av)->∃c,(x,c)∈D4! names av
 |[],_,_,h=>h
 |(n,k)::r,av,x,h=>by
  delta closOf;split
  .exact Ex! mW x (by let#[c,hc]:=h;exact#[c,EW _ hc])
  .exact Ex! mW x h
def mV(cells:aB!):∀(names:ek!) (av:aB!) (x:Str),(x,fO!)∈names->∃c,(x,c)∈D4! names av
 |[],_,_,h=>nomatch h
 |(n,k)::r,av,x,h=>by
  delta closOf;obtain h|h:=FD.mp h
  .cases h;rw[cv_];exact Ex! mW _ #[_,EY]
  .split
   .exact t9!
   .exact t9!
def lU:∀{l:Ge! Str β} {x:Str} {c:β},(x,c)∈l->∃d,l.lookup x=ψ d
 |[],_,_,h=>nomatch h
 |(n,k)::r,x,c,h=>by
  cases hx:(x==n)with
  |true=>exact#[k,by simp[HA,hx]]
  |false=>
   obtain h|h:=FD.mp h
   .cases h;simp at hx
   .let#[d,hd]:=lU h;exact#[d,by simp[HA,hx,hd]]
def a0z(h:∀p∈aO!,p.2=.free->∃c,X.env.cells.lookup p.1=ψ c):∃cl,Us X scope cl:=by
 exact#[closOf X.env.cells scope.names [],?_,kQ_,λx e=>?_]
 .let e:=qH scope.names [] h;dsimp only[closureFor];rw[show(forIn scope.names ([]:List ej_) λx r=>(match x with|(name,kind)=>if(kind==NameKind.free)=true then(do let a <-cellOf X.env name;pure t6!)else pure il!:Sem t6_))=pure (closOf X.env.cells scope.names [])from e];rfl
 .exact EQ_ mU h qh_ (x,c) (IR e)
 .let#[c,hc]:=EQ_ mV x (IR e);exact lU hc
def Hx(X:Cx)(scope:Scope)(cl:aB!)(C:uv!)(N:l!)(ae:x1!)(au:Hp)(fp:v!):Cx:=
 {X with N:=N,s₀:=ae,H₀:=au,env:=Cz_ C,outer:=X.stack,stack:=X.stack,ex:=fp,fn:=λ_=>θ,pn:=[],xe:=λ_ _=>False}
def kC{env:Env}:∀{names:ek!} {x:Str},(∀y∈names,y.2≠.cell)->
  (D2_ il_ x=ψ .cell\/
     (il_).lookup x=ψ .free)->names.lookup x=ψ .free
 |[],_,_,h=>by simp at h
 |(n,k)::r,x,hc,h=>by
  let ih:=@kC env r x λy hy=>hc y dj_;let hk:=hc (n,k) EY;rw[FI]at h;by_cases hf:mU!=τ
  .simp only[hf,IB]at h;cases hx:x==n with
   |true=>
    simp![HA,hx];simp![FB,GS]at hf;rw[hf.1.1]
   |false=>
    simp![HA,hx]at h ⊢;exact ih h
  .simp only[hf]at h;cases hx:x==n with
   |true=>
    simp![GC,HD,HA,hx]at h ⊢;obtain h|h:=h
    .rcases h;exact AS! hk
    .exact h
   |false=>
    show"#6";exact ih h
def kD{env:Env}:∀{names:ek!} {x:Str},names.lookup x=ψ .free->
  (D2_ il_ x=ψ .cell\/
     (il_).lookup x=ψ .free)
 |[],_,h=>by simp at h
 |(n,k)::r,x,h=>by
  let ih:=@kD env r x;rw[FI];by_cases hf:mU!=τ
  .simp only[hf,IB];cases hx:x==n with
   |true=>exact .inl (by simp[HA,hx])
   |false=>
    simp![HA,hx]at h ⊢;exact ih h
  .simp only[hf];cases hx:x==n with
   |true=>
    show"#6";exact .inr h
   |false=>
    show"#6";exact ih h
structure Eb(X:Cx)(scope:Scope)(NF:l!)(ix:b!):Prop where
 len:NF.length=ix.length
 at_:∀(k:δ) (x:Str),NF[k]?=ψ x->∃j,ix[k]?=ψ j/\X.N[j]?=ψ x/\BL! x=ψ .free/\p6_
def Eb.nil:Eb X scope [] []:=#[χ,λk x e=>by simp at e]
def Eb.cons(h:a6_)(O:ua!:=by rfl)(h2:BL! x=ψ .free:=by rfl)
  (h3:D1_ x=ψ .cell\/D1_ x=ψ .free:=by first|exact Or.inl χ|exact Or.inr χ):Eb X scope (x::NF) (j::ix):=
 ⟨by simp[h.len],λk y e=>by
  cases k with
  |zero=>simp at e;subst e;exact#[j,χ,O,h2,h3]
  |succ k=>simpa using h.at_ k y cf!⟩
def Mg(nl:δ)(ix:b!)(U:St):St:=Cc_ nl++ix.map λj=>(U[j]?).join
def d1w
  (cn:aX!)(df:a7!)(b9:fO_)(I2:ek_)(f2:el!)(flt:ub!)(hC:t_<=C):
  (ub_).Ok where
 mod:=I2.ok.mod
 kind:=cn
 glob:=I2.ok.glob
 blt:=I2.ok.blt
 above:=hC
 inj:=λx y c O h2=>I2.ok.inj x y c (b9.sub x c O) (b9.sub y c h2)
 has:=λx h=>b9.all x (kC df h)
 cab:=λ_ _ h=>nomatch h
 hd:=I2.ok.hd
 frames:=I2.ok.frames
 stk:=.inl χ
 exf:=λb G=>#[FW (FM fP! hC),λx c h=>(fq!).2.2.2.2.1 x c el_]
 bs:=I2.bs
 bsz:=GB I2.ok.bsz I2.sz
 noex:=λb o e G=>by
  obtain z|z:=(fq!).2.2.2.1
  .exact I2.ok.noex b o e z
  .exact Gx_ bv_ (GB I2.ok.bsz z)
 exfs:=λb G hf=>by
  let#[_,f1,f3,_]:=f2 b G;obtain z|z:=FD.mp (I2.stkSub b hf)
  .exact f1 z
  .exact f3 z
 funs:=I2.stack
 frf:=I2.stkFree
def a4e{D:uv!}
  (cn:aX!)(df:a7!)(b9:fO_)(cap:a6_)(I2:ek_)(f2:el!)(flt:ub!)
  (hC:t_<=C)(hD:t_<=D)(gw:D≠C)(old:∀b u,CZ_ b=ψ u->Ex_ b=ψ u)(hn:h₁.Ns C m)(td:Ex_ D=ψ oD)(tj:∀v,oD.data≠.cell v):
  Inv (Hx X scope cl C a7_ s2 H2 fp) (ab!++[(D,oD)]) mV! H2 {s2 with heap:=h₁,toks:=t}:=by
 exact#[d1w cn df b9 I2 f2 flt hC,χ,I2.bare,Un.kept old,#[m,hn,qe!],λx c h=>?_,I2.hok.fresh hC,λx c h=>I2.freeC x c el_,ci!,I2.hok.kept old,?_]
 .let SI:a7_[i]?=ψ x:=e1;delta Mg at e2;by_cases hi:i<NL.length
  .rw[IF fC_,KQ]at e2;rw[FE hi]at e2;cases e2
  .rw[ea!,GF,JU]at e2;rw[ea!]at SI;let#[j,hj,hN,hf,hk]:=cap.at_ _ _ SI;rw[hj]at e2;let wf:(U[j]?).join=ψ v:=GN e2;let e4:U[j]?=ψ an!:=by
    cases q:U[j]? with
    |none=>rw[q]at wf;rcases wf
    |some o=>rw[q]at wf;exact Hl_ wf
   let#[m2,_,hl]:=I2.loc;let hv:Px X.env.scope x:=hk.elim (λz=>.inr em!) λz=>.inr im!;let#[u,r,l]:=hl j x v hN e4 hv;exact#[u,r,.inr ?_];obtain⟨k,_⟩|⟨_,c,hc,z⟩:=l
   .obtain z|z:=hk
    .rw[z]at k;cases k
    .rw[z]at k;cases k
   .let#[c',gh]:=b9.all x hf;let e5:=b9.sub x c' gh;rw[hc]at e5;rcases e5;let#[o,ho,hd]:=z;exact#[kD hf,c,gh,#[o,old _ _ ho,hd]]
 .let#[v,o,ho,hd]:=Dp! el_;exact#[v,o,old _ _ ho,hd]
 .let SJ:∀b,b≠X.env.locals->b∉X.fs->b∉Dl_ frs:=λb O h2 h3=>Dg_ (I2.stkSub b h3) O h2;let cr:p∈ab!++[(D,oD)]:=by simpa[Hx]using hp
  obtain cr|cr:=FL.mp cr
  .let#[e,n,ne,nf,d]:=I2.pin p cr;exact#[old _ _ e,n,FW (FM bv_ hC),SJ _ ne nf,d]
  .let e:p=(D,oD):=by simpa using cr
   subst e;exact#[td,I2.hok.fresh hD,gw,SJ _ (IZ (FM I2.lt hD)) (I2.nofs hD),tj]
 .show(mV!).length=(a7_).length;delta Mg;rw[FX,FX,EX,JU,cap.len]
def a0x(I:fP_)
  (hE:ud_)
  (g9:∀n s,I n s->Ac! mV_ (λr σ=>match r with
   |none=>R fQ! σ
   |some v=>Ac! mW! (λ_ mw=>Ac! mW_ (λ_ ae=>
     wpAny b_ A ue_ (λok bp=>
      if ok=τ then Ac! (GN! c7) (λx jx=>
       wpAny b_ A uf! uf_ E jx) E bp
      else∃m,m<n/\I m bp) E ae) E mw) E σ) E s)
  (n:δ) (h:I n s):codeAny b_ A ug_ R s:=by
 exact codeAny_loop χ I mX! n h;exact wpAny_noted ?_;rw[compTurn_list];exact ES (HX (ES (GK mX_ mY! hE)));cases r with
 |none=>exact EV h₁
 |some v=>
  exact ES (GK h₁ mY_ hE);exact ES (GK t9 (λ_ ae dh=>ES (GK dh ui! hE)) hE);cases ok with
  |false=>exact EV mZ!
  |true=>
   exact GS! (GK gb (λx jx ua=>ES (GK ua (Eh! EV) hE)) hE)
def Ka(X:Cx)(cu:bh_)(t:TT):Prop:=
 ∀(Z:j_) (s:x1!) (U:St) (H:Hp) (Q:c3_),m2! H s->t U H Q->
  wpAny d_ X.A (forIn cu true λc r=>if r=true then do let ok <-isTrue c X.env (eval c X.env);pure ue! else pure il!) hn! X.xe s
def Zj:TT:=λ_ H Q=>Q τ H
def a2p:Ka X [] Zj:=λZ s U H Q I h=>wpAny_tests_nil #[H,I,h]
def a2o(h:PT X c t):Ka X [c] t:=λZ s U H Q I hw=>wpAny_tests_one qU_
def Qr(J:It)(g:TG)(tt:TT)(te:TE)(Fin:bh!)(U:St)(H:Hp):Prop:=∃W:Nat->Nat->List V->St->Hp->Prop,(∃m,W 0 m [] U H)/\∀i m ys U H,W i m ys U H->H_<=sizeLine/\
 ((J.stop i H/\Fin ys H)\/(J.go i H/\∀x H',J.yld i H x H'->g x U H' λf9 H2=>tt f9 H2 λb H3=>if b=τ then te f9 H3 λy H4=>∃m',m'<m/\W u_ m' (ys++[y]) f9 H4 else∃m',m'<m/\W u_ m' ys f9 H3))
abbrev Kv(us:k_)(n:δ):Obj:={cls:=.type "list",data:=FO_ us.toArray}
def xK
  {Fin:bh!}{RR:ui_}
  (cn:aX!)(df:a7!)(b9:fO_)(cap:a6_)(calm:af_)
  (hg:∀C ae au fp,PG bD_ tg g)(hi:∀C ae au fp,FT_ tt)(he:∀C ae au fp,PE bD_ c7 te)
  (I2:ek_)(T:uj!)(cz:E7_ 0)(f2:el!)(hw:uj_)
  (ym:∀(D C:uv!) (us:k_) (n:δ) (ys:l_) (H':Hp) (s':x1!),GI_ H'->Cl_ D=ψ (Kv us n)->Bp ys us->H_<=sizeLine->H' D=υ->t_<=D->t_<=C->D≠C->H' C=υ->
   uk!->Fin ys H'->RR im_ C fQ! s'):
  wpAny d_ X.A (newList []) (λav bp=>rr_ uk_ (λcenv jx=>
   codeAny d_ X.A ul_ (RR av cenv.locals) jx) E bp) E s2:=by
 let#[W,#[m0,w0],g9]:=hw;let flt:∀b∈fp,b<t_:=λb G=>by let#[o,e,_]:=T.obj _ _ cz b G;exact FK e
 exact GY um!;dsimp only at o8 ll ⊢;generalize pc:s2.heap.push {cls:=.type "list",dict:=none,data:=.seq (mZ_).toArray}=G2 at o8 ll ⊢;let hC:bZ!=t_+1:=by rw[<-pc,IN]
 let gw:t_≠bZ!:=by rw[hC];exact FW (NC _)
 let qu:t_<=bZ!:=by rw[hC];exact KL _
 let below:∀b,b<t_->b≠bZ!:=λb G=>by rw[hC];exact FW (OJ G)
 let old:∀b o,CZ_ b=ψ o->Ex_ b=ψ o:=λb o e=>D9_ b;let yn:=ll.extBut _ _ gw uo!;let je:=FU! cz λb _ o e=>old b o e;let I1:=a4e (NL:=NL) (t:=up_) cn df b9 cap I2 f2 flt qu p! gw old o8 yn up!;let iw:∀{H':Hp} {oD:Obj},bT_->∀b∈fp,Gg_ em_:=λ{H' oD} hn b G=>by
  let#[_,f1,f3,f4,f5,f6]:=f2 b G;exact uq!;let cr:p∈ab!++[en!]:=by simpa[Hx]using hp
  obtain cr|cr:=FL.mp cr
  .exact f6 p cr
  .let e:p=en!:=by simpa using cr
   subst e;exact IZ fP!
 let loop:∀bp:Shared,bp={s2 with heap:=h₁,toks:=s2.toks+(m0_).length}->
   codeAny d_ X.A uq_ ur! bp:=by
  rintro bp rfl;exact a0x (E:=ur_) (Gq! em_)
   (us!) ?_ m0 us_
  rintro k s' ⟨i,ys,us,n,ac,H',I',af,lm,rv,w'⟩;let#[az,lp]:=D4_ g9 w';obtain⟨stop,ak⟩|⟨go,step⟩:=lp
  .exact cO (CK_ T.done stop) ?_;rintro r s4 ⟨hr,I4⟩;subst hr;let ub:=I4.pin fQ_ (BE! Hx);let IX:=I2.call' I4.os I4.base I4.hok I4.bare λb G=>by
    show"!b"
   show"!O"
  .exact cO (CK_ T.item go) ?_;rintro r s4 ⟨u,hr,h4⟩;subst hr;exact cO h4 ?_;rintro _ s5 ⟨x,H5,I5,r5,y5,iz,oo⟩;let oq:=DE_ jB_;exact cO ut! ?_;rintro _ s6 ⟨im,H6,I6,q6⟩;exact cO ut_ ?_;rintro ok s7 ⟨H7,I7,q7⟩;let uc:∀{ud:St} {H8:Hp} {s8:x1!},Inv em_ uu! ud H8 s8->tn u_ s8.heap/\∀b∈fp,H8 b=none:=λ{ud H8 s8} I8=>by
    show"#%"
   cases ok with
   |false=>
    show"!`"
   |true=>
    simp![IB]at q7 ⊢;exact cO uv_ ?_;rintro yv s8 ⟨y,H8,I8,r8,m',hm,w8⟩;let#[t8,n8]:=uc I8;let pD:=I8.pin fQ_ uw!;let SK:=uw_;exact wpAny_list_append_plain #[n,pD.1] λh9 yp ue=>?_;let#[n9,e9]:=yp;let yq:=I8.pins_of λp hp=>I8.pin p ux!;let I9:Fm! em_ {s8 with heap:=h9,toks:=s8.toks}:=by
     exact yq.turned ux_ pD.2.1 gw (.inr p!) uy! λp hp=>?_
     .show"#@"
     .let cr:p∈X.pn++Z:=by simpa[Hx]using hp
      exact uy_
    let yr:h9.get? t_=ψ (Kv m3! n9):=by
     rw[e9,List.push_toArray]
    exact uA!;obtain hp|hp:=FL.mp hp
    .exact uB!
    .let e:p=uB_:=by simpa using hp
     subst e;exact uC_
 exact codeAny_compStart_list m4! uD!
def Ux(nl:δ)(ix:b!)(wi:TI)(g:TG)(tt:TT)(te:TE):TE:=λU H Q=>wi U H λJ H1=>Qr J g tt te (λys H'=>∀p,H' p=υ->Q bk! (upd H' p ap_)) (Mg nl ix U) H1
def a9j{X:Cx}{scope:Scope}{NL:l!}{ix:b!}{wi:TI}{g:TG}{tt:TT}{te:TE}
  (cn:aX!)(df:a7!)(ic:∀y∈aO!,y.2=.local->scope.names.lookup y.1=Ad! ψ)
  (gr:cx!)(cap:a6_)(calm:af_)(bq:fp!)
  (hg:en_)(hi:uE!)(he:uE_)
  (hs:aM_:=by intro _;rfl):
  PE X dk_ m4_:=by
 show"!D";show"#9"
 rw[eval_ListComp];exact Cv_ hs;let#[it,fp,tn,J,H2,e,I2,T,cz,f2,hw]:=h2;subst e;exact BU_ T;rintro D C us n ys H' s' I' eD rv az nD hD hC gw nC ⟨m,hn⟩ ak;exact uG!;let dw:∀b,b<t_->b≠C/\b≠D:=λb G=>m6!;let jy:∀x c,ro_ x=ψ c->c<t_:=λx c h=>by let#[_,_,ho,_]:=Dp! h;exact FK ho
 let mz:∀p∈X.pn++Z,p.1<t_:=λp hp=>FK (fS!).1;let IC:m2! H' {s' with heap:=h',toks:=s'.toks}:=I'.turned m6_ nC m7! io_ m7_ λp hp=>(eo!).1;let ID:=IC.track uI_ rv az nD m8! na_ m8_ λp hp=>(eo!).2;exact uJ!
end L2
namespace DL
open PySem PySem.Spec PyProof.Rows L2
abbrev St:=L2.St
inductive D where
 |non|bl (b:Bool)|int (i:Int)|str (x:Str)|tup (xs:e!)|lst (xs:e!)|fn (a:uv!)|dk (h1:μ na!)
mutual
noncomputable def Bc(KF:ye!)(H:Hp):D->V->Prop
 |.non,v=>v=V.non
 |.bl b,v=>v=V.bl b
 |.int i,v=>v=V.int i
 |.str x,v=>v=V.str x
 |.tup xs,v=>∃a vs,v=V.ref a/\Cs! Fe/\BF_ xs vs
 |.lst xs,v=>∃a vs,v=V.ref a/\Cs! Er/\BF_ xs vs
 |.fn a,v=>v=V.ref a
 |.dk h1,v=>∃a,v=V.ref a/\Rd H a db!
noncomputable def Am(KF:ye!)(H:Hp):List D->List V->Prop
 |[],vs=>vs=[]
 |d::ds,vs=>∃v r,vs=v::r/\AP! d v/\BF_ ds r
end
mutual
noncomputable def Di:D->Bool
 |.lst _=>θ
 |.dk _=>θ
 |.tup xs=>Dc xs
 |_=>τ
noncomputable def Dc:List D->Bool
 |[]=>τ
 |d::ds=>Di d&&Dc ds
end
mutual
noncomputable def dep:D->Nat
 |.lst xs=>Du xs+1
 |.tup xs=>Du xs+1
 |_=>0
noncomputable def Du:List D->Nat
 |[]=>0
 |d::ds=>max (dep d) (Du ds)
end
section
variable{KF:ye!}{H H':Hp}
mutual
theorem Bc.map(ht:ip_)(hl:uJ_)(hd:uK!):∀(d:D) (v:V),AP! d v->Bc KF H' d v
 |.non,_,h=>h
 |.bl _,_,h=>h
 |.int _,_,h=>h
 |.str _,_,h=>h
 |.tup xs,_,h=>by
  show"!c";exact#[a,vs,e,ht a vs q,uK_]
 |.lst xs,_,h=>by
  show"!c";exact#[a,vs,e,hl a vs q,uK_]
 |.fn _,_,h=>h
 |.dk h1,_,h=>by
  delta Bc at h ⊢;let#[a,e,q]:=h;exact#[a,e,hd a h1 q]
theorem Am.map(ht:ip_)(hl:uJ_)(hd:uK!):∀(ds:e!) (vs:l_),tT! H->tT! H'
 |[],_,h=>h
 |d::ds,_,h=>by
  delta Am at h ⊢;let#[v,r,e,q,t]:=h;exact#[v,r,e,Bc.map ht hl hd d v q,Am.map ht hl hd ds r t]
end
mutual
theorem Bc.mapT(ht:ip_):∀(d:D) (v:V),Di d=τ->AP! d v->Bc KF H' d v
 |.non,_,_,h=>h
 |.bl _,_,_,h=>h
 |.int _,_,_,h=>h
 |.str _,_,_,h=>h
 |.tup xs,_,n,h=>by
  delta Di at n;show"!c";exact#[a,vs,e,ht a vs q,Am.mapT ht xs vs n r]
 |.lst xs,_,n,_=>by
  delta Di at n;exact AN_ n
 |.fn _,_,_,h=>h
 |.dk _,_,n,_=>by
  delta Di at n;exact AN_ n
theorem Am.mapT(ht:ip_):∀(ds:e!) (vs:l_),Dc ds=τ->tT! H->tT! H'
 |[],_,_,h=>h
 |d::ds,_,n,h=>by
  delta Dc at n;rw[FB]at n;delta Am at h ⊢;let#[v,r,e,q,t]:=h;exact#[v,r,e,Bc.mapT ht d v n.1 q,Am.mapT ht ds r n.2 t]
end
def bJ(e:ej!)(h:B0_ KF):Fm_ a xs:=by
 rcases h with(h|⟨o,h⟩)|h
 .exact t3!
 .exact t4!
 .exact .inr h
def a8w(e:ej!)(h:Rd H a o):Rd H' a o:=by
 obtain h|⟨u,h⟩:=h
 .exact .inl (e _ _ h)
 .exact .inr #[u,e _ _ h]
def Bc.mono(e:ej!)(h:fT_):Bc KF H' d v:=Bc.map uL_ uM! uM_ d v h
def Am.mono(e:ej!)(h:bZ_):tT! H':=Am.map uL_ uM! uM_ ds vs h
def Bc.non:Bc KF H .non V.non:=by delta Bc;rfl
def Bc.bl:AP! V_ (V.bl b):=by delta Bc;rfl
def Bc.int:AP! ae! (V.int i):=by delta Bc;rfl
def Bc.str:AP! bP_ (V.str x):=by delta Bc;rfl
def Bc.fn:AP! cx_ fU_:=by delta Bc;rfl
def Bc.tup(h:Cs! Fe)(r:bZ_):AP! dm_ fU_:=by delta Bc;exact uN!
def Bc.lst(h:Cs! Er)(r:bZ_):AP! bm_ fU_:=by delta Bc;exact uN!
def Am.nil:Am KF H [] []:=by delta Am;rfl
def Am.cons(h:fT_)(t:bZ_):BF_ cy! (v::vs):=by delta Am;exact#[v,vs,χ,h,t]
def aE:∀{ds:e!} {vs:l_},tT! H->e_=at!
 |[],vs,h=>by delta Am at h;subst h;rfl
 |d::ds,vs,h=>by
  delta Am at h;let#[v,r,e,_,t]:=h;rw[e,FN,FN,aE t]
def eY:∀{ds:e!} {vs:l_} {i:δ} {d:D},tT! H->ds[i]?=ψ d->∃v,vs[i]?=ψ v/\AP! d v
 |[],_,_,_,_,e=>by simp at e
 |c::ds,vs,i,d,h,e=>by
  delta Am at h;let#[v,r,e1,q,t]:=h;subst e1;cases i with
  |zero=>simp at e;subst e;exact#[v,χ,q]
  |succ i=>
   let#[u,O,h2]:=eY t cf!;exact pP_
def cR:∀{ds es:e!} {vs ws:l_},tT! H->BF_ es ws->BF_ (ds++es) (vs++ws)
 |[],_,_,_,h,k=>by delta Am at h;subst h;exact k
 |c::ds,_,vs,_,h,k=>by
  show"![";exact Dh! q (cR t k)
def wD:∀{ds:e!} {vs:l_} (n:δ),tT! H->BF_ (ds.take n) (vs.take n)
 |_,_,0,_=>Am.nil
 |[],_,n+1,h=>by delta Am at h;subst h;exact Am.nil
 |c::ds,vs,n+1,h=>by
  show"![";exact Dh! q (wD n t)
def wE:∀{ds:e!} {vs:l_} (n:δ),tT! H->BF_ fW_ (vs.drop n)
 |_,_,0,h=>h
 |[],_,n+1,h=>by delta Am at h;subst h;exact Am.nil
 |c::ds,vs,n+1,h=>by
  show"![";exact wE n t
def sY(hd:fT_):∀{ds:e!} {vs:l_} (n:δ),tT! H->BF_ (ds.set n d) (vs.set n v)
 |[],_,_,h=>by delta Am at h;subst h;exact Am.nil
 |c::ds,vs,n,h=>by
  delta Am at h;let#[u,r,e1,q,t]:=h;subst e1;cases n with
  |zero=>exact Dh! hd t
  |succ n=>exact Dh! q (sY hd n t)
def cJ(h:Am KF H [] vs):vs=[]:=by delta Am at h;exact h
def bK(h:BF_ cy! vs):∃v r,vs=v::r/\AP! d v/\BF_ ds r:=by delta Am at h;exact h
def bI(h:AP! dm_ v):∃a vs,v=V.ref a/\Cs! Fe/\tT! H:=by delta Bc at h;exact h
def bM(h:AP! bm_ v):∃a vs,v=V.ref a/\Cs! Er/\tT! H:=by delta Bc at h;exact h
def aW(h:AP! ae! v):v=V.int i:=by delta Bc at h;exact h
def cP(h:AP! (.bl i) v):v=V.bl i:=by delta Bc at h;exact h
def bB(h:AP! fX! v):v=V.str i:=by delta Bc at h;exact h
def dU(h:Bc KF H .non v):v=V.non:=by delta Bc at h;exact h
def eX(h:AP! cx_ v):v=V.ref a:=by delta Bc at h;exact h
def c8w(h:AP! (.dk h1) v):∃a,v=V.ref a/\Rd H a db!:=by delta Bc at h;exact h
def jK(h:cz_):By H fX_:=λb u e=>by rw[aH (aU e h)];exact e
def eS(h:cz_)(r:bZ_):Bc KF (Ev_ p vs) dm_ nb_:=Bc.tup (Fe.of aV) uO_
def bW(h:cz_)(r:bZ_):Bc KF iq_ bm_ nb_:=Bc.lst (Er.of aV) uO_
end
structure Cq(hb H G' H':Hp):Prop where
 g:By hb G'
 h:By H H'
 sub:By G' H'
 new:∀b,G' b≠υ->hb b≠υ\/H b=υ
def Cq.refl{hb H:Hp}(s:M!):Ey! hb H:=#[fY!,By.refl H,s,fY_]
def Cq.trans(a:Ey! G1 H1)(b:Cq G1 H1 G2 H2):Ey! G2 H2:=
 #[a.g.trans b.g,a.h.trans b.h,b.sub,λc h=>(b.new c h).elim (λz=>a.new c z) λz=>.inr (a.h.free z)]
def Cq.laid(s:M!)(hp:cz_):Ey! (upd hb p o) fX_:=by
 exact#[jK (s.free hp),jK hp,ir!,bo!]
 .by_cases G:b=p
  .subst G;rw[aV]at e ⊢;exact e
  .rw[aH G]at e ⊢;exact s b u e
 .by_cases G:b=p
  .subst G;exact .inr hp
  .rw[aH G]at h;exact .inl h
abbrev Ac:=μ (ι D)
structure OR(KF:ye!)(own:b!)(hb H:Hp)(U:St)(ρ:Ac):Prop where
 sub:By hb H
 len:kd_=dP_
 at_:∀(i:δ) (d:D),ρ[i]?=ψ bo_->i∉own->∃v,U[i]?=ψ an!/\BE_ d v
 own_:∀i∈own,∃p ds vs,ρ[i]?=ψ nc_/\U[i]?=ψ bE!/\H p=ψ dn_/\hb p=υ/\tT! hb
 dis:∀i∈own,∀j∈own,i≠j->∀p q,U[i]?=ψ bE!->U[j]?=AY_ (V.ref q)->p≠q
def OR.grow{KF:ye!}(h:bE_)(x:ir_):Cd_ OR G' H' U ρ where
 sub:=x.sub
 len:=h.len
 at_:=λi d q n=>by let#[v,O,h2]:=h.at_ i d q n;exact uQ_
 own_:=λi hi=>by
  let#[p,ds,vs,O,h2,h3,h4,h5]:=h.own_ i hi;exact#[p,ds,vs,O,h2,x.h _ _ h3,?_,h5.mono x.g];cases q:G' p with
  |none=>rfl
  |some o=>
   rcases x.new p cC! with z|z
   .exact Ac_ h4 z
   .rw[h3]at z;rcases z
 dis:=h.dis
def OR.set{KF:ye!}(h:bE_)(hi:al!)(r:b2!):Cd_ OR hb H c3! b2_ where
 sub:=h.sub
 len:=by rw[IH,IH,h.len]
 at_:=λj c q n=>by
  by_cases hj:i=j
  .subst hj;by_cases hi:i<kd_
   .rw[GW hi]at q;cases q;exact#[v,by rw[GW (B6! h.len hi)],r]
   .rw[II (CY_ IH)]at q;rcases q
  .rw[GA hj]at q;rw[GA hj];exact h.at_ j c q n
 own_:=λj hj=>by
  let ne:i≠j:=λe=>FU_ e;rw[GA ne,GA ne];exact h.own_ j hj
 dis:=λj hj k hk am p q e1 e2=>by
  let ne:i≠j:=λe=>FU_ e;let VQ:i≠k:=λe=>hi (e▸hk);rw[GA ne]at e1;rw[GA VQ]at e2;exact h.dis j hj k hk am p q e1 e2
def Ex(own:b!)(U:St):μ Addr:=own.filterMap λi=>match U[i]? with|some (some (V.ref p))=>ψ p|_=>υ
def gE(h:p∈Ex own U):∃i∈own,U[i]?=ψ bE!:=by
 let#[i,hi,e]:=JQ.mp h;exact#[i,hi,?_];show"!6"
 .rename_i q he;rcases e;exact he
 .rcases e
def a2f(hi:fZ_)(h:uS_):p∈Ex own U:=JQ.mpr #[i,hi,by rw[h]]
def Ia(own:b!)(U:St)(hb H:Hp):Hp:=λb=>if b∈Ex own U then H b else hb b
def OR.full{KF:ye!}(h:bE_):OR KF [] f0! H U ρ:=by
 let s1:By hb f0!:=λb o e=>by
  delta Ia;split
  .exact h.sub b o e
  .exact e
 let s2:By f0! H:=λb o e=>by
  delta Ia at e;show"!6"
  .exact e
  .exact h.sub b o e
 exact#[s2,h.len,nf!,av!,av!];by_cases hi:i∈own
 .let#[p,ds,vs,O,h2,h3,h4,h5]:=h.own_ i hi;rw[O]at q;cases q;exact#[_,h2,Bc.lst (Er.of ?_) (h5.mono s1)];delta Ia;rw[FE (a2f hi h2)];exact h3
 .let#[v,O,h2]:=h.at_ i d q hi;exact#[v,O,h2.mono s1]
def Le(ρ ρ':Ac):Prop:=kd_=ρ'.length/\∀(i:δ) (d:D),ρ[i]?=ψ bo_->ρ'[i]?=ψ bo_
def OR.le{KF:ye!}(h:CA! U ρ')(l:Le ρ ρ'):CA! U ρ:=#[h.sub,l.1.trans h.len,λi d q n=>h.at_ i d (l.2 i d q) n,av!,av!]
def Le.set(h:Le ρ ρ')(hi:ρ[i]?=ψ υ):Le ρ (ρ'.set i bo_):=by
 exact#[by rw[IH];exact h.1,λj c q=>?_];let:i≠j:=λe=>by subst e;rw[hi]at q;cases q
 rw[GA this];exact h.2 j c q
def Le.refl(ρ:Ac):Le ρ ρ:=#[χ,λ_ _ h=>h]
def Vo(nl:δ)(ix:b!)(ρ:Ac):Ac:=Cc_ nl++ix.map λj=>(ρ[j]?).join
def OR.cap{KF:ye!}(h:bE_)(nl:δ)(ix:b!)(hx:f0_):CA! (Mg nl ix U) iu!:=by
 delta Mg Vo;exact#[h.sub,G_,nf!,av!,av!];by_cases hi:i<nl
 .rw[IF fC_,KQ,FE hi]at q;cases q
 .rw[ea!,GF,JU]at q;rw[ea!,GF,JU];cases e:ix[i - nl]? with
  |none=>rw[e]at q;rcases q
  |some j=>
   rw[e]at q;let q':(ρ[j]?).join=ψ d:=GN q;let q2:ρ[j]?=ψ bo_:=by
    cases z:ρ[j]? with
    |none=>rw[z]at q';rcases q'
    |some o=>rw[z]at q';exact Hl_ q'
   let#[v,O,h2]:=h.at_ j d q2 (hx j (JE e));exact#[v,by simp[O],h2]
inductive tD(KF:ye!)(own:b!)(f:g_)(U:St)(H:Hp)(Q:VK):Prop
 |mk (hb:Hp) (ρ:Ac) (d:D) (o:bE_) (e:aX_) (k:∀v G' H',Bm! hb H->Bl! KF->Q v H'):Cd_ tD f U H Q
inductive DM(KF:ye!)(own:b!)(f:ar!)(U:St)(H:Hp)(Q:bh!):Prop
 |mk (hb:Hp) (ρ:Ac) (ds:e!) (o:bE_) (e:f ρ=ψ ds) (k:∀vs G' H',Bm! hb H->tT! G'->Q vs H'):Cd_ DM f U H Q
inductive Xl(KF:ye!)(own:b!)(f:Q_)(U:St)(H:Hp)(Q:c3_):Prop
 |mk (hb:Hp) (ρ:Ac) (b:Bool) (o:bE_) (e:f ρ=ψ b) (k:∀G' H',Bm! hb H->Q b H'):Cd_ Xl f U H Q
structure DE(X:Cx)(own:b!)(e:Expr)(f:g_):Prop where
 ok:PE X e (Cm! tD f)
structure DA(X:Cx)(own:b!)(es:bh_)(f:ar!):Prop where
 ok:PA X es (Cm! DM f)
structure DT(X:Cx)(own:b!)(e:Expr)(f:Q_):Prop where
 ok:PT X e uW_
structure DW(X:Cx)(own:b!)(e:Expr)(f:Q_):Prop where
 ok:PW X e uW_
section
variable{X:Cx}{own:List Nat}{e a b c:Expr}{es:List Expr}{pos:Pos}{f fa fb fc:Ac->Option D}{fs:Ac->Option (List D)}{ft fu:Ac->Option Bool}
def dA{t:TE}(h:hp_)(hw:∀U hb H Q ρ d,A9_ X.K->f ρ=ψ d->(Cw! Bc)->t U H Q):vv_ e f:=uX!
def c1n(h:d7_)(hw:∀U hb H Q ρ d,A9_ X.K->fs ρ=ψ d->(Cw! Am)->t U H Q):DA X own es fs:=Bx! p
def rM(h:PT X e t)(hw:uX_):BJ_ DT e:=uX!
def c8f(h:PW X e t)(hw:uX_):BJ_ DW e:=Bx! wh
def Me(f:g_):Ac->ι D:=λρ=>(ah_).bind λd=>if Di d then ψ d else υ
def b1h(h:DE X [] e f):vv_ e (Me f):=dA h.ok λU hb H Q ρ d er e k=>by
 let#[d',e1,e2]:=ET.mp e;split at e2
 .rename_i hn;cases e2;exact#[nj_,ρ,d,er.full,e1,λv G' H' x r=>?_];let yt:∀b,b∈Ex own U->∃vs,G' b=ψ dn_:=λb G=>by
   show"#G"
  let hG:∀b,b∈Ex own U->hb b=none:=λb G=>by
   show"!.";exact h4
  exact k v (λb=>if b∈Ex own U then υ else G' b) H' uZ! (Bc.mapT uZ_ d v hn r)
  .let G:b∉Ex own U:=λG=>by rw[hG b G]at z;rcases z
   show"#3"
  .let z':f1!=ψ o:=z;split at z'
   .rcases z'
   .exact x.sub _ _ z'
  .let z':f1!≠none:=z;split at z'
   .exact AS! z'
   .rename_i G;obtain y|y:=x.new b z'
    .delta Ia at y;rw[FC G]at y;exact .inl y
    .exact .inr y
  .let ne:∀u,G' a=ψ u->u0!->u0_=ψ u:=λu e1 hu=>by
    rw[u1!];exact e1
   rcases q with(q|⟨o,q⟩)|q
   .exact u1_
   .exact u2_
   .exact .inr q
 .rcases e2
def Aa(i:δ):Ac->ι D:=λρ=>(ρ[i]?).join
nonrec def fC(d:D):Ac->ι D:=λ_=>ψ d
def wZ{ρ:Ac}{i:δ}(h:(ρ[i]?).join=ψ d):ρ[i]?=ψ bo_:=by
 cases z:ρ[i]? with
 |none=>rw[z]at h;rcases h
 |some o=>rw[z]at h;exact Hl_ h
def aA(i:δ){x:Str}(hi:al!:=by decide)(hN:Z_:=by rfl)(hv:cj!:=by first|exact Or.inl χ|exact D5! f_|exact D5! b3!)(hd:s_:=by decide)
  (bj:ck!:=by decide):vv_ bP! (Aa i):=
 dA u3! λU hb H Q ρ d er e k=>by let#[v,O,h2]:=er.at_ i d (wZ e) hi;exact#[v,O,k v hb H f1_ h2]
def b5c(h:hp_)(ht:∀U H Q,Q v H->t U H Q)(r:∀H,CS_ H d):Hc! e d:=
 dA h λU hb H Q ρ d' er e' k=>by
  rcases e';exact ht U H Q (k v hb H f1_ (r hb))
def aC:Hc! qI_ ae!:=b5c c9n ep_ λ_=>Bc.int
def bH:vv_ (GD! fX!) (fC fX!):=b5c c9i ep_ λ_=>Bc.str
def gA:vv_ (GD! (.bool i)) (fC (.bl i)):=b5c c7r ep_ λ_=>Bc.bl
def gR:vv_ qJ_ cD!:=b5c c9m ep_ λ_=>Bc.non
def c6z(hg:x_)(hm:X.mg x=ψ c0!)(hd:s_:=by decide):Hc! bP! ae!:=
 b5c (yP (v:=V.int i) hg hm fN! hd) ep_ λ_=>Bc.int
nonrec def f2(g:eq!)(fa fb:g_):Ac->ι D:=λρ=>(b3_).bind λx=>(f2_).bind λy=>g x y
def Gu(KF:ye!)(r:R2)(g:eq!):Prop:=∀{x y:V} {dx dy d:D} {hb H:Hp} {Q:VK},By hb H->BE_ dx x->BE_ dy y->g dx dy=ψ d->iw_->Eu! r
def two(hg:dq!)(er:u4_)(e:f2 g fa fb ρ=ψ d)(k:∀v G' H',Bm! hb H->Bl! X.K->Q v H'):
  Yd r (Cm! tD fa) (Cm! tD fb) U H Q:=by
 delta f2 at e;show"!2";exact#[hb,ρ,x,er,e1,λu G1 H1 s1 r1=>#[G1,ρ,y,cD_,e2,λw G2 H2 s2 r2=>hg s2.sub eq_ r2 e λv G' H' s3 r3=>k v G' H' u5! r3]]
def aM(ho:fr_)(hg:dq!)(ha:F_)(G:b4!):vv_ fs! ix!:=
 dA u7! λU hb H Q ρ d er e k=>FV! e k
def eP(ho:bA!)(hg:dq!)(ha:F_)(G:b4!)(hm:c5!):vv_ c5_ ix!:=
 dA u5_ λU hb H Q ρ d er e k=>FV! e k
def aT(hr:Uq X r)(hg:dq!)(ha:F_)(G:b4!)(hs:Ny b):vv_ mE_ ix!:=
 dA u6! λU hb H Q ρ d er e k=>FV! e k
nonrec def fT(f:g_):Ac->ι Bool:=λρ=>(ah_).bind λd=>match d with|.bl b=>ψ b|_=>υ
def jA{b:Bool}(h:fT f ρ=ψ b):f ρ=ψ V_:=by delta fT at h;let#[d,e,h]:=ET.mp h;cases d<;>first|(rcases h;exact e)|cases h
def bE(ho:bA!)(hg:dq!)(ha:F_)(G:b4!)(hm:c5!):C6! c5_ (fT ix!):=
 rM u6_ λU hb H Q ρ d er e k=>FV! (jA e) λv G' H' s' r'=>by
  obtain rfl:=cP r';exact u7_
def eO(h:dq_)(he:hq!:=by intro _;rfl):C6! e (fT f):=
 rM (yM h.ok he) λU hb H Q ρ d er e k=>⟨hb,ρ,.bl d,er,jA e,λv G' H' s' r'=>by
  obtain rfl:=cP r';exact u7_⟩
def Lc:D->wY_ Bool
 |.lst xs=>ψ (! da_)
 |.tup xs=>ψ (! da_)
 |.bl b=>ψ b
 |.int i=>ψ fv!
 |.non=>ψ θ
 |_=>υ
def rK{KF:ye!}(h:bZ_):(!ds.isEmpty)=!vs.isEmpty:=by let:=aE h;cases ds<;>cases vs<;>simp_all
def kT(h:dq_)(he:hq!:=by intro _;rfl):C6! e (λρ=>(ah_).bind Lc):=
 rM (b7j h.ok he) λU hb H Q ρ b er e k=>by
  let#[d,e1,e2]:=ET.mp e;exact#[hb,ρ,d,er,e1,λv G' H' s' r'=>#[b,?_,nm_]];cases d with
  |non=>cases dU r';rcases e2;exact(rfl:θ=θ)
  |bl x=>cases cP r';rcases e2;exact χ
  |int i=>cases aW r';rcases e2;exact(rfl:fv!=fv!)
  |str x=>cases e2
  |fn a=>cases e2
  |dk a=>cases e2
  |tup xs=>
   let#[a,vs,e3,q,r3]:=bI r';subst e3;rcases e2;exact Ey_ #[vs,bJ s'.sub q,rK r3]
  |lst xs=>
   let#[a,vs,e3,q,r3]:=bM r';subst e3;rcases e2;exact .inl #[vs,s'.sub.seq q,rK r3]
def Bs(ft fu:Q_):Ac->ι Bool:=λρ=>(f3_).bind λb=>if b then fu ρ else ψ θ
def Cy(ft fu:Q_):Ac->ι Bool:=λρ=>(f3_).bind λb=>if b then ψ τ else fu ρ
def Bo(ft:Q_):Ac->ι Bool:=λρ=>(f3_).map (!·)
variable{rest:List Expr}
def oU(h:f4!):BJ_ DW k6!:=#[yL h.ok]
def fD(h:f4!):BJ_ DW k6_:=u8!
def uM(ha:f4!)(G:DW X own ff! fu):DW X own ff_ (Bs ft fu):=
 c8f u8_ λU hb H Q ρ d er e k=>by
  let#[x,e1,e]:=ET.mp e;exact nn!;cases x with
  |true=>exact kN u9!
  |false=>cases e;exact kO (k G1 H1 s1)
def fZ(ha:f4!)(G:DW X own fg_ fu):DW X own fh! (Cy ft fu):=
 c8f u9_ λU hb H Q ρ d er e k=>by
  let#[x,e1,e]:=ET.mp e;exact nn!;cases x with
  |false=>exact kO u9!
  |true=>cases e;exact kN (k G1 H1 s1)
def jC(h:BJ_ DW e):BJ_ DT e:=#[h.ok.pt]
def fK(h:f4!):C6! fh_ (Bo ft):=
 rM (b7k h.ok) λU hb H Q ρ d er e k=>by
  let#[x,e1,rfl]:=EZ.mp e;exact#[hb,ρ,x,er,e1,λG1 H1 s1=>k G1 H1 s1]
def Au(fa fb:g_):Ac->ι D:=λρ=>(nn_).bind λb=>if b then fb ρ else ψ aK!
def Bx(fa fb:g_):Ac->ι D:=λρ=>(nn_).bind λb=>if b then ψ ae_ else fb ρ
def Bd(fa:g_):Ac->ι D:=λρ=>(nn_).map λb=>.bl (!b)
def fL(h:F_):vv_ qU! fa:=#[c9k h.ok]
def gS(ha:F_)(G:vv_ ff! fb):vv_ ff_ (Au fa fb):=
 dA (c9p ha.ok G.ok) λU hb H Q ρ d er e k=>by
  let#[x,e1,e]:=ET.mp e;exact no!;obtain rfl:=cP r1;exact va_;cases x with
  |true=>exact kN iA_
  |false=>cases e;exact kO vb_
def a4t(ha:F_)(G:vv_ fg_ fb):vv_ fh! (Bx fa fb):=
 dA (d2y ha.ok G.ok) λU hb H Q ρ d er e k=>by
  let#[x,e1,e]:=ET.mp e;exact no!;obtain rfl:=cP r1;exact va_;cases x with
  |false=>exact kO iA_
  |true=>cases e;exact kN vb_
def c1k(ha:F_):vv_ fh_ (Bd fa):=
 dA (c9l ha.ok) λU hb H Q ρ d er e k=>by
  let#[x,e1,rfl]:=EZ.mp e;exact no!;obtain rfl:=cP r1;exact#[x,χ,vc!]
def Dt(ft:Q_)(fa fb:g_):Ac->ι D:=λρ=>(f3_).bind λb=>if b then fa ρ else fb ρ
def c1l(hc:BJ_ DT c)(ha:F_)(G:b4!):vv_ qY! (Dt ft fa fb):=
 dA (a2r hc.ok ha.ok G.ok) λU hb H Q ρ d er e k=>by
  let#[x,e1,e]:=ET.mp e;exact nn!;cases x with
  |true=>exact kN iA_
  |false=>exact kO iA_
nonrec def f3(g h:eq!)(fa fb fc:g_):Ac->ι D:=λρ=>(b3_).bind λx=>(f2_).bind λy=>(g x y).bind λz=>match z with
 |.bl true=>(fc ρ).bind λw=>h y w
 |.bl false=>ψ aK!
 |_=>υ
def Ad:Ac->ι aB_:=λ_=>ψ []
def Ab(f:g_)(fs:ar!):Ac->ι aB_:=λρ=>(ah_).bind λd=>(et_).bind λds=>ψ cy!
def aF:DA X own [] Ad:=c1n eB λU hb H Q ρ d er e k=>by
 rcases e;exact k [] hb H f1_ Am.nil
def aB(h:dq_)(hs:iC!)(ai:z_:=by rfl):DA X own J_ (Ab f fs):=
 c1n vc_ λU hb H Q ρ d er e' k=>by
  let#[x,e1,e']:=ET.mp e';let#[xs,e2,e']:=ET.mp e';rcases e';exact GO_ #[G1,ρ,xs,cD_,e2,λvs G2 H2 s2 r2=>k _ G2 H2 bG_ (Dh! eq_ r2)]
def Ay(fs:ar!):Ac->ι D:=λρ=>(et_).bind λds=>if e_<=1000 then ψ dm_ else υ
def Bl(fs:ar!):Ac->ι D:=λρ=>(et_).bind λds=>if e_<=1000 then ψ bm_ else υ
def iG(h:n<=1000):n<=sizeLine:=JH (b2f h)
protected def dG(h:iC!):vv_ sH! (Ay fs):=
 dA (c9h h.ok) λU hb H Q ρ d er e k=>by
  show"!C"
  .show"!Q";exact Bx_ eS
  .rcases e
protected def fW(h:iC!):vv_ d8! (Bl fs):=
 dA iC_ λU hb H Q ρ d er e k=>by
  show"!C"
  .show"!Q";exact Bx_ bW
  .rcases e
def Hi(KF:ye!)(r:co!)(g:bH!):Prop:=∀{vs:l_} {ds:e!} {d:D} {hb H:Hp} {Q:VK},By hb H->tT! hb->g ds=ψ d->iw_->r vs H Q
nonrec def f1(g:bH!)(fs:ar!):Ac->ι D:=λρ=>(et_).bind g
def bZ{id:String}(hc:lQ!)(hd:Hi X.K r g)(hg:x_)(hm:bx!)(hv:mo_)(ha:f4_)(hn:bx_:=by decide)
  (al:s_:=by decide)(he:z_:=by rfl)(ao:W_:=by rfl):vv_ ah! iD!:=
 dA vf! λU hb H Q ρ d er e' k=>by
  show"#8";exact vf_
def lN{T:String}{x:Str}{r:co!}{g:bH!}(hc:hP_)(hd:Hi X.K r g)(hg:x_)(hm:bx!)(hv:fE_)(ha:f4_)(hn:bx_:=by decide)
  (al:s_:=by decide)(he:z_:=by rfl)(ao:W_:=by rfl):vv_ ah! iD!:=
 dA (b3b hc hg hm hv ha.ok hn al he ao) λU hb H Q ρ d er e' k=>by
  show"#8";exact vf_
def Ze(KF:ye!)(n:δ)(g:bH!):Sp:=λvs H Q _=>at!=n/\∃hb ds d,By hb H/\tT! hb/\g ds=ψ d/\∀v G' H',Bm! hb H->Bl! KF->Q v H'
def c7c(F:qS_ He X.mg X.base Mt k ag fd ps (Ze X.K ps.length g))(hr:T!)(hg:x_)(hm:X.mg x=ψ aC!)(hk:G3_ X.K=τ)
  (G:f5!)(ha:f4_)(hn:(J_).length=K!:=by rfl)(az:vg!)
  (al:s_:=by decide)(he:z_:=by rfl)(ao:W_:=by rfl):
  DE X own ah! iD!:=
 dA (sG F hr hg hm hk G .nil a2t ha.ok al he ao) λU hb H Q ρ d er e' k=>by
  show"#8";exact#[hb,ρ,ds,er,e1,λvs G1 H1 s1 r1=>?_];rw[FY];exact#[by rw[<-aE r1];exact az ρ ds e1,G1,ds,d,s1.sub,r1,e',vb!]
end
def aO(h:Ad ρ=ψ ds):e_=0:=by rcases h;rfl
def aD(hf:vh_):∀(ρ:Ac) (ds:e!),Ab f fs ρ=ψ ds->e_=n+1:=λρ ds e=>by
 let#[x,e1,e]:=ET.mp e;let#[xs,e2,e]:=ET.mp e;rcases e;rw[FN,hf ρ xs e2]
def tI(p:PlainL h a its):∃n sl,h.get? a=ψ {cls:=.type "list",dict:=υ,data:=FO_ its,slots:=sl}:=by let#[#[cls,dd,data,sl],n,e,O,h2,h3]:=p;simp only at O h2 h3;subst O h2 h3;exact#[n,sl,e]
section
variable{X:Cx}
def Xs(KF:ye!):R2:=λx y H Q=>∃l b xs zs,x=.ref l/\y=.ref b/\Er KF H l xs/\Er KF H b zs/\h!+zs.length<=sizeLine/\∀p,H p=υ->GX_ (xs++zs)
def a9o:Df! Xs:=by
 intro Z s U H x y v u Q I rx ry h;let#[l,b,xs,zs,rfl,rfl,hH,hB,hz,q]:=h;subst rx;subst ry;let#[its,r,pl,z]:=Cj_ hH;let#[qt,r2,VR,z2]:=Cj_ hB;let#[n,sl,e]:=tI pl;let#[n2,ky,e2]:=tI VR;let O:=W!;let h2:=r2.length;exact concat_meets (HF! e) (HF! e2) PySem.noFill_list_add PySem.seq_list_add PySem.F.slot_list_add PySem.F.entry_list_add (PySem.F.args_list_add_2 _ _)
  (ER! list_addW l υ υ sl ky no_) #[e,e2,?_]
 let ea:aH_++qt.toArray=(its++qt).toArray:=by simp
 rw[ea];exact#[.ref _,_,I.lnew (Fl_ r2) (CY_ FX),χ,q _ I.fresh]
def Ve(KF:ye!):R2:=λx y H Q=>∃a b ys,x=.ref a/\y=.ref b/\Fe KF H a []/\DT! b/\Q ec! H
def b8e:Df! Ve:=by
 intro Z s U H x y v u Q I rx ry h;let#[a,b,ys,rfl,rfl,ha,G,q]:=h;subst rx;subst ry;let#[its,r1,p1,_]:=A1! ha;let#[qt,r2,p2,_]:=A1! G;let#[#[cls,dd,data,sl],ho,hc,n,hd]:=id p1;let#[#[VM,wb,data2,ky],ow,tz,n2,io]:=id p2;simp only at hc hd tz io;subst hc hd tz io;let e0:=r1.nil_iff.mpr χ;exact AQ_ _
  (ER! tuple_addW0 a dd wb sl ky (BE! e0)) #[ho,ow,#[.ref b,H,I,χ,q]]
abbrev big:Nat:=100000
def cD(h:n<=big):n<=sizeLine:=GB h (Fj_ HG)
def Ag:D->D->ι D
 |.int i,.int j=>uY_ (i+j)
 |.str x,.str y=>if ap!+ag!<=big then Ce! (x++y) else υ
 |.tup xs,.tup ys=>if h!+H_<=big then AW! dL_ else υ
 |.lst xs,.lst ys=>if h!+H_<=big then ψ iG! else υ
 |_,_=>υ
def Qx(KF:ye!):R2:=λx y H Q=>Qw (λi j=>.int (i+j)) x y H Q\/((∃i j,x=.str i/\y=.str j/\i.length+j.length<=sizeLine/\Q (.str (i++j)) H)\/(Xr KF x y H Q\/(Ve KF x y H Q\/Xs KF x y H Q)))
def aG:Df! Qx:=c9w.or (a6p.or (c4g.or (b8e.or a9o)))
protected def aX{KF:ye!}:Fa_ Qx Ag:=by
 show"!-";delta Ag at e;show"!6"
 .show"!G";exact .inl #[_,_,χ,χ,dr!]
 .show"#$";show"!6"
  .show"!Q";exact Ey_ #[_,_,χ,χ,cD hl,iH!]
  .rcases e
 .show"#+";let#[b,ws,rfl,qb,rb]:=bI ry;show"!6"
  .show"!Q";let l1:=aE ra;let l2:=aE rb;by_cases hv:vs=[]
   .subst hv;exact Hh_ (.inl #[a,b,ws,χ,χ,np!,bJ sub qb,k _ hb H aC_ ?_]);let:(_:e!)=[]:=ER_ l1;rw[this,PF];exact Bc.tup qb rb
   .exact Bb_ (.inl #[a,b,vs,ws,χ,χ,np!,bJ sub qb,hv,by rw[<-l1,<-l2];exact cD hl,λhw=>?_,λhw p hp=>?_])
    .subst hw;let:(_:e!)=[]:=ER_ l2;exact k _ hb H aC_ ?_;rw[this,FY];exact Bc.tup qa ra
    .exact k _ _ _ f7! (eS eu_ (cR ra rb))
  .rcases e
 .show"#*";let#[b,ws,rfl,qb,rb]:=bM ry;show"!6"
  .show"!Q";exact Hh_ (.inr #[a,b,vs,ws,χ,χ,sub.seq qa,sub.seq qb,by rw[<-aE ra,<-aE rb];exact cD hl,λp hp=>k _ _ _ f7! (bW eu_ (cR ra rb))])
  .rcases e
 .rcases e
def Bu(c:rP!)(g:Int->Int->D):D->D->ι D
 |.int i,.int j=>if c i j=τ then ψ a5! else υ
 |_,_=>υ
def yY{KF:ye!}(hc:∀i j,c i j=τ->C i j)(hg:vn_):Gu KF (rI C gv) (Bu c g):=by
 show"!-";delta Bu at e;show"!6"
 .obtain rfl:=aW rx;obtain rfl:=aW ry;show"!6"
  .rename_i h;rcases e;exact#[_,_,χ,χ,hc _ _ h,vo!]
  .rcases e
 .rcases e
def Ax(g:Int->Int->D):D->D->ι D
 |.int i,.int j=>ψ a5!
 |_,_=>υ
def sH{KF:ye!}(hg:vn_):Gu KF (Qw gv) (Ax g):=by
 show"!-";delta Ax at e;show"!6"
 .show"!G";exact#[_,_,χ,χ,vo!]
 .rcases e
def Bt:D->D->ι D:=Ax λi j=>.int (i - j)
def pQ{KF:ye!}:Gu KF rR_ Bt:=sH λ_ _ _=>Bc.int
def Ry(i j:Int):Bool:=(decide (-hG!<i)&&decide (i<2 ^ 64))||(decide (-hG!<j)&&decide (j<2 ^ 64))
def d0b{KF:ye!}:Gu KF lz! (DG! Ry (i*j)):=yY (λi j h=>by
 delta Ry at h;simp![JG,FB,FV]at h;exact h) λ_ _ _=>Bc.int
def d0c{KF:ye!}:Gu KF lB! (DG! vq! (i%j)):=yY (λi j h=>by simpa using h) λ_ _ _=>Bc.int
def c4m{KF:ye!}:Gu KF lA! (DG! vr! (i / j)):=yY (λi j h=>by
 simp![FB,FV]at h;exact h) λ_ _ _=>Bc.int
def d0a{KF:ye!}:Gu KF lD! (DG! vs! lC_):=yY (λi j h=>by
 simp![FB,FV]at h;exact#[h.1.1,h.1.2,h.2]) λ_ _ _=>Bc.int
def d3f{KF:ye!}:Dh_ lE! lD_:=sH λ_ _ _=>Bc.bl
def d3g{KF:ye!}:Dh_ lF! lG!:=sH λ_ _ _=>Bc.bl
def d3h{KF:ye!}:Dh_ lH! lG_:=sH λ_ _ _=>Bc.bl
def Qh(x y:Str):Bool:=!decide (y.cps.toList<x.cps.toList)
def b3h:Fw X lE_ (CP_ vs_):=by intro Z s U H x y v u Q I rx ry h;let#[i,j,rfl,rfl,q]:=h;let#[t,rfl]:=rx;let#[t',rfl]:=ry;exact PySem.P.le_str (dO I q χ)
def Bf:D->Bool
 |.non=>τ
 |_=>θ
def An:D->D->ι D
 |x,.non=>rJ! (Bf x)
 |_,_=>υ
def wB{KF:ye!}(r:AP! d x):decide (x=V.non)=Bf d:=by
 cases d with
 |non=>cases dU r;rfl
 |bl b=>cases cP r;rfl
 |int b=>cases aW r;rfl
 |str b=>cases bB r;rfl
 |tup b=>let#[a,vs,rfl,_]:=bI r;rfl
 |lst b=>let#[a,vs,rfl,_]:=bM r;rfl
 |fn b=>cases eX r;rfl
 |dk b=>let#[a,rfl,_]:=c8w r;rfl
def yX{KF:ye!}:Gu KF rY_ An:=by
 show"!-";delta An at e;show"!6"
 .show"#/"
 .rcases e
def Aj:D->D->ι D
 |x,.non=>rJ! (!Bf x)
 |_,_=>υ
def c4l{KF:ye!}:Gu KF rZ! Aj:=by
 show"!-";delta Aj at e;show"!6"
 .show"#/"
 .rcases e
def Ao:D->D->ι D
 |.tup xs,.int i=>Da xs i
 |.lst xs,.int i=>Da xs i
 |.str x,.int i=>if ap!<=big then(Da x.cps.toList i).map λc=>.str L! else υ
 |_,_=>υ
def nB{KF:ye!}(r:bZ_)(h:Da ds i=ψ d):∃v,Da vs i=ψ v/\AP! d v:=by delta Da at h ⊢;let#[j,O,h2]:=ET.mp h;let#[v,h3,h4]:=eY r h2;exact#[v,ET.mpr #[j,by rw[<-aE r];exact O,h3],h4]
def aS{KF:ye!}:Fa_ CK Ao:=by
 show"!-";delta Ao at e;show"!6"
 .show"#+";show"#T";exact Ey_ #[a,vs,_,v,χ,χ,np!,O,vt_]
 .show"#*";show"#T";exact .inl #[a,vs,_,v,χ,χ,sub.seq qa,O,vt_]
 .obtain rfl:=bB rx;obtain rfl:=aW ry;show"!6"
  .rename_i hl;let#[c,O,rfl]:=EZ.mp e;exact Bb_ #[_,_,c,χ,χ,cD hl,O,iH!]
  .rcases e
 .rcases e
nonrec def cutL(xs:A_)(lo hi:T_):μ α:=(xs.drop mB!).take mB_
def tE{KF:ye!}(r:bZ_)(lo hi:T_):BF_ (HT_ ds) (Sg vs lo hi):=by delta cutL Sg;rw[aE r];exact wD _ (wE _ r)
end
section
variable{X:Cx}{own:List Nat}{e a b c:Expr}{es:List Expr}{pos p2:Pos}{f fa fb fc:Ac->Option D}{fs:Ac->Option (List D)}{ft fu:Ac->Option Bool}{ol oh:Ac->Option (Option Int)}
inductive Wl(KF:ye!)(own:b!)(o:dr_)(U:St)(H:Hp)(Q:tn_):Prop
 |mk (hb:Hp) (ρ:Ac) (i:T_) (r:bE_) (e:o ρ=ψ i) (k:∀G' H',Bm! hb H->Q i H'):Cd_ Wl o U H Q
def Ai:Ac->ι nr_:=λ_=>ψ υ
def Ah(f:g_):Ac->ι nr_:=λρ=>(ah_).bind λd=>match d with|.int i=>AY_ i|_=>υ
def bR:PO X υ (Cm! Wl Ai):=by rintro Z s U H Q I ⟨hb,ρ,i,er,e,k⟩;rcases e;exact Hi! c3u (k hb H f1_)
def bP(h:dq_):PO X bR! (Cm! Wl (Ah f)):=by
 rintro Z s U H Q I ⟨hb,ρ,i,er,e',k⟩;let#[d,e1,e2]:=ET.mp e';exact c3t h.ok Z s U H Q I #[hb,ρ,d,er,e1,λv G' H' s' r'=>?_];cases d<;>first
  |cases e2
  |skip
 obtain rfl:=aW r';exact D9! nm_
def Ak:D->wY_ Int->wY_ Int->ι D
 |.tup xs,lo,hi=>if Df_ HT.sIx 0 lo=0/\Df_ HT.sIx xs.length hi=h! then υ else AW! f7_
 |.lst xs,lo,hi=>qX_ f7_
 |_,_,_=>υ
def Ci(f:g_)(ol oh:dr_):Ac->ι D:=λρ=>(ah_).bind λd=>(ol ρ).bind λl=>(oh ρ).bind λh=>Ak d l h
def bN{lo hi:my_}(ha:F_)(hl:ns_)(hh:nt!):vv_ iI! (Ci fa ol oh):=
 dA vu_ λU hb H Q ρ d er e k=>by
  show"!X";let r3:=(eq_).mono s3.g;let s4:=s1.trans er!;let sub:=s4.sub;delta Ak at e;show"!6"
  .show"!6"
   .rcases e
   .rename_i hw;rcases e;let#[p,vs,rfl,q,rr]:=bI r3;exact .inl #[p,vs,χ,bJ sub q,?_,λp hp=>k _ _ _ vw! (eS eu_ nu!)];rw[<-aE rr];exact hw
  .rcases e;let#[p,vs,rfl,q,rr]:=bM r3;exact .inr #[p,vs,χ,f8_,λp hp=>k _ _ _ vw! (bW eu_ nu!)]
  .rcases e
def DH:D->Value
 |.non=>.type "NoneType"
 |.bl _=>.type "bool"
 |.int _=>.type "int"
 |.str _=>.type "str"
 |.tup _=>.type "tuple"
 |.lst _=>.type "list"
 |.fn _=>.none
 |.dk _=>.none
def CL(KF:ye!)(T:String):μ V->Hp->VK->Prop:=λxs H Q=>∃x d b,xs=[x,.ty T]/\AP! d x/\Gh! d=ψ b/\(∀a,d≠.fn a)/\(∀a,d≠.dk a)/\Q V_ H
def c2b:Ft X ew! (CL X.K T):=by
 intro Z s U H xs us Q I r h;let#[x,d,b,rfl,rx,e,hf,yu,q]:=h;let#[u,w',rfl,r1,r2]:=qJ r;subst r2;let ak:∀tk,BS_ EP k3_ {s with toks:=tk}:=λtk=>#[.bl b,H,I.tok tk,χ,q];cases d with
 |non=>cases dU rx;subst r1;exact Bo_ W.kitx_none
 |bl y=>cases cP rx;subst r1;exact Bo_ W.kitx_bool
 |int y=>cases aW rx;let#[t,rfl]:=r1;exact Bo_ W.kitx_int
 |str y=>cases bB rx;let#[t,rfl]:=r1;exact Bo_ W.kitx_str
 |tup ys=>
  show"#+";subst r1;let#[its,_,#[o,O,h2,_],_]:=A1! qa;exact FV_ W.kitx_tuple
 |lst ys=>
  show"#*";subst r1;let#[its,_,pl,_]:=Cj_ qa;let#[o,n,O,h2,_]:=pl;exact FV_ W.kitx_list
 |fn a=>exact AS! (hf a)
 |dk a=>exact AS! (yu a)
def Bz(T:String):D->wY_ Bool
 |.non=>Gw_ T
 |.bl _=>Bq! T T
 |.int _=>G4! T
 |.str _=>G4_ T
 |.tup _=>GK_ T
 |.lst _=>GS_ T
 |.fn _=>υ
 |.dk _=>υ
structure Vt(KF:ye!)(T:String):Prop where
 ok:∀d b,Bz T d=ψ b->Gh! d=ψ b
def zU:Hm! iJ!=Gw_ "int":=by decide+kernel
def a3w:Hm! bp_=Bq! "int" "int":=by decide+kernel
def zY:Hm! aD!=G4! "int":=by decide+kernel
def zS:Hm! aW_=G4_ "int":=by decide+kernel
def zQ:Hm! aN_=GK_ "int":=by decide+kernel
def zW:Hm! iJ_=GS_ "int":=by decide+kernel
def b0t{KF:ye!}:Vt KF "int":=⟨λd b h=>match d,b,h with
 |.non,b,h=>by rcases h;exact zU
 |.bl _,b,h=>by rcases h;exact a3w
 |.int _,b,h=>by rcases h;exact zY
 |.str _,b,h=>by rcases h;exact zS
 |.tup _,b,h=>by rcases h;exact zQ
 |.lst _,b,h=>by rcases h;exact zW
 |.fn _,b,h=>by rcases h
 |.dk _,b,h=>by rcases h⟩
def vO:Hm_ iJ!=Gw_ "bool":=by decide+kernel
def zZ:Hm_ bp_=Bq! "bool" "bool":=by decide+kernel
def vQ:Hm_ aD!=G4! "bool":=by decide+kernel
def vN:Hm_ aW_=G4_ "bool":=by decide+kernel
def vM:Hm_ aN_=GK_ "bool":=by decide+kernel
def vP:Hm_ iJ_=GS_ "bool":=by decide+kernel
def a4d{KF:ye!}:Vt KF "bool":=⟨λd b h=>match d,b,h with
 |.non,b,h=>by rcases h;exact vO
 |.bl _,b,h=>by rcases h;exact zZ
 |.int _,b,h=>by rcases h;exact vQ
 |.str _,b,h=>by rcases h;exact vN
 |.tup _,b,h=>by rcases h;exact vM
 |.lst _,b,h=>by rcases h;exact vP
 |.fn _,b,h=>by rcases h
 |.dk _,b,h=>by rcases h⟩
def zT:Hn! iJ!=Gw_ "str":=by decide+kernel
def a3v:Hn! bp_=Bq! "str" "str":=by decide+kernel
def zX:Hn! aD!=G4! "str":=by decide+kernel
def zR:Hn! aW_=G4_ "str":=by decide+kernel
def zP:Hn! aN_=GK_ "str":=by decide+kernel
def zV:Hn! iJ_=GS_ "str":=by decide+kernel
def a0e{KF:ye!}:Vt KF "str":=⟨λd b h=>match d,b,h with
 |.non,b,h=>by rcases h;exact zT
 |.bl _,b,h=>by rcases h;exact a3v
 |.int _,b,h=>by rcases h;exact zX
 |.str _,b,h=>by rcases h;exact zR
 |.tup _,b,h=>by rcases h;exact zP
 |.lst _,b,h=>by rcases h;exact zV
 |.fn _,b,h=>by rcases h
 |.dk _,b,h=>by rcases h⟩
def tY:Hn_ iJ!=Gw_ "tuple":=by decide+kernel
def vR:Hn_ bp_=Bq! "tuple" "tuple":=by decide+kernel
def uA:Hn_ aD!=G4! "tuple":=by decide+kernel
def tX:Hn_ aW_=G4_ "tuple":=by decide+kernel
def tW:Hn_ aN_=GK_ "tuple":=by decide+kernel
def tZ:Hn_ iJ_=GS_ "tuple":=by decide+kernel
def iH{KF:ye!}:Vt KF "tuple":=⟨λd b h=>match d,b,h with
 |.non,b,h=>by rcases h;exact tY
 |.bl _,b,h=>by rcases h;exact vR
 |.int _,b,h=>by rcases h;exact uA
 |.str _,b,h=>by rcases h;exact tX
 |.tup _,b,h=>by rcases h;exact tW
 |.lst _,b,h=>by rcases h;exact tZ
 |.fn _,b,h=>by rcases h
 |.dk _,b,h=>by rcases h⟩
def Bv(T:String)(f:g_):Ac->ι D:=λρ=>(ah_).bind λd=>(Bz T d).map D.bl
def fY(ht:Vt X.K T)(hg:nv_)(hm:nw!)(uf:x_)(ug:bx!)(hv:nw_)(yw:fE_)(ha:F_)
  (mv:bx_:=by decide)(io:s_:=by decide)
  (he:tS_ [a,nx!]=dZ_::tS_ ew_:=by rfl)(pe:tS_ ew_=(θ,eval ds_ X.env)::Cm_ starEach:=by rfl)
  (ao:(G5! pos ew_).any q!=false:=by rfl):vv_ (.Call (Ho! "isinstance") [a,nx!] [] pos) (Bv T fa):=
 dA (jL c2b hg hm hv (cE ha.ok (cE (a9l (v:=V.ty T) uf ug yw χ mv io) eB pe) he) a_ a_ he ao) λU hb H Q ρ d er e k=>by
  let#[x,e1,e]:=ET.mp e;let#[b,e2,rfl]:=EZ.mp e;exact GO_ #[v,x,b,χ,r1.mono s1.sub,ht.ok x b e2,vy!,vy!,vc!]
def dD{KF:ye!}(h:BF_ [d] vs):∃v,vs=[v]/\AP! d v:=by let#[v,r,rfl,O,h2]:=bK h;obtain rfl:=cJ h2;exact#[v,χ,O]
def Bi:μ D->ι D
 |[.tup xs]=>uY_ h!
 |[.lst xs]=>uY_ h!
 |[.str x]=>if ap!<=big then uY_ ap! else υ
 |_=>υ
protected def eF{KF:ye!}:Hi KF vz_ Bi:=by
 show"!=";delta Bi at e;show"!6"
 .show"!4";let#[a,ws,rfl,q,rr]:=bI rv;rcases e;exact#[_,_,χ,.inr #[ws,bJ sub q,aE rr],dr!]
 .show"!k";rcases e;exact#[_,_,χ,.inl #[ws,f8_,aE rr],dr!]
 .show"!4";obtain rfl:=bB rv;show"!6"
  .show"!Q";exact#[_,_,χ,#[cD hl,χ],dr!]
  .rcases e
 .rcases e
def Ca:μ D->ι D
 |[.int i]=>uY_ hO!
 |_=>υ
def d1y{KF:ye!}:Hi KF r7! Ca:=by
 show"!=";delta Ca at e;show"!6"
 .show"!4";obtain rfl:=aW rv;rcases e;exact vB!
 .rcases e
def Wu:μ D->ι D
 |[.str x]=>if ap!=1 then ψ r9_ else υ
 |_=>υ
protected def d1x{KF:ye!}:Hi KF sa! Wu:=by
 show"!=";delta Wu at e;show"!6"
 .show"!4";obtain rfl:=bB rv;show"!6"
  .show"!Q";exact#[_,χ,hl,dr!]
  .rcases e
 .rcases e
def Mm:μ D->ι D
 |[.lst xs]=>ψ aI!
 |[.tup xs]=>ψ aI!
 |_=>υ
def uT{KF:ye!}:Hi KF (HO! KF KF) Mm:=by
 show"!=";delta Mm at e;show"!6"
 .show"!k";cases e;exact#[a,ws,χ,.inl #[f8_,λp hp=>k _ _ _ f7! (eS eu_ rr)]]
 .show"!4";let#[a,ws,rfl,q,rr]:=bI rv;cases e;exact#[a,ws,χ,.inr #[bJ sub q,k _ hb H aC_ rv]]
 .cases e
def sM:∀{bs:iL!} {us:k_},Bp (bs.map V.bl) us->us=bs.map Value.bool
 |[],_,.nil=>rfl
 |b::bs,_,.cons r t=>by subst r;rw[sM t];rfl
def AJ(KF:ye!):μ V->Hp->VK->Prop:=λxs H Q=>∃(p:uv!) (bs:iL!),xs=ig_/\Er KF H p (bs.map V.bl)/\Cr_ (bs.all id)
def b5k:∀(bs:iL!),((BU! bs.length).all λi=>(bs[i]?).getD τ)=bs.all id:=λbs=>by
 rw[JW,IM,IM];show"#A"
 .intro h x hx;let#[i,hi,rfl]:=List.mem_iff_getElem.mp hx;let:=h i (JN.mpr hi);simpa[hi]using this
 .intro h i hi;let ip:=JN.mp hi;simpa[ip]using h bs[i] (IV ip)
def uV(hc:af_):Ft X vD! (AJ X.K):=by
 intro Z s U H xs us Q I r h;let#[p,bs,rfl,hq,q]:=h;let#[u,rfl,r1]:=iC r;subst r1;let#[its,rv,pl,hz]:=Cj_ hq;let e:=sM rv;subst e;let hl:=pl.isList;let ax:p<h_:=by let#[_,e,_]:=hl;exact FK e
 exact call_all_walk (LP hl ?_);exact⟨h_,[h_,p],[h_],(iL_).toArray.size,_,_,λi=>(bs[i]?).getD τ,χ,Walks.list (A:=X.A.in1) by! _ p (FW ax) (iL_).toArray,
  #[dY!,hl.push _],λi v s' Q' E' hP hQ=>?_,λh' tk hk=>?_⟩
 .let SL:iL_[i]?=ψ v:=by simpa using hP
  rw[GF]at SL;let#[b,G,rfl]:=EZ.mp SL;simp![G,Option.getD_some]at hQ;exact GP hQ
 .let e:((List.range (iL_).toArray.size).all λi=>(bs[i]?).getD τ)=bs.all id:=by
   rw[FG,EX];exact b5k bs
  rw[e];exact#[.bl _,H,I.kept λb x ex=>hk b x (λhm=>by rw[FR.mp hm]at ex;exact JZ _ (FK ex)) (EU _ ex),χ,q]
def Ph:μ D->GT! Bool
 |[]=>ψ []
 |.bl b::r=>(Ph r).map (b::·)
 |_=>υ
def Pw:μ D->ι D
 |[.lst xs]=>(Ph xs).map λbs=>.bl (bs.all id)
 |_=>υ
def wC{KF:ye!}:∀{ds:e!} {vs:l_} {bs:iL!},tT! H->Ph ds=ψ bs->vs=bs.map V.bl
 |[],vs,bs,r,e=>by obtain rfl:=cJ r;rcases e;rfl
 |d::ds,vs,bs,r,e=>by
  let#[v,t,rfl,r1,r2]:=bK r;cases d<;>first|cases e|skip
  let#[bs',e1,rfl]:=EZ.mp e;obtain rfl:=cP r1;rw[wC r2 e1];rfl
def a8b{KF:ye!}:Hi KF (AJ KF) Pw:=by
 show"!=";delta Pw at e;show"!6"
 .show"!k";let#[bs,e1,rfl]:=EZ.mp e;let:=wC rr e1;subst this;exact#[a,bs,χ,f8_,gb!]
 .rcases e
end
def Wi(KF:ye!)(J:It)(ds:e!)(G1:Hp):Prop:=∀(i:δ) (G' H':Hp),By G1 G'->By G' H'->
 vE!/\vE_
inductive DK(KF:ye!)(own:b!)(fi:ar!)(U:St)(H:Hp)(R:hA!):Prop
 |mk (hb:Hp) (ρ:Ac) (ds:e!) (o:bE_) (e:fi ρ=ψ ds) (k:∀J G1 H1,Ey! G1 H1->Dq! J->R J H1):Cd_ DK fi U H R
structure DI(X:Cx)(own:b!)(tg iter:Expr)(fi:ar!):Prop where
 ok:Et_ iter (Cm! DK fi)
section
variable{X:Cx}{own:List Nat}{e a b c tg:Expr}{es:List Expr}{pos p2:Pos}{f fa fb fc:Ac->Option D}{fs fi:Ac->Option (List D)}{ft fu:Ac->Option Bool}
def a4p(h:Et_ e wi)(hw:∀U hb H R ρ ds,A9_ X.K->fi ρ=ψ ds->(∀J G1 H1,Cq hb H G1 H1->Wi X.K J ds G1->R J H1)->wi U H R):C7! DI e fi:=#[by rintro Z s U H R I ⟨hb,ρ,ds,er,e,k⟩;exact h Z s U H R I (hw U hb H R ρ ds er e k)]
def Ej(f:g_):Ac->ι aB_:=λρ=>(ah_).bind λd=>match d with|.lst xs=>ψ xs|_=>υ
def Po(f:g_):Ac->ι aB_:=λρ=>(ah_).bind λd=>match d with|.tup xs=>ψ xs|_=>υ
def a4c{KF:ye!}{ad:uv!}(q:Er KF G1 ad vs)(r:nz!):Dq! (DB KF ad):=by intro i G' H' s1 s2;let q':Er KF H' ad vs:=s2.seq (s1.seq q);exact vG!;let#[v,O,h2]:=eY r hd;exact vG_;let#[e1,e2]:=hy;subst e1;let:=e2 vs q';rw[O]at this;rcases this;exact vH!
def c5w{KF:ye!}{G1:Hp}{ad:uv!}(q:Fe KF G1 ad vs)(r:nz!):Dq! (CZ KF ad):=by intro i G' H' s1 s2;let q':Fm_ ad vs:=Fn! q;exact vG!;let#[v,O,h2]:=eY r hd;exact vG_;let#[e1,e2]:=hy;subst e1;let:=e2 vs q';rw[O]at this;cases this;exact vH!
def eA(h:F_):C7! DI a (Ej fa):=a4p (a9h h.ok) λU hb H R ρ ds er e k=>by
 let#[d,e1,e2]:=ET.mp e;cases d<;>first|cases e2|skip
 exact bH_;let#[p,vs,rfl,q,rr]:=bM r1;exact#[p,χ,#[vs,s1.sub.seq q],k _ G1 H1 s1 (a4c q rr)]
def c1f(h:F_):C7! DI a (Po fa):=a4p (c9f h.ok) λU hb H R ρ ds er e k=>by
 let#[d,e1,e2]:=ET.mp e;cases d<;>first|cases e2|skip
 exact bH_;let#[p,vs,rfl,q,rr]:=bI r1;exact#[p,χ,#[vs,bJ s1.sub q],k _ G1 H1 s1 (c5w q rr)]
def Cw(n:δ):μ D:=(BU! n).map λi=>.int (i:δ)
def Fv(f:g_):Ac->ι aB_:=λρ=>(ah_).bind λd=>match d with|.int j=>if -1000<=j/\j<=100000 then ψ (Cw j.toNat)else υ|_=>υ
def b4i{KF:ye!}:Wi KF (BX 0 n) (Cw n) G1:=by intro i G' H' s1 s2;delta Cw;exact Cw_ IQ;rw[GF]at hd;let#[j,hj,rfl]:=EZ.mp hd;let#[hl,he]:=FO.mp hj;rw[OD]at he;subst he;rw[IQ]at hl;exact#[hl,iM_];let#[e1,e2]:=hy;subst e1 e2;exact#[G',iN!,?_];rw[Int.zero_add];exact Bc.int
def gQ(hg:Gl X "range")(hm:rx!)(h:F_)(hs:rx_:=by rfl)(gj:gb_:=by rfl):
  DI X own tg ry! (Fv fa):=a4p (b2z hg hm (cE h.ok eB gj) hs) λU hb H R ρ ds er e k=>by
 let#[d,e1,e2]:=ET.mp e;cases d<;>first|cases e2|skip
 rename_i j;let e3:(if -1000<=j/\j<=100000 then ψ (Cw j.toNat)else υ)=ψ ds:=e2;split at e3
 .rename_i hj;rcases e3;exact bH_;obtain rfl:=aW r1;exact#[j,χ,n!,n!,k _ G1 H1 s1 b4i]
 .rcases e3
def Cp(bnd:ac!)(ft:Q_)(fe:g_)(ρ:Ac):μ D->wY_ aB_
 |[]=>ψ []
 |d::ds=>(iN_).bind λa9=>(ft a9).bind λb=>if b then(fe a9).bind λy=>(Ce_ ρ).map gc! else Ce_ ρ
def GD(KF:ye!)(g:TG)(bnd:ac!):Prop:=∀{x:V} {d:D} {U:St} {hb H:Hp} {ρ a9:Ac} {Q:hw!},CA! U ρ->BE_ d x->bnd d ρ=ψ a9->(∀bg,OR KF [] hb H bg a9->Le ρ a9->Q bg H)->g x U H Q
def Bj(i:δ):D->Ac->ι Ac:=λd ρ=>match ρ[i]? with|some none=>ψ b2_|_=>υ
def cQ{KF:ye!}(i:δ):GD KF c6_ (Bj i):=by
 intro x d U hb H ρ a9 Q er r e k;delta Bj at e;show"!6"
 .rename_i h;rcases e;exact k _ (er.set nofun r) ((Le.refl ρ).set h)
 .rcases e
def Pi(i j:δ):D->Ac->ι Ac:=λd ρ=>match d with
 |.tup [x,y]=>(Bj i x ρ).bind λa9=>Bj j y a9
 |_=>υ
def Le.trans(a:Le ρ a9)(b:Le a9 br):Le ρ br:=#[a.1.trans b.1,λi d h=>b.2 i d (a.2 i d h)]
def c6h{KF:ye!}(i j:δ):GD KF vL! (Pi i j):=by
 intro x d U hb H ρ a9 Q er r e k;delta Pi at e;show"!6"
 .let#[br,e1,e2]:=ET.mp e;show"!f";show"!8";exact#[p,[v1,v2],χ,bJ er.sub q,χ,v1,[v2],χ,?_];exact cQ i er r1 e1 λbg kz l1=>#[v2,[],χ,?_];exact cQ j kz r2 e2 λf9 ez l2=>#[χ,k f9 ez (l1.trans l2)]
 .rcases e
def Cs(nl:δ)(ix:b!)(fi:ar!)(bnd:ac!)(ft:Q_)(fe:g_):Ac->ι D:=λρ=>(fi ρ).bind λds=>if e_<=big then(Ce_ iu!).map D.lst else υ
def c1u{KF:ye!}{Fin:bh!}
  (G:iO!)(d6:Dq! J)(hg:GD KF g bnd)(er:OR KF [] G1 H1 qw j0)(e:Ce_ j0=ψ g7)(k:∀ys G' H',Bm! G1 H1->Ez! g7->Fin ys H'):
  Qr J g (Xl KF [] ft) (tD KF [] fe) Fin qw H1:=by
 exact⟨λi m ys ac H'=>i<=e_/\m=e_ - i/\∃G' ws r,Bm! G1 H1/\OR KF [] G' H' ac j0/\Ez! ws/\bl!<=i/\Cp bnd ft fe j0 nB!=ψ r/\ws++r=g7,
  #[e_,GT _,χ,G1,[],g7,Cq.refl er.sub,er,Am.nil,GT _,e,χ],?_⟩
 rintro i m ys ac H' ⟨hi,rfl,G',ws,r,x,d7,bf,hw,ez,et⟩;exact nB_;let#[iq,jj]:=d6 i G' H' x.g d7.sub;by_cases ax:i<e_
 .right;let hd:ds[i]?=DG_ i:=by simp[ax]
  let yx:=GV ax;rw[yx]at ez;delta Cp at ez;let#[a9,e1,ez]:=ET.mp ez;let#[b,e2,ez]:=ET.mp ez;let#[go,yl]:=iq _ hd;exact nC!;let#[G2,x2,r2]:=Fn_ v;exact hg (d7.grow x2) r2 e1 λbg kz m7=>#[G2,a9,b,kz,e2,λG3 H3 x3=>?_];let jk:=kz.grow x3;let bc:=x.trans (x2.trans x3);cases b with
  |true=>
   let#[y,e3,ez]:=ET.mp ez;let#[zs,e4,rfl]:=EZ.mp ez;exact kN #[G3,a9,y,jk,e3,λu G4 H4 x4 r4=>#[_,?_,ax,χ,G4,ws++[y],zs,bc.trans x4,(jk.grow x4).le m7,?_,?_,e4,?_]]
   .omega
   .exact cR vM! (BB_ r4)
   .rw[FX,IG];omega
   .rw[LF];exact et
  |false=>
   exact kO #[_,?_,ax,χ,G3,ws,r,bc,jk.le m7,nD!,n!,ez,et];omega
 .left;let fg:i=e_:=by omega
  exact#[jj fg,k ys G' H' x ?_];rw[fg,JL]at ez;rcases ez;rw[FY]at et;subst et;exact bf
def fE
  (cn:aX!)(df:a7!)(ic:∀y∈aO!,y.2=.local->scope.names.lookup y.1=Ad! ψ)
  (gr:cx!)(cap:a6_)(gk:f0_)(calm:af_)(bq:C7! DI iter fi)
  (hg:en_)(ig:gd_)(hi:vM_)(he:vN!)
  (hs:aM_:=by intro _;rfl):
  DE X own dk_ vN_:=
 dA vP! λU hb H Q ρ d er e k=>by
  show"!C"
  .rename_i G;let#[g7,e2,rfl]:=EZ.mp e;exact FJ! hb er;exact CQ_ er.grow λys G' H' x r p hp=>?_;exact k _ _ _ (x1.trans (x.trans nE_)) (bW vR! r)
  .rcases e
def nF:Ka X [] (Xl X.K [] λ_=>ψ τ):=by rintro Z s U H Q I ⟨hb,ρ,b,er,e,k⟩;rcases e;exact Hi! a2p (k hb H f1_)
def b7q(h:DT X [] c ft):Ka X [c] uz!:=a2o h.ok
end
inductive Fl where
 |nx (ρ:Ac)|rt (d:D)
structure SR(KF:ye!)(own:b!)(G0 F0 hb H:Hp)(U:St)(ρ:Ac):Prop where
 or:A9_ KF
 ext:Cq G0 F0 hb H
 fr:∀i∈own,∀p,U[i]?=ψ bE!->F0 p=υ
inductive BN(KF:ye!)(G0 F0:Hp)(own bx:b!)(f:aD_)(E:Ends)(U:St)(H:Hp):Prop
 |mk (hb:Hp) (ρ:Ac) (r:Fl) (o:ey_) (e:f ρ=ψ r) (k:match(generalizing:=false) r with
  |.nx ρ'=>∀G' ac H',SR KF bx G0 F0 G' H' ac ρ'->E.nx ac H'
  |.rt d=>∀v G' H',Bm! G0 F0->Bl! KF->E.rt v H'):BN KF G0 F0 own bx f E U H
structure DS(X:Cx)(own bx:b!)(st:Stmt)(f:aD_):Prop where
 ok:∀G0 F0,PS X st vS!
structure Vw(X:Cx)(own bx:b!)(st:ai_)(f:aD_):Prop where
 ok:∀G0 F0,Jy X st vS!
section
variable{X:Cx}{own ay f8:List Nat}{st:Stmt}{rest body:List Stmt}{e a b c tg:Expr}{es:List Expr}{pos p2:Pos}{f fa fb fc:Ac->Option D}{fs fi:Ac->Option (List D)}{ft fu:Ac->Option Bool}{q1 q2 q3:Ac->Option Fl}
def c1e(h:fk_)(hw:∀G0 F0 E U hb H ρ r,Cm! SR G0 F0 hb H U ρ->q1 ρ=ψ r->(match r with
  |.nx ρ'=>∀G' ac H',SR X.K ay G0 F0 G' H' ac ρ'->E.nx ac H'
  |.rt d=>∀v G' H',Bm! G0 F0->Bl! X.K->E.rt v H')->t E U H):Bu! DS st q1:=#[by rintro G0 F0 Z s U H E I ⟨hb,ρ,r,er,e,k⟩;exact h Z s U H E I (hw G0 F0 E U hb H ρ r er e k)]
def SR.grow{KF:ye!}(s:ey_)(x:ir_):G1_ G0 F0:=#[s.or.grow x,s.ext.trans x,s.fr]
def SR.set{KF:ye!}(s:ey_)(hi:al!)(r:b2!):Cd_ SR G0 F0 hb H c3! b2_:=
 ⟨s.or.set hi r,s.ext,λj hj p e=>by
  let ne:i≠j:=λz=>FU_ z;rw[GA ne]at e;exact s.fr j hj p e⟩
def Bb:Ac->ι Fl:=λρ=>ψ ba!
def Al(q1 q2:aD_):Ac->ι Fl:=λρ=>(q1 ρ).bind λr=>match r with|.nx ρ'=>q2 ρ'|.rt d=>ψ ai!
def cB:B2_ Vw [] Bb:=⟨by
 rintro G0 F0 Z s U H E I ⟨hb,ρ,r,er,e,k⟩;rcases e;exact Bo! a9c E I (k hb U H er)⟩
def aK(O:vS_)(h2:Vw X ay f8 rest q2):D5_ Vw (Al q1 q2):=⟨by
 rintro G0 F0 Z s U H E I ⟨hb,ρ,r,er,e,k⟩;exact nE nG_ (h2.ok G0 F0) Z s U H E I ?_;let#[r1,e1,e2]:=ET.mp e;exact#[hb,ρ,r1,er,e1,?_];cases r1 with
 |nx ρ'=>exact λG' ac H' d7=>#[G',ρ',r,d7,e2,k]
 |rt d=>
  rcases e2;exact k⟩
def aN(O:vS_):Bu! Vw [st] q1:=#[λG0 F0=>dL nG_]
def SR.free{KF:ye!}(s:ey_):SR KF [] G0 F0 f0! H U ρ:=by
 let o:=s.or.full;exact#[o,#[ir!,s.ext.h,o.sub,bo!],av!]
 .let z:=s.ext.g b u e;delta Ia;split
  .exact FW! z
  .exact z
 .delta Ia at h;show"!u"
  .rename_i G;let#[i,hi,q]:=gE G;exact .inr (s.fr i hi b q)
  .exact s.ext.new b h
def uN(h:Vw X [] f8 rest q1):Vw X own f8 rest q1:=#[by rintro G0 F0 Z s U H E I ⟨hb,ρ,r,er,e,k⟩;exact h.ok G0 F0 Z s U H E I #[_,ρ,r,er.free,e,k]]
def Ar(f:g_):Ac->ι Fl:=λρ=>(ah_).map Fl.rt
def aZ(h:dq_):Bu! DS dU! (Ar f):=c1e (a6i h.ok) λG0 F0 E U hb H ρ r er e' k=>by
 let#[d,e1,rfl]:=EZ.mp e';exact#[hb,ρ,d,er.or,e1,λv G' H' x r=>k v G' H' (er.ext.trans x) r]
def Bg(i:δ)(f:g_):Ac->ι Fl:=λρ=>(ah_).map λd=>.nx b2_
def dS(hN:V!)(hi:Z_)(hx:aT_)(h:dq_)(dr:al!:=by decide)(hs:nH_:=by rfl)
  (hf:X.fn x=τ\/qg! x=Ad! some:=by first|exact .inl χ|exact .inr χ|assumption):B2_ DS vW! (Bg i f):=
 c1e vV_ λG0 F0 E U hb H ρ r er e' k=>by
  let#[d,e1,rfl]:=EZ.mp e';exact#[hb,ρ,d,er.or,e1,λv G' H' x r=>k G' _ H' ((iR!).set dr r)]
def Cn(ft:Q_)(q1 q2:aD_):Ac->ι Fl:=λρ=>(f3_).bind λb=>if b then q1 ρ else q2 ρ
def dI(hc:BJ_ DT c)(O:Bu! Vw b1 q1)(h2:Bu! Vw b2 q2):Bu! DS iR_ (Fo! Cn):=⟨by
 rintro G0 F0 Z s U H E I ⟨hb,ρ,r,er,e',k⟩;exact Eh_ nG_ (h2.ok G0 F0) E I ?_;let#[x,e1,e2]:=ET.mp e';exact#[hb,ρ,x,er.or,e1,λG' H' x'=>?_];cases x with
 |true=>exact kN vX!
 |false=>exact kO vX!⟩
def Om(i:δ)(fs:ar!):Ac->ι Fl:=λρ=>(et_).bind λds=>if e_<=1000 then DT_ nI! else υ
def SR.ownNew{KF:ye!}(s:ey_)(hi:al!)(hl:i<dP_)(r:nJ!)(hp:cz_):
  SR KF (i::own) G0 F0 hb iq_ (U.set i bE!) nI!:=by
 let yz:i<kd_:=by rw[s.or.len];exact hl
 let y9:By H iq_:=jK hp;show"#?";exact#[#[vY!,by rw[IH,IH,s.or.len],vY_,λj hj=>?_,λj hj k hk am a b e1 e2=>?_],#[s.ext.g,s.ext.h.trans y9,vY!,s.ext.new],λj hj a e=>?_]
 .let gn:i≠j:=λz=>n (w4_ z EY);rw[GA gn]at q ⊢;exact s.or.at_ j d q λz=>n (EW _ z)
 .obtain z|z:=FD.mp hj
  .subst z;exact#[p,ds,vs,by rw[GW yz],by rw[GW hl],aV,s.or.sub.free hp,r]
  .let gn:i≠j:=λy=>hi (y▸z);let#[a,wj,jl,O,h2,h3,h4,h5]:=DH! j z;exact#[a,wj,jl,by rw[GA gn];exact O,by rw[GA gn];exact h2,by rw[aH (ne h3)];exact h3,h4,h5]
 .let look:∀{j:δ} {a:uv!},j∈i::own->(U.set i bE!)[j]?=ψ iS!->(j=i/\a=p)\/(j≠i/\j∈own/\U[j]?=ψ iS!/\a≠p):=λ{j a} hj e=>by
   by_cases gn:i=j
   .subst gn;rw[GW hl]at e;cases e;exact .inl aa_
   .rw[GA gn]at e;let hm:=Dg_ hj v0_ id;let#[a',wj,jl,O,h2,h3,h4,h5]:=DH! j hm;rw[e]at h2;cases h2;exact .inr #[GI gn,hm,e,ne h3]
  obtain⟨z1,z2⟩|⟨z1,z2,z3,z4⟩:=look hj e1
  .obtain⟨y1,y2⟩|⟨y1,y2,y3,y4⟩:=look hk e2
   .exact Ac_ (z1.trans y1.symm) am
   .rw[z2];exact GI y4
  .obtain⟨y1,y2⟩|⟨y1,y2,y3,y4⟩:=look hk e2
   .rw[y2];exact z4
   .exact s.or.dis j z2 k y2 am a b z3 y3
 .by_cases gn:i=j
  .subst gn;rw[GW hl]at e;cases e;exact s.ext.h.free hp
  .rw[GA gn]at e;exact s.fr j ((FD.mp hj).elim v0_ id) a e
def qF{p4:Pos}(hN:V!)(hi:Z_)(hx:aT_)(h:iC!)(dr:al!:=by decide)
  (hf:X.fn x=τ\/qg! x=Ad! some:=by first|exact .inl χ|exact .inr χ|assumption)(fk:swapsWith (.List es p2) (Di_ x p3) p4.line X.env=pure false:=by rfl):DS X own (i::own) (Di! x p3 (.List es p2) p4) (Om i fs):=⟨by
  rintro G0 F0 Z s U H E I ⟨hb,ρ,r,er,e',k⟩;exact yN hN hi hx iC_ fk hf Z s U H E I ?_;let hl:i<dP_:=by rw[I.len];exact(FO.mp hi).1
  let#[ds,e1,e2]:=ET.mp e';split at e2
  .rename_i hsz;rcases e2;exact#[hb,ρ,ds,er.or,e1,λvs G' H' x r=>#[by rw[<-aE r];exact iG hsz,λp hp=>k G' _ _ ((iR!).ownNew dr hl r hp)]]
  .rcases e2⟩
def SR.upd{KF:ye!}(s:ey_)(hi:fZ_)(hp:uS_)(r:nJ!):
  SR KF own G0 F0 hb iq_ U nI!:=by
 let#[p',wj,jl,O,h2,h3,h4,h5]:=DH! i hi;rw[hp]at h2;cases h2;let hG:∀{b u},hb b=ψ u->b≠p:=λe=>aU e h4;let hF:∀{b u},F0 b=ψ u->b≠p:=λe=>aU e (s.fr i hi p hp);let yz:=(iS_).1;exact#[#[v2_,by rw[IH,s.or.len],vY_,λj hj=>?_,s.or.dis],#[s.ext.g,λb u e=>by rw[aH (hF e)];exact s.ext.h b u e,v2_,s.ext.new],s.fr]
 .let gn:i≠j:=λz=>n (z▸hi);rw[GA gn]at q;exact s.or.at_ j d q n
 .by_cases gn:i=j
  .subst gn;exact#[p,ds,vs,by rw[GW yz],hp,aV,h4,r]
  .let#[a,VS,jm,g1,g2,g3,g4,g5]:=DH! j hj;let ne:=GI (s.or.dis i hi j hj gn p a hp g2);exact#[a,VS,jm,by rw[GA gn];exact g1,g2,by rw[aH ne];exact g3,g4,g5]
def Mp(i:δ)(f:g_):Ac->ι Fl:=λρ=>(ah_).bind λd=>match ρ[i]? with|some (some (.lst ds))=>if e_<big then ψ v3_ else υ|_=>υ
def lM(dr:fZ_:=by decide)(h:dq_)(hN:Z_:=by rfl)(hv:cj!:=by first|exact Or.inl χ|exact D5! f_|exact D5! b3!)
  (hd:s_:=by decide)(bj:ck!:=by decide)
  (ai:v4!:=by rfl)(jh:(DF_ tV!&&Cd! bl_
   &&decide ([e].length+(di!).length+eh!<30))=true:=by rfl) (ji:di_:=by rfl)
  (f7:AO! dt! "append" v5!=AV! dt!:=by rfl) (eu:ge_:=by rfl) (ii:Hg_ v5_ υ=pure false:=by rfl):
  DS X own own (.Expr v5_ pos) (Mp i f):=⟨by
  rintro G0 F0 Z s U H E I ⟨hb,ρ,r,er,e',k⟩;exact sF (wG PySem.F.plainAttrs_list PySem.F.slot_list_append PySem.F.type_list_append wR u3! (cE h.ok eB ai) f7 jh ji ai eu) ii Z s U H E I ?_;let#[d,e1,e2]:=ET.mp e';let#[p,ds,vs,O,h2,h3,h4,h5]:=er.or.own_ i dr;rw[O]at e2;simp only at e2;split at e2
  .rename_i hl;rcases e2;exact#[iT_,h2,.inl #[χ,vs,Er.of h3],hb,ρ,d,er.or,e1,λv G' H' x r=>#[p,vs,v,χ,χ,x.h _ _ h3,?_,?_]]
   .rw[<-aE h5];exact FM hl iU!
   .exact k G' U _ ((iR!).upd dr h2 (cR (h5.mono x.g) (BB_ r)))
  .rcases e2⟩
def Ss(i:δ)(fx fv:g_):Ac->ι Fl:=λρ=>(fv ρ).bind λd=>(fx ρ).bind λx=>match x,ρ[i]? with|.int j,some (some (.lst ds))=>(nL_).map λk=>.nx v6_|_,_=>υ
def c1d(dr:fZ_:=by decide)(hx:v7!)(hv:vv_ e fv)(hN:Z_:=by rfl)(zc:cj!:=by first|exact Or.inl χ|exact D5! f_|exact D5! b3!)
  (hd:s_:=by decide)(bj:ck!:=by decide)
  (ha:∀v,assign v8! X.env v=(do
   let ov <-holding [v] v5!
   let iv <-holding [v,ov] (eval ix X.env)
   standAt p2
   holding dU_ lh_
   release dU_ []):=by intro _;rfl)
  (hs:B1! iU_=pure false:=by rfl) (hw:CW! iU_=pure none:=by rfl)
  (O:A8! iU_=[assign v8! X.env]:=by rfl):
  DS X own own (Ck! iU_ e) (Ss i fx fv):=⟨by
  rintro G0 F0 Z s U H E I ⟨hb,ρ,r,er,e',k⟩;exact b7o hv.ok (b7t v9! hx.ok a1x ha) hs hw O Z s U H E I ?_;let#[d,e1,e2]:=ET.mp e';let#[z,e3,e4]:=ET.mp e2;let#[p,ds,vs,O,h2,h3,h4,h5]:=er.or.own_ i dr;rw[O]at e4;cases z<;>first|cases e4|skip
  rename_i j;let#[n,e5,rfl]:=EZ.mp (show(nL_).map _=ψ r from e4);exact#[hb,ρ,d,er.or,e1,λv G' H' x r=>#[iT_,h2,G',ρ,dZ!,er.or.grow x,e3,v9_]];obtain rfl:=aW r2;exact#[p,vs,j,n,χ,χ,(x.trans x2).h _ _ h3,by rw[<-aE h5];exact e5,?_];exact k G2 U _ (((iR!).grow x2).upd dr h2 (sY (r.mono x2.g) n ((h5.mono x.g).mono x2.g)))⟩
def Pe(i:δ)(fx:g_):Ac->ι D:=λρ=>(fx ρ).bind λx=>match x,ρ[i]? with|.int j,some (some (.lst ds))=>Da ds j|_,_=>υ
def a0r(dr:fZ_:=by decide)(hx:v7!)(hs:Ny ix)(hN:Z_:=by rfl)(zc:cj!:=by first|exact Or.inl χ|exact D5! f_|exact D5! b3!)
  (hd:s_:=by decide)(bj:ck!:=by decide):vv_ (GN_ dt! ix) (Pe i fx):=
 dA (b7x b0r v9! hx.ok hs) λU hb H Q ρ d er e k=>by
  let#[z,e3,e4]:=ET.mp e;let#[p,ds,vs,O,h2,h3,h4,h5]:=er.own_ i dr;rw[O]at e4;cases z<;>first|cases e4|skip
  rename_i j;let e5:=e4;let#[v,e6,r6]:=nB h5 e5;exact#[iT_,h2,hb,ρ,dZ!,er,e3,v9_];obtain rfl:=aW r2;exact#[p,vs,j,v,χ,χ,Er.of (x2.h _ _ h3),e6,k v G2 H2 x2 (r6.mono x2.g)]
def Gh(bnd:ac!)(q:aD_):μ D->Ac->wY_ Fl
 |[],ρ=>ψ ba!
 |d::ds,ρ=>(iN_).bind λa9=>(q a9).bind λr=>match r with|.nx br=>Gh bnd q ds br|.rt d=>ψ ai!
def Nl(fi:ar!)(bnd:ac!)(q:aD_):Ac->ι Fl:=λρ=>(fi ρ).bind λds=>Gh bnd q ds ρ
def Pg(F0 G1:Hp):Hp:=λb=>match F0 b with|some o=>ψ o|none=>G1 b
def SR.base{KF:ye!}(s:Cd_ SR G0 F0 G1 H1 U ρ):Cd_ SR G1 gf_ G1 H1 U ρ:=by
 exact#[s.or,#[By.refl _,ir!,s.or.sub,dt_],wb!]
 .delta Pg at e;show"!6"
  .rename_i o ho;rcases e;exact s.ext.h b _ ho
  .exact FW! e
 .let#[p',ds,vs,O,h2,h3,h4,h5]:=DH! i hi;rw[e]at h2;cases h2;delta Pg;rw[Ho_ s.fr];exact h4
def uJ(x:wc!)(y:Bm! G1 gf_):Bm! G0 F0:=by
 exact#[x.g.trans y.g,λb u e=>y.h b u ?_,y.sub,bo!]
 .delta Pg;rw[e]
 .obtain z|z:=y.new b h
  .exact x.new b z
  .right;delta Pg at z;split at z
   .rcases z
   .assumption
def SR.unbase{KF:ye!}(x:wc!)(s:G1_ G1 gf_):G1_ G0 F0:=
 ⟨s.or,uJ x s.ext,λi hi p e=>by
  let z:=Ho_ s.fr;delta Pg at z;split at z
  .rcases z
  .assumption⟩
def En(i:δ):D->Ac->ι Ac:=λd ρ=>ψ b2_
def uO(hp:d0_)(hc:af_)(bq:DI X own ds_ iter fi)(hN:V!)(hi:Z_)(hx:aT_)(G:B2_ Vw body q1)(dr:al!:=by decide)
  (hf:X.fn x=τ\/qg! x=Ad! some:=by first|exact .inl χ|exact .inr χ|assumption)(hs:aM_:=by intro _;rfl):
  DS X own own (.For ds_ iter body [] pos) (Nl fi (En i) q1):=⟨by
 rintro G0 F0 Z s U H E I ⟨hb,ρ,r,er,e',k⟩;let#[ds,e1,e2]:=ET.mp e';let ij:Dm_ X (λE U H=>∃A B,BN X.K A B own own q1 E U H):=by rintro Z s U H E I ⟨A,B,h⟩;exact G.ok A B Z s U H E I h
 exact a6j hp hc bq.ok (bX hN hi hx hf) ij hs Z s U H E I (FJ! hb er.or);let SM:=er.ext.trans x1;exact⟨λn m ac H'=>n<=e_/\m=e_ - n/\∃G' ρ',Cm! SR G1 gf_ G' H' ac ρ'/\Gh (En i) q1 fW_ ρ'=ψ r,
  #[e_,GT _,χ,G1,ρ,(er.grow x1).base,e2],?_⟩
 rintro n m ac H' ⟨hn,rfl,G',ρ',d7,e3⟩;let#[iq,jj]:=d6 n G' H' d7.ext.g d7.or.sub;by_cases ax:n<e_
 .right;let hd:ds[n]?=DG_ n:=by simp[ax]
  let yx:=GV ax;rw[yx]at e3;delta Gh at e3;let#[a9,e4,e3]:=ET.mp e3;let#[r1,e5,e3]:=ET.mp e3;rcases e4;let#[go,yl]:=iq _ hd;exact#[go,λf9 H2=>∃G2 br,SR X.K own G1 gf_ G2 H2 f9 br/\Gh (En i) q1 (Ez_ bq!) br=ψ r,by rintro f9 H2 ⟨G2,br,O,h2⟩;exact#[e_ - bq!,n!,ax,χ,G2,br,O,h2],iO_];let#[G2,x2,r2]:=Fn_ v;exact#[G1,Pg F0 G1,G2,_,r1,(d7.grow x2).set dr r2,e5,?_];cases r1 with
  |nx br=>exact λG3 iy H3 jk=>#[G3,br,jk,e3]
  |rt d=>
   rcases e3;exact λw G3 H3 x3 r3=>k w G3 H3 (uJ SM x3) r3
 .left;let fg:n=e_:=by omega
  exact ez!;rw[fg,JL]at e3;rcases e3;exact k G' ac H' (SR.unbase SM d7)⟩
def jJ{KF:ye!}(s:M!)(r:nJ!):CA! (L2.start N vs) ez_:=by
 let hl:=aE r;delta L2.start;exact#[s,by simp[hl],nf!,av!,av!];by_cases hi:i<e_
 .rw[IF fC_,GF]at q;let#[d',O,h2]:=EZ.mp q;rcases h2;let#[v,h3,h4]:=eY r O;exact#[v,by rw[IF (by simpa[<-hl]using hi),GF,h3];rfl,h4]
 .rw[ea!,KQ]at q;split at q<;>cases q
end
def d1r{KF:ye!}{st:Stmt}
  (F:wf!)(S:bY!)
  (G:∀(ah:wX!) (A:w5!) (outer:C_) (s:x1!) (H:Hp) (E:XK),Ba k nM_->Ei! Vw nN!)
  (hg:∀ds d,e_=K!->g ds=ψ d->q ez_=ψ ai!\/∃ρ,q ez_=ψ ba!/\d=.non):
  He P w KF mg base Mt Q! ag fd ps nO_:=by
 exact wg!;let#[hl,hb,ds,d,sub,r,e,kk]:=h;exact#[_,(wh!).ok hb H,?_];let er:=jJ (N:=N) sub r;rcases hg ds d (by rw[aE r];exact hl) e with z|⟨ρ,z,rfl⟩
 .exact#[hb,_,_,wj!,z,λv G' H' x r=>kk v G' H' x r]
 .exact#[hb,_,_,wj!,z,λG' ac H' d7=>kk _ G' H' d7.ext Bc.non]
mutual
noncomputable def Dl:D->D->Bool
 |.non,.non=>τ
 |.bl a,.bl b=>a==b
 |.bl a,.int b=>tF!==b
 |.int a,.bl b=>a==if!
 |.int a,.int b=>a==b
 |.str a,.str b=>a==b
 |.tup xs,.tup ys=>Go xs ys
 |.lst xs,.lst ys=>Go xs ys
 |_,_=>θ
noncomputable def Go:List D->List D->Bool
 |[],[]=>τ
 |x::xs,y::ys=>Dl x y&&Go xs ys
 |_,_=>θ
end
mutual
noncomputable def Bm:D->Bool
 |.fn _=>θ
 |.dk _=>θ
 |.tup xs=>Cm xs
 |.lst xs=>Cm xs
 |_=>τ
noncomputable def Cm:List D->Bool
 |[]=>τ
 |d::ds=>Bm d&&Cm ds
end
section
variable{X:Cx}{Z:List (Addr×Obj)}{U:St}{H:Hp}{s:x1!}
def sN(I:c!)(h:iW!)(h':Ef_ a ws):False:=by let#[_,_,#[o,e,c,_],_]:=A1! h;let#[_,_,#[o',n,e',c',_],_]:=Cj_ h';rw[e]at e';rcases e';rw[c]at c';exact Ac_ c' nofun
mutual
theorem yJ(I:c!):∀(d d':D) (v:V),Bm d=τ->Bm d'=τ->CS_ H d->CS_ H d'->d=d'
 |.non,d',v,n,n',r,r'=>by
  obtain rfl:=dU r;cases d'<;>first
   |rfl
   |(delta Bc at r';cases r';done)
   |(let#[a,vs,e,_]:=bI r';cases e)
   |(let#[a,vs,e,_]:=bM r';cases e)
   |(delta Bm at n';cases n')
 |.bl b,d',v,n,n',r,r'=>by
  obtain rfl:=cP r;cases d'<;>first
   |(cases cP r';rfl;done)
   |(delta Bc at r';cases r';done)
   |(let#[a,vs,e,_]:=bI r';cases e)
   |(let#[a,vs,e,_]:=bM r';cases e)
   |(delta Bm at n';cases n')
 |.int b,d',v,n,n',r,r'=>by
  cases aW r;cases d'<;>first
   |(cases aW r';rfl;done)
   |(delta Bc at r';cases r';done)
   |(let#[a,vs,e,_]:=bI r';cases e)
   |(let#[a,vs,e,_]:=bM r';cases e)
   |(delta Bm at n';cases n')
 |.str b,d',v,n,n',r,r'=>by
  cases bB r;cases d'<;>first
   |(cases bB r';rfl;done)
   |(delta Bc at r';cases r';done)
   |(let#[a,vs,e,_]:=bI r';cases e)
   |(let#[a,vs,e,_]:=bM r';cases e)
   |(delta Bm at n';cases n')
 |.tup xs,d',v,n,n',r,r'=>by
  let#[a,vs,rfl,q,rr]:=bI r;cases d' with
  |tup ys=>
   let#[a',jl,e,q',d8]:=bI r';cases e;let:=I.tuple_inj q q';subst this;delta Bm at n n';rw[wk!]
  |lst ys=>
   let#[a',jl,e,q',d8]:=bM r';cases e;exact(sN I q q').elim
  |fn b=>delta Bm at n';cases n'
  |dk b=>delta Bm at n';cases n'
  |non=>cases dU r'
  |bl b=>cases cP r'
  |int b=>cases aW r'
  |str b=>cases bB r'
 |.lst xs,d',v,n,n',r,r'=>by
  let#[a,vs,rfl,q,rr]:=bM r;cases d' with
  |lst ys=>
   let#[a',jl,e,q',d8]:=bM r';cases e;let:=I.list_inj q q';subst this;delta Bm at n n';rw[wk!]
  |tup ys=>
   let#[a',jl,e,q',d8]:=bI r';cases e;exact(sN I q' q).elim
  |fn b=>delta Bm at n';cases n'
  |dk b=>delta Bm at n';cases n'
  |non=>cases dU r'
  |bl b=>cases cP r'
  |int b=>cases aW r'
  |str b=>cases bB r'
 |.fn a,d',v,n,n',r,r'=>by delta Bm at n;cases n
 |.dk a,d',v,n,n',r,r'=>by delta Bm at n;cases n
theorem sZ(I:c!):∀(ds es:e!) (vs:l_),Cm ds=τ->Cm es=τ->Dp_ X.K H->Am X.K H es vs->ds=es
 |[],es,vs,n,n',r,r'=>by
  obtain rfl:=cJ r;cases es with
  |nil=>rfl
  |cons e es=>let#[v,t,z,_]:=bK r';rcases z
 |d::ds,es,vs,n,n',r,r'=>by
  let#[v,t,rfl,r1,r2]:=bK r;cases es with
  |nil=>cases cJ r'
  |cons e es=>
   let#[v',t',z,zd,ze]:=bK r';cases z;delta Cm at n n';rw[FB]at n n';rw[yJ I d e v n.1 n'.1 r1 zd,sZ I ds es t n.2 n'.2 r2 ze]
end
mutual
theorem uL:∀d:D,Bm d=τ->Dl d d=τ
 |.non,_=>by rfl
 |.bl b,_=>by simp[Dl]
 |.int i,_=>by simp[Dl]
 |.str s,_=>by simp[Dl]
 |.tup xs,h=>by delta Dl;exact qD xs wk_
 |.lst xs,h=>by delta Dl;exact qD xs wk_
 |.fn a,h=>by simp[Bm]at h
 |.dk k,h=>by simp[Bm]at h
theorem qD:∀ds:List D,Cm ds=τ->Go ds ds=τ
 |[],_=>by simp[Go]
 |d::ds,h=>by
  delta Cm at h;rw[FB]at h;delta Go;rw[uL d h.1,qD ds h.2];rfl
end
def a2h(I:c!)(d d':D)(v:V)(n:cH_)(n':eA!)(r:du_)(r':CS_ H d'):Dl d d'=true:=by rw[<-yJ I d d' v n n' r r'];exact uL d n
def lL(A:w5!):A.in1.units=A.units+1:=χ
def kY:∀(xs ys:e!),h!=H_->((BU! h!).all λj=>Dl (xs.getD j .non) (ys.getD j .non))=Go xs ys
 |[],[],_=>rfl
 |x::xs,y::ys,h=>by
  let ih:=kY xs ys wm_;delta Go;rw[FN,List.range_succ_eq_map,JI,<-ih,List.all_map];rfl
 |[],_::_,h=>by simp at h
 |_::_,[],h=>by simp at h
def kR:∀(xs ys:e!),h!≠H_->Go xs ys=θ
 |[],[],h=>AS! h
 |x::xs,y::ys,h=>by
  delta Go;rw[kR xs ys wm_,LH]
 |[],_::_,_=>rfl
 |_::_,[],_=>rfl
def oO(rd:gg_)(re:gh!)(rv:c4!)(bf:Bp ws bi)
  (h:∀(j:δ) u u',us[j]?=ψ u->bi[j]?=ψ u'->AY! u' iX_):
  ∀j (O:j<nP_) (h2:j<nQ!),SeqAt.EqAt A s gi![j] bi.toArray[j] iX_:=λj O h2=>by
 let l1:j<am_:=by simpa using O
 let l2:j<bi.length:=by simpa using h2
 exact h j _ _ (BE! l1) (BE! l2)
def wF(I:c!)(qa:iW!)(qb:Fe X.K H b ws)(rd:gg_)(re:gh!)(hu:av_)
  (h:iY!):BY! u! ec! (Go ds es):=by
 let#[us,rv,p1,_]:=A1! qa;let#[bi,bf,p2,_]:=A1! qb;let O:=aE rd;let h2:=aE re;let h3:=c7!;let h4:=iY_;let z:=SeqAt.RcAt.tuples p1 p2 hu iZ!;let e:wt!=Go ds es:=by
  show"#="
  .rw[hl,Nat.min_self,<-hl,iZ_,hl];simp
  .rw[i0!];let:(e_==aE_)=false:=by simpa using hl
   rw[this,LH]
 rw[e]at z;exact z
def a2l(I:c!)(qa:nQ_)(qb:Ef_ b ws)(rd:gg_)(re:gh!)(hu:av_)
  (h:iY!):BY! u! ec! (Go ds es):=by
 show"!M";let h4:=iY_;by_cases hl:e_=aE_
 .let z:=B3! SeqAt.RcAt.lists no_ iZ!;rw[FG,<-h3,<-O,iZ_]at z;exact z
 .rw[i0!];exact B3! SeqAt.RcAt.lists_lengths wu_
def c0a(I:c!)(q:iW!):∃items,BY_ a items:=by let#[its,_,p,_]:=A1! q;exact#[_,p]
def b4l(I:c!)(q:nQ_):∃items,DH_ a items:=by let#[its,_,p,_]:=I.list q;exact#[_,p.isList]
inductive RV(X:Cx)(H:Hp)(s:x1!):D->Value->Prop
 |non:RV X H s .non .none
 |bl (b:Bool):Ei_ V_ k3_
 |int (i:Int) (t:Tok):Ei_ ae! c0!
 |str (x:Str) (t:Tok):Ei_ bP_ e1!
 |tup {xs:e!} {a:uv!} {its:Z!}:BY_ a its->Ei_ aI! u!
 |lst {xs:e!} {a:uv!} {its:Z!}:DH_ a its->Ei_ af! u!
def wA(I:c!)(n:cH_)(r:du_)(ru:aU!):Ei_ d u:=by
 cases d with
 |non=>cases dU r;subst ru;exact .non
 |bl b=>cases cP r;subst ru;exact .bl b
 |int b=>cases aW r;let#[t,rfl]:=ru;exact .int b t
 |str b=>cases bB r;let#[t,rfl]:=ru;exact .str b t
 |tup ys=>let#[a,ws,rfl,q,_]:=bI r;subst ru;let#[its,p]:=c0a I q;exact .tup p
 |lst ys=>let#[a,ws,rfl,q,_]:=bM r;subst ru;let#[its,p]:=b4l I q;exact .lst p
 |fn a=>delta Bm at n;exact AN_ n
 |dk a=>delta Bm at n;exact AN_ n
def kS(I:c!)(n:cH_)(n':eA!)(hu:av_)(r:du_)(r':gi_)(ru:aU!)(bu:gj!)(hT:∀xs ys,d=.tup xs->d'=.tup ys->AY! u' cI!)(hL:∀xs ys,d=.lst xs->d'=.lst ys->AY! u' cI!):AY! u' cI!:=by
 show"!q"
 all_goals first|exact CA_ hT|exact CA_ hL|(delta Dl;with_reducible first|exact .none_none|exact .same _|exact .none_bool _|exact .none_int _ _|exact .none_str _ _|exact .none_tuple ‹_› hu|exact .none_list ‹_› hu|exact .bool_none _|exact FW_ _|exact Fo_ _|exact Fp! _|exact .bool_tuple _ ‹_› hu|exact .bool_list _ ‹_› hu|exact .int_none _ _|exact Fp_ _|exact EW_ _|exact EX! _|exact FX! _ ‹_› hu|exact .int_list _ _ ‹_› hu|exact .str_none _ _|exact Fq! _|exact EX_ _|exact EY! _|exact FX_ _ ‹_› hu|exact .str_list _ _ ‹_› hu|exact .tuple_none ‹_› hu|exact .tuple_bool _ ‹_› hu|exact FY! _ ‹_› hu|exact FY_ _ ‹_› hu|exact .tuple_list ‹_› ‹_› hu|exact .list_none ‹_› hu|exact .list_bool _ ‹_› hu|exact .list_int _ _ ‹_› hu|exact .list_str _ _ ‹_› hu|exact .list_tuple ‹_› ‹_› hu)
def c8x(I:c!)(n:cH_)(n':eA!)(hu:av_)(r:du_)(r':gi_)(ru:aU!)(bu:gj!)(hT:∀xs ys,d=.tup xs->d'=.tup ys->Hi_ u)(hL:∀xs ys,d=.lst xs->d'=.lst ys->Hi_ u):Hi_ u:=by
 show"!q"
 all_goals first|exact CA_ hT|exact CA_ hL|(delta Dl;with_reducible first|exact .none_none|exact .same _|exact .none_bool _|exact .none_int _ _|exact .none_str _ _|exact .none_tuple ‹_› hu|exact .none_list ‹_› hu|exact .bool_none _|exact FW_ _|exact Fo_ _|exact Fp! _|exact .bool_tuple _ ‹_› hu|exact .bool_list _ ‹_› hu|exact .int_none _ _|exact Fp_ _|exact EW_ _|exact EX! _|exact FX! _ ‹_› hu|exact .int_list _ _ ‹_› hu|exact .str_none _ _|exact Fq! _|exact EX_ _|exact EY! _|exact FX_ _ ‹_› hu|exact .str_list _ _ ‹_› hu|exact .tuple_none ‹_› hu|exact .tuple_bool _ ‹_› hu|exact FY! _ ‹_› hu|exact FY_ _ ‹_› hu|exact .tuple_list ‹_› ‹_› hu|exact .list_none ‹_› hu|exact .list_bool _ ‹_› hu|exact .list_int _ _ ‹_› hu|exact .list_str _ _ ‹_› hu|exact .list_tuple ‹_› ‹_› hu)
mutual
theorem c0z(I:c!):∀(d d':D) (A:w5!) (v v':V) (u u':wX!),Bm d=τ->Bm d'=τ->A.units+dep d<cLine->CS_ H d->Bc X.K H d' v'->Cf v u->Cf v' u'->AY! u' cI!
 |.non,d',A,v,v',u,u',n,n',hu,r,r',ru,bu=>Hp! I
 |.bl _,d',A,v,v',u,u',n,n',hu,r,r',ru,bu=>Hp! I
 |.int _,d',A,v,v',u,u',n,n',hu,r,r',ru,bu=>Hp! I
 |.str _,d',A,v,v',u,u',n,n',hu,r,r',ru,bu=>Hp! I
 |.fn _,d',A,v,v',u,u',n,n',hu,r,r',ru,bu=>Hp! I
 |.dk _,d',A,v,v',u,u',n,n',hu,r,r',ru,bu=>Hp! I
 |.tup xs,d',A,v,v',u,u',n,n',hu,r,r',ru,bu=>kS I n n' a! r r' ru bu (λ_ ys e e'=>by
  cases e;subst e';let#[a,vs,rfl,q,rr]:=bI r;let#[b,ws,rfl,q',d8]:=bI r';cases ru;cases bu;by_cases kj:a=b
  .subst kj;rw[ww!];exact .same _
  .delta Bm at n n';delta dep at hu;delta Dl;exact Ba! wF) aO_
 |.lst xs,d',A,v,v',u,u',n,n',hu,r,r',ru,bu=>AM_ I (λ_ ys e e'=>by
  cases e;subst e';let#[a,vs,rfl,q,rr]:=bM r;let#[b,ws,rfl,q',d8]:=bM r';cases ru;cases bu;by_cases kj:a=b
  .subst kj;rw[ww!];exact .same _
  .delta Bm at n n';delta dep at hu;delta Dl;exact Ba! a2l)
theorem jB(I:c!):∀(ds es:e!) (A:w5!) (vs ws:l_) (us bi:k_),Cm ds=τ->Cm es=τ->A.units+Du ds<cLine->Dp_ X.K H->Am X.K H es ws->Bp vs us->Bp ws bi->
  ∀(j:δ) u u',us[j]?=ψ u->bi[j]?=ψ u'->AY! u' iX_
 |[],es,A,vs,ws,us,bi,n,n',hu,r,r',rv,bf,j,u,u',e,e'=>by
  obtain rfl:=cJ r;cases rv;simp at e
 |d::ds,es,A,vs,ws,us,bi,n,n',hu,r,r',rv,bf,j,u,u',e,e'=>by
  let#[v,t,rfl,r1,r2]:=bK r;cases es with
  |nil=>
   obtain rfl:=cJ r';cases bf;simp at e'
  |cons c es=>
   let#[w,t',rfl,zd,ze]:=bK r';delta Cm at n n';rw[FB]at n n';delta Du at hu;cases rv with
   |cons q8 ui=>
    cases bf with
    |cons VT VU=>
     cases j with
     |zero=>
      simp at e e';subst e e';exact c0z I d c A v w _ _ n.1 n'.1 a! r1 zd q8 VT
     |succ j=>
      exact jB I ds es A t t' _ _ n.2 n'.2 a! r2 ze ui VU j u u' cf! (AM! e')
end
def c8y(I:c!)(d d':D)(n:cH_)(n':eA!)(hu:wx!)(r:du_)(r':gi_)(ru:aU!)(bu:gj!):Hi_ u:=
 c8x I n n' a! r r' ru bu (λxs ys e e'=>by
  subst e e';let#[a,vs,rfl,q,rr]:=bI r;let#[b,ws,rfl,q',d8]:=bI r';subst ru;subst bu;delta Bm at n n';delta dep at hu;delta Dl;exact C0! wF λus bi rv bf=>AN! I) (λxs ys e e'=>by
  subst e e';let#[a,vs,rfl,q,rr]:=bM r;let#[b,ws,rfl,q',d8]:=bM r';subst ru;subst bu;delta Bm at n n';delta dep at hu;delta Dl;exact C0! a2l λus bi rv bf=>AN! I)
def AI(KF:ye!):R2:=λx y H Q=>∃dx dy,AP! dx x/\AP! dy y/\Bm dx=τ/\Bm dy=τ/\dep dx<=40/\Cr_ (Dl dx dy)
def bT(hu:aF!):Fw X (compareOp .Eq) (AI X.K):=by intro Z s U H x y v u Q I rx ry h;let#[dx,dy,r1,r2,n1,n2,hd,q]:=h;exact Ci_ c8y
def Be:D->D->ι D:=λx y=>if Bm x&&Bm y&&decide (dep x<=40)then ψ wx_ else υ
protected def bU{KF:ye!}:Fa_ AI Be:=by
 show"!-";delta Be at e;show"!6"
 .show"#N";rcases e;exact wy!
 .rcases e
end
section
variable{X:Cx}{own:List Nat}{e a b c o i tg:Expr}{es:List Expr}{pos p2:Pos}{f fa fb fc fe:Ac->Option D}{fs fi:Ac->Option (List D)}{ft fu:Ac->Option Bool}
def Ap(g g':eq!)(fa fb fc:g_):Ac->ι D:=λρ=>(b3_).bind λx=>(f2_).bind λy=>(g x y).bind λz=>match z with
 |.bl true=>(fc ρ).bind λu=>g' y u
 |.bl false=>ψ aK!
 |_=>υ
def a4v(ho:bA!)(hg:dq!)(ir:hL!)(zf:Gu X.K r' g')(ha:F_)(G:b4!)(hc:vv_ c fc)
  (hm:hL_:=by with_unfolding_all rfl):vv_ hM! wz!:=
 dA (EY_ b7z) λU hb H Q ρ d er e k=>by
  let#[x,e1,e]:=ET.mp e;let#[y,e2,e]:=ET.mp e;let#[z,e3,e]:=ET.mp e;exact wz_;let pf:=s1.trans er!;cases z<;>first|cases e|skip
  rename_i bb;obtain rfl:=cP r3;exact wA!;cases bb with
  |true=>
   let#[u,e4,e]:=ET.mp e;exact kN #[G3,ρ,u,er.grow pf,e4,λq G4 H4 s4 r4=>zf s4.sub wA_ r4 e λv G5 H5 s5 r5=>k v G5 H5 wB! r5]
  |false=>
   rcases e;exact kO (k _ G3 H3 pf Bc.bl)
def Yr(f:g_):Ac->ι D:=λρ=>(ah_).bind λd=>match d with|.int i=>uY_ (-i)|_=>υ
def d1u(h:F_):vv_ (.UnaryOp .USub a pos) (Yr fa):=
 dA (d2x c8j h.ok) λU hb H Q ρ d er e k=>by
  let#[x,e1,e]:=ET.mp e;cases x<;>first|cases e|skip
  exact bH_;obtain rfl:=aW r1;exact#[_,χ,k _ G1 H1 s1 Bc.int]
def Io:D->Bool
 |.non=>τ
 |.bl _=>τ
 |.int _=>τ
 |.str _=>τ
 |_=>θ
def a4k{KF:ye!}(h:Io d=τ)(r:fT_):Ki v=true:=by
 cases d<;>first
  |(exact AN_ h;done)
  |(obtain rfl:=dU r;rfl)
  |(obtain rfl:=cP r;rfl)
  |(obtain rfl:=aW r;rfl)
  |(obtain rfl:=bB r;rfl)
def c6p{KF:ye!}(h:Io d=τ)(h':Io d'=τ)(r:fT_)(r':AP! d' v'):Wc v v'=Dl d d':=by
 cases d<;>first
  |(exact AN_ h;done)
  |skip
 all_goals (cases d'<;>first
  |(exact AN_ h';done)
  |skip)
 all_goals first
  |(obtain rfl:=dU r)
  |(obtain rfl:=cP r)
  |(obtain rfl:=aW r)
  |(obtain rfl:=bB r)
 all_goals first
  |(obtain rfl:=dU r')
  |(obtain rfl:=cP r')
  |(obtain rfl:=aW r')
  |(obtain rfl:=bB r')
 all_goals simp[Wc,Dl]
def a4m{KF:ye!}:∀{ds:e!} {vs:l_},ds.all Io=τ->tT! H->vs.all Ki=τ
 |[],vs,_,r=>by obtain rfl:=cJ r;rfl
 |d::ds,vs,h,r=>by
  let#[v,t,rfl,r1,r2]:=bK r;rw[JI,FB]at h;rw[JI,FB];exact#[a4k h.1 r1,a4m h.2 r2]
def a4l{KF:ye!}(hx:Io x=τ)(rx:AP! x v):∀{ds:e!} {vs:l_},ds.all Io=τ->tT! H->BR v vs=ds.any λd=>Dl d x
 |[],vs,_,r=>by obtain rfl:=cJ r;rfl
 |d::ds,vs,h,r=>by
  let#[w,t,rfl,r1,r2]:=bK r;rw[JI,FB]at h;let ih:=a4l hx rx h.2 r2;delta BR at ih ⊢;rw[IP,IP,ih,c6p h.1 hx r1 rx]
def Yl:D->wY_ aB_
 |.tup xs=>ψ xs
 |.lst xs=>ψ xs
 |_=>υ
def Ui(neg:Bool):D->D->ι D:=λx y=>(Yl y).bind λds=>if Io x&&ds.all Io then ψ wD_ else υ
def c7s{KF:ye!}:Gu KF (AH KF neg) (Ui neg):=by
 show"!-";show"!C"
 .rename_i h;rw[FB]at h;rcases e;let ak:∀{p:uv!} {vs:l_},(Er KF H p vs\/Fe KF H p vs)->tT! hb->y=V.ref p->AH KF neg x y H Q:=λ{p vs} q r ey=>by
   exact#[p,vs,ey,q,a4k h.1 rx,a4m h.2 r,?_];rw[a4l h.1 rx h.2 r];show"!n"
  cases dy<;>first|(rcases e1;done)|skip
  .rcases e1;let#[p,vs,ey,q,r]:=bI ry;exact ak (.inr i1_) r ey
  .rcases e1;let#[p,vs,ey,q,r]:=bM ry;exact ak (.inl (sub.seq q)) r ey
 .rcases e
structure Sj(X:Cx)(x:Str)(d9:gj_):Prop where
 ex:∃(ad:uv!) (h1:μ na!) (vs:μ wE_),X.mg x=ψ i2!/\nR_=θ/\(∀h:Heap,X.K.In h->h.DictOf (mixKind X.prog X.w) ad vs)/\KV h1 vs/\
  (∀y,Lb h1 dv_=υ↔EA! y=υ)/\∀y d,EA! y=ψ d->∃v,Lb h1 dv_=ψ v/\∀H,CS_ H d
def Uj(d9:gj_)(neg:Bool)(f:g_):Ac->ι D:=λρ=>(ah_).bind λd=>match d with|.str y=>rJ! (GT_ nS! nS!)|_=>υ
def Sc(d9:gj_)(f:g_):Ac->ι D:=λρ=>(ah_).bind λd=>match d with|.str y=>EA! y|_=>υ
def c7a(hd:Sj X x d9)(hg:x_)(ha:F_)(fk:BB a)(al:s_:=by decide):vv_ (GN_ ds_ a) (Sc d9 fa):=by
 show"#S";exact dA (t:=λU H Q=>Cm! tD fa U H λv H1=>∃y u,v=.str y/\Lb h1 dv_=ψ u/\Q u H1) wF_ λU hb H Q ρ d er e k=>?_
 .exact c2r PySem.F.slot_dict_getitem.lookup fk (dX I hg lq (cO wG! ?_) al);rintro v s1 ⟨y,H1,I1,r1,z,u,hz,hu,q1⟩;subst hz;let dd:=zg _ I1.kIn;let#[w',hw,bf]:=Kz.some_of (by rw[<-hu];exact zh.val (Fi! z));let ty:s1.TypeIs i2! "dict":=by
   let#[o,es,ep,O,h2,_]:=dd;exact#[o,O,h2.1]
  exact#[ty,wpAny_getItem_of wG_ dd.mapOf hw #[u,H1,i2_,bf,q1]]
 .let#[x,e1,e]:=ET.mp e;cases x<;>first|(rcases e;done)|skip
  rename_i y;let#[v,hv,hr]:=hs y d e;exact#[hb,ρ,_,er,e1,λw G1 H1 s1 r1=>?_];obtain rfl:=bB r1;exact#[y,v,χ,hv,k _ G1 H1 s1 (hr G1)]
def Ok(P:xz!)(w:wY!)(KF:ye!)(mg:o!)(base:Heap)(k:δ)(x:Str)(ps:l!)(g:bH!):Prop:=
 ∃ag fd,Gn_ nO_/\AV_ KF/\mg x=ψ aC!/\G3_ KF=τ
def aI(F:Gz! Ok)(hr:T!)(hg:x_)(ha:f4_)(az:vg!)
  (hn:(J_).length=K!:=by rfl)(al:s_:=by decide)(he:z_:=by rfl)(ao:W_:=by rfl):
  DE X own ah! iD!:=by
 show"!<";exact CL! c7c ha hn az al he ao
def Xx(P:xz!)(w:wY!)(KF:ye!)(mg:o!)(base:Heap)(k n:δ)(d9:wI_):Prop:=
 ∀ag g,d9 ag=ψ g->∃fd ps,K!=n/\Gn_ nO_/\AV_ KF/\G3_ KF=τ
def Mq(d9:wI_)(i:δ)(fs:ar!):Ac->ι D:=λρ=>(Aa i ρ).bind λd=>match d with|.fn ag=>(d9 ag).bind λg=>(et_).bind g|_=>υ
def c1m(F:qS_ Xx X.mg X.base k n d9)(hr:T!)(ha:f4_)(az:vh_)
  (hj:j∉own:=by decide)(hN:ua!:=by rfl)(hv:cj!:=by first|exact Or.inl χ|exact D5! f_|exact D5! b3!)(al:s_:=by decide)(bj:ck!:=by decide)
  (he:z_:=by rfl)(ao:W_:=by rfl):
  DE X own ah! (Mq d9 j fs):=⟨by
 intro Z s U H Q I h;let#[hb,ρ,d,er,e1,kk]:=h;let#[z,e2,e1]:=ET.mp e1;cases z<;>first|(rcases e1;done)|skip
 rename_i ag;let#[g,e3,e1]:=ET.mp e1;let#[ds,e4,e1]:=ET.mp e1;let#[fd,ps,VV,F1,F2,F3]:=F ag g e3;let#[v,O,h2]:=er.at_ j _ (wZ e2) hj;obtain rfl:=eX h2;exact KD (cO (eL hN hv al bj Z s U H (λu H'=>u=.ref ag/\H'=H) I (FJ_ O)) ?_);rintro u s1 ⟨y,H1,I1,r1,hy,hH⟩;subst hy hH;subst r1;exact W.callWith_K (h₀:=X.base) I1.ok.mod.kin F3 (cO (ha.ok pos Z s1 U H1 _ I1 #[hb,ρ,ds,er,e4,λvs G2 H2 s2 r2=>(?_:(λvs H2=>Ze X.K ps.length g vs H2 Q E0) vs H2)]) λus s2 ⟨vs,H2,I2,r2,q2⟩=>sU_) he ao
 .exact#[by rw[<-aE r2,az ρ ds e4,VV],G2,ds,d,s2.sub,r2,e1,λv G3 H3 s3 r3=>kk v G3 H3 er! r3]
 .exact a6a F1 hr F2 .nil a2t I2 r2 (w4_ FY q2)⟩
def BW(x:Str):It:=#[λi _=>i<nT!,λi H v H'=>H'=H/\∃c,x.cps[i]?=ψ c/\v=.str L!,λi _=>nT!<=i]
def Yn(f:g_):Ac->ι aB_:=λρ=>(ah_).bind λd=>match d with|.str x=>ψ wK_|_=>υ
def c5x{KF:ye!}:Wi KF (BW x) wK_ G1:=by intro i G' H' s1 s2;exact Cw_ IE;rw[GF]at hd;let#[c,hc,rfl]:=EZ.mp hd;rw[LM]at hc;exact#[(HK.mp hc).1,λv jz hy=>?_];let#[e1,c',gh,e2]:=hy;subst e1;rw[hc]at gh;rcases gh;subst e2;exact#[G',iN!,Bc.str]
def a1n{KF:ye!}(hd:∀i h,ph i h->∃o,h.get? it=ψ o/\∀v,o.data≠.cell v)
  (W:∀A':Around,A'.handled=υ->Walks P w A' it [it] [it] x.cps.size (SignAt x) ph)(VW:∀(A:w5!) (i:δ) (s:x1!) (Q:i!) (E:i!),ph i s.heap->Q by_ s->HW_ by_):
  Py P w KF gk! (BW x) [it] it wN! where
 mem:=by simp
 obj:=λi h st b G=>by
  let e:b=it:=by simpa using G
  subst e;exact hd i h st.2
 keep:=λi h h' st k=>⟨st.1,by
  let Wd:=W callerA χ;exact Wd.frame i h h' st.2 λb G o e=>k b G o e⟩
 item:=by
  show"!,";show"!1";exact(W X.A by!).item i s _ _ hg st.2 λv h' tk hv af kk=>?_;let#[cc,u,v8,rfl]:=hv;show"!j";exact Hp_ #[.str (Dj! cc),H,I1,#[u,χ],#[χ,cc,v8,χ],#[hg,af],hC!]
 done:=by
  show"!,";show"!1";let hi:=Nat.le_antisymm st.1 hg;subst hi;exact(W X.A by!).done s _ _ st.2 λh' tk kk=>#[χ,I.turned lq_ f0 f1 f3 f4 f5]
 self:=λA i s Q E st h=>VW A i s Q E st.2 h
def c9g(hl:PE X a tl):PI X gk! a (λU H R=>tl U H λv H1=>∃x,v=.str x/\R (BW x) H1):=by
 intro Z s U H R I h;exact cO lr_ ?_;rintro v s1 ⟨u,H1,I1,r1,x,hx,q⟩;subst hx;let#[t,rfl]:=r1;let SO:∀(ty:String) (i:δ) (h:Heap),h.IsStrIter s1.heap.objs.size ty x t i->∃o,h.get? F!=ψ o/\∀v,o.data≠.cell v:=λty i h st=>by
  show"#)"
 let ak:∀(ob:Obj) (ph:fn!),qS_ Py gk! (BW x) [F!] s1.heap.objs.size wN!->ph 0 (s1.heap.push ob)->
   CW X Z U gk! R (.ref F!) {s1 with heap:=s1.heap.push ob}:=λob ph T st=>by
  exact#[F!,[F!],_,_,H1,χ,I1.kept λb o e=>EU _ e,T,#[GT _,st],c8_,q];let e:b=F!:=by simpa using G
  show"!t"
 cases ha:x.cps.all (·<128)with
 |false=>
  exact wpAny_pyIter_wide ha (ak _ _ (a1n wQ! (λA' hA=>Walks.strWide hA _ x t) λA i s Q E st h=>wpAny_pyIter_striter_wide st h) dY!)
 |true=>
  exact wpAny_pyIter_ascii ha (ak _ _ (a1n wQ! (λA' hA=>Walks.strAscii hA _ x t) λA i s Q E st h=>wpAny_pyIter_striter_ascii st h) dY!)
def d1q(h:F_):DI X own gk! a (Yn fa):=a4p (c9g h.ok) λU hb H R ρ ds er e k=>by
 let#[d,e1,e2]:=ET.mp e;cases d with
 |str x=>
  rcases e2;exact bH_;obtain rfl:=bB r1;exact#[x,χ,k _ G1 H1 s1 c5x]
 |_=>cases e2
def vU:∀{ys:l!} {us:k_},Bp wR_ us->StrsAre us ys
 |[],_,.nil=>.nil
 |y::ys,_,.cons r t=>by
  let#[k,rfl]:=r;exact .cons y k (vU t)
def AB(KF:ye!):V->μ V->Hp->VK->Prop:=λx vs H Q=>∃(z:Str) (p:uv!) (ys:l!),x=.str z/\vs=ig_/\Er KF H p wR_/\(nU!).sum+H_*D!<=16777216/\Q wS! H
def c4t:BC X "str.join" (AB X.K):=by intro Z s U H x xs v us Q I rx r h;let#[z,p,ys,rfl,rfl,hq,hz,q]:=h;let#[t,rfl]:=rx;let#[u,rfl,r1]:=iC r;subst r1;let#[its,rv,pl,_]:=Cj_ hq;exact DF! join_list (by simpa using vU rv) hz λt' k=>r8!
def Mw:μ D->GT! Str
 |[]=>ψ []
 |.str x::r=>(Mw r).map (x::·)
 |_=>υ
def a2g{KF:ye!}:∀{ds:e!} {vs:l_} {ys:l!},tT! H->Mw ds=ψ ys->vs=ys.map V.str
 |[],vs,ys,r,e=>by obtain rfl:=cJ r;rcases e;rfl
 |d::ds,vs,ys,r,e=>by
  let#[v,t,rfl,r1,r2]:=bK r;cases d<;>first|(rcases e;done)|skip
  let#[VX,e1,rfl]:=EZ.mp e;obtain rfl:=bB r1;rw[a2g r2 e1];rfl
def Ng:D->D->ι D
 |.str z,.lst xs=>(Mw xs).bind λys=>if(nU!).sum+H_*D!<=big then ψ wS! else υ
 |_,_=>υ
def Nh(fo fa:g_):Ac->ι D:=λρ=>(i3_).bind λx=>(b3_).bind λy=>Ng x y
protected def a0q(ho:i4!)(ha:F_)
  (f7:GO! "join"=AV! o:=by rfl)
  (jh:(DF_ i4_&&Cd! bl_
   &&decide i5!)=true:=by rfl)
  (ji:di_:=by rfl) (hs:gb_:=by rfl) (eu:ge_:=by rfl):
  DE X own (AZ_ "join" [a]) (Nh fo fa):=
 dA (wG LA PySem.F.slot_str_join PySem.F.type_str_join c4t ho.ok nU_ f7 jh ji hs eu) λU hb H Q ρ d er e k=>by
  show"!2";delta Ng at e;show"!6"
  .let#[ys,e3,e]:=ET.mp e;show"!6"
   .show"!Q";exact bH_;obtain rfl:=bB r1;exact i6!;let#[p,vs,rfl,q,rr]:=bM r2;let:=a2g rr e3;subst this;exact#[_,p,ys,χ,χ,s2.sub.seq q,GB hl a_,k _ G2 H2 bG_ Bc.str]
   .rcases e
  .rcases e
end
section
variable{prog:xz!}{w:wY!}{A:w5!}{E:Value->Shared->Prop}{s:x1!}
def yZ(g1:wU_)(g2:wV_)(g3:xs[n]?=ψ v)
  (k:∀h',Bm_ jt tt bq!->AL_ jt->Q v {s with heap:=h'}):qS! b_ wW!:=by
 show"!A";show"!i";exact ES (IL eo ed c_ (EV #[v,χ,EV (k _ ?_ cI_)]));exact#[_,GL _ eo (HS (HP ed _)),(wZ_).trans ec,by rw[HP ed];simp[rawInt]]
def tN(hh:bk_)(g1:wU_)(g2:wV_)(g3:xs[n]?=υ)
  (k:∀h' e,FK! jt s.heap->(∃o,h'.get? e=ψ o/\o.cls=.type "StopIteration")->E z! {s with heap:=h'}):qS! b_ wW!:=by
 show"!A";show"!i";exact Dq_ (ES (IL eo ed c_ ?_));exact ES ?_;dsimp only[newExc,newTuple];exact ES (GY ?_ i7!);exact Cl! wpAny_of_eq w0_;exact GY ?_ i7!;dsimp only[raiseNew];exact ES i7_
 first|rw[w1!]|rw[hh]
 exact CX! (OQ ?_);exact k _ _ w1_ nW_
def bS(x:Fq_ aa tt n)(hs:FK! bb h)(ne:aa≠bb):Bm_ aa tt n:=by let#[ob,eo,r]:=x;exact#[ob,hs _ _ ne eo,r]
def a5g{TI TO:uv!}{Q:i!}(D:i8_)
  (gz:i9!)(gI:i9_)(gO:jb!)
  (g1:ja!)(g2:ja_)(j5:gl_)(km:gm!)(gx:w2_)(gy:w3!)
  (kk:∀h',Bu_ h' (rawInt h_)->EA_ h' y->Bm_ i1 l1 (k1+1)->Bm_ i2 l2 (k2+1)->BJ! IsPair h' x y->
   jb_->Q c9! {s with heap:=h'}):
  wpAny b_ A w4! (λak s'=>∃v,ak=.done jc_/\Q v s') E s:=by
 show"!~";show"!J";exact ES w6!
 replace m8:Hq! O:=m8
 exact ES ?_;dsimp only[List.zipIdx_cons,List.zipIdx_nil,List.forIn_cons,List.forIn_nil];exact ES jd_;exact ES w7_;let uj:=CT! D.TOi1 w8!;exact ES w8_;exact ES w9!
 replace wk:EA_ h3 q:=wk
 exact ES w9_;exact ES jd_;exact ES (yZ xa! xb! gy λh4 VY m9=>EV ?_);let SS:=HX_ D.TOi2 wk;exact Fb! JY SS;exact ES (OI SS λh5 wm na=>?_)
 replace wm:EA_ h5 y:=wm
 exact ES (wpAny_letGo (EV K_));exact Fb! JY wm;exact Do_ wpAny_newTuple;let sz:h5.objs.size=h_:=by rw[na.1,m9.1,jf.1,da.1,gj.1]
 let SU:=na.extBut _ _ D.TOz.symm (HX_ D.i2z.symm xb_);let VZ:∀c ob,c≠z->c≠TO->c≠i1->c≠i2->qY_ c=ψ ob->h5.get? c=ψ ob:=λc ob c1 c2 c3 c4 e=>na.extBut _ _ c2 (HX_ c4 (Hc_ (gj.extBut _ _ c1 e)));let V0:=bS (bS (bS SQ jf.extBut D.TOi1.symm) m9.extBut D.i12) na.extBut D.TOi1.symm;let V1:=bS VY na.extBut D.TOi2.symm;let SV:=FK SU;exact ES ?_;delta Builtin.SmallTypes.ownedTupleHandOut;let V2:Hq! (h5.push {cls:=.type "tuple",data:=.seq [x,y].toArray}):=EU _ SU;exact ES (KC V2 c_ λh7 zk SX=>?_)
 replace zk:Bu_ h7 xd_:=zk
 exact KC zk c_ λh8 wn SY=>?_
 replace wn:Bu_ h8 xd_:=wn
 let up:∀c ob,c≠z->h5.get? c=ψ ob->h8.get? c=ψ ob:=λc ob c1 e=>SY.extBut _ _ c1 (SX.extBut _ _ c1 (EU _ e));let SZ:=SY.extBut _ _ (IZ SV) (SX.extBut _ _ (IZ SV) je_);rw[sz]at wn SZ;exact EV xe!;rw[sz];let#[V3,V4,r1]:=V0;let#[V5,V6,r2]:=V1;exact kk h8 wn (up _ _ D.TOz wm) #[V3,up _ _ D.i1z V4,r1] #[V5,up _ _ D.i2z V6,r2] SZ λc ob c1 c2 c3 c4 e=>up c ob c1 (VZ c ob c1 c2 c3 c4 e)
def b1t{TI TO:uv!}(hh:bk_)(D:i8_)
  (gz:i9!)(gI:i9_)(gO:jb!)
  (g1:ja!)(g2:ja_)(j5:gl_)(km:gm!)(ge:xe_)
  (kk:∀h' e,jb_->(∃ob,h'.get? e=ψ ob/\ob.cls=.type "StopIteration")->E z! {s with heap:=h'}):
  wpAny b_ A w4! Q E s:=by
 show"!~";show"!J";exact ES w6!
 replace m8:Hq! O:=m8
 exact ES ?_;dsimp only[List.zipIdx_cons,List.zipIdx_nil,List.forIn_cons,List.forIn_nil];exact ES jd_;cases gx:xs[k1]? with
 |none=>
  exact ES (tN hh w6_ w7! gx λh2 e da he=>?_);let#[oe,pi,uk]:=he;let S6:=da _ _ D.i1z.symm m8;let zl:e≠z:=λx=>by subst x;rw[S6]at pi;rcases pi;simp at uk
  exact KC S6 c_ λh3 _ jf=>kk h3 e (λc ob c1 _ c3 _ x=>jf.extBut _ _ c1 (da _ _ c3 xf!)) #[oe,jf.extBut _ _ zl pi,uk]
 |some x=>
  let gy:ys[k2]?=none:=by
   obtain h|h:=ge
   .rw[gx]at h;rcases h
   .exact h
  exact ES w7_;let uj:=CT! D.TOi1 w8!;exact ES w8_;exact ES w9!;exact ES w9_;exact ES jd_;exact ES (tN hh xa! xb! gy λh4 e m9 he=>?_);let#[oe,pi,uk]:=he;let S7:=m9 _ _ D.i2z.symm xb_;let zl:e≠z:=λx=>by subst x;rw[S7]at pi;rcases pi;simp at uk
  exact KC S7 c_ λh5 _ na=>kk h5 e (λc ob c1 c2 c3 c4 x=>na.extBut _ _ c1 (m9 _ _ c4 (Hc_ xf!))) #[oe,na.extBut _ _ zl pi,uk]
def a6g{TI TO:uv!}(D:i8_)
  (gz:i9!)(gI:i9_)(gO:jb!)
  (g1:ja!)(g2:ja_)(j5:gl_)(km:gm!)(gx:w2_)(gy:w3!)
  (kk:∀h',Bu_ h' (rawInt h_)->EA_ h' y->Bm_ i1 l1 (k1+1)->Bm_ i2 l2 (k2+1)->BJ! IsPair h' x y->
   jb_->Q (ψ c9!) {s with heap:=h'}):
  wpAny b_ A (pyNext gm_) Q E s:=by
 let gT:Eg! gm_ "zip":=xf_;delta pyNext;exact ES (NM (HB gT OF (GQ OF gT xg!
  (a5g D gz gI gO g1 g2 j5 km gx gy λh' a1 a2 a3 a4 a5 a6=>EV (kk h' a1 a2 a3 a4 a5 a6)) xg_)))
def vE{TI TO:uv!}(hh:bk_)(D:i8_)
  (gz:i9!)(gI:i9_)(gO:jb!)
  (g1:ja!)(g2:ja_)(j5:gl_)(km:gm!)(ge:xe_)
  (kk:∀h',jb_->Q υ {s with heap:=h'}):Gy_ (pyNext gm_):=by
 let gT:Eg! gm_ "zip":=xf_;delta pyNext;exact ES (NM (HB gT OF (GQ OF gT xg!
  (b1t hh D gz gI gO g1 g2 j5 km ge λh' e hk he=>?_) xg_)))
 let#[ob,ho,hc]:=he;exact ES (wpAny_isInstance #[ob,ho,hc] isSubtype_stop (EV (kk _ hk)))
abbrev BM(h:Heap)(l1:uv!):Heap:=h.push {cls:=.type "tuple_iterator",data:=BV! l1}
abbrev BL(h:Heap)(l1 l2:uv!):Heap:=(BM h l1).push {cls:=.type "tuple_iterator",data:=BV! l2}
abbrev BK(h:Heap)(l1 l2:uv!):Heap:=(BL h l1 l2).push {cls:=.type "tuple",data:=.seq [.ref C!,.ref (BM h l1).objs.size].toArray}
abbrev BJ(h:Heap)(l1 l2:uv!):Heap:=(BK h l1 l2).push {cls:=.type "tuple",data:=.seq [.none,.none].toArray}
abbrev Zc(h:Heap)(l1 l2:uv!):Heap:=(BJ h l1 l2).push {cls:=.type "zip",data:=.fields [.none,.bool θ,.bool θ,.ref (BL h l1 l2).objs.size,.ref (BK h l1 l2).objs.size].toArray}
def a7e(l1 l2:uv!)(xs ys:Z!):
  Meets (Builtin.«zip.__new__» #[[.type "zip",.ref l1,.ref l2],[]]) (λ_ R s=>BY_ l1 xs/\BY_ l2 ys/\R (Ea! n0_) {s with heap:=Br! Zc l1 l2}):=
 .of_wp λprog w A R s h=>by
  let#[hp,g,d,tk,os]:=s;let#[j5,km,h]:=h;let i9:=sub_zip;let V7:=j5;let V8:Heap.IsTuple (Shared.heap #[hp.push {cls:=.type "tuple_iterator",data:=.fields [.ref l1,.int 0 0].toArray},g,d,tk,os]) l2 ys:=by let#[ob,eo,r]:=km;exact#[ob,EU _ eo,r]
  wp_walk using OW V7,OW V8
  exact jg!
def c2d(j5:gl_)(km:gm!)
  (kk:∀h',IsZip h' (h_+4) (h_+2) (h_+3) .none->IsPair h' (h_+2) c9! go!->
   IsPair h' (h_+3) .none .none->Bm_ s.heap.objs.size l1 0->Bm_ ag_ l2 0->(∀c ob,s.heap.get? c=ψ ob->h'.get? c=ψ ob)->Q (.ref (h_+4)) {s with heap:=h'}):
  wpAny b_ A (call n1_ [.ref l1,.ref l2]) Q E s:=by
 exact callType_new F.called_zip a_ (F.typeCall_zip_2 _ _) (F.newCall_zip_2 _ _) (λobj=>F.args_object_init_3 obj _ _) F.entry_zip_new (a7e l1 l2 xs ys) #[j5,km,?_];let z1:(xi_).objs.size=h_+1:=IN ..;let z2:(xh_).objs.size=h_+2:=by rw[IN,z1]
 let z3:(xi!).objs.size=h_+3:=by rw[IN,z2]
 let z4:(n0_).objs.size=h_+4:=by rw[IN,z3]
 let y5:BR! n0_=ψ _:=FP _ χ;let y4:BR! xi!=ψ _:=EU _ je_;let y3:BR! xh_=ψ _:=EU _ n2!;let y2:BR! xi_=ψ _:=CB! n2!;let y1:(go_).get? h_=ψ _:=CB! (EU _ n2!);show _/\_;rw[z2,z3,z4]at y5;rw[z1,z2]at y3;rw[z3]at y4;rw[z1]at y2;rw[z4];exact#[HF! y5,kk _ y5 y3 y4 (FJ_ y1) (FJ_ y2) λc ob x=>EU _ (EU _ (EU _ (CB! x)))]
end
def BV(KF:ye!)(a b:uv!):It:=
 ⟨λi H=>∃xs ys x y,B0_ KF/\DT! b/\xs[i]?=ψ x/\ys[i]?=ψ y,
   λi H v H'=>∃T,v=.ref T/\H T=υ/\∀xs ys,B0_ KF->DT! b->∃x y,xs[i]?=ψ x/\ys[i]?=ψ y/\H'=Ev_ T [x,y],
   λi H=>∃xs ys,B0_ KF/\DT! b/\(h!<=i\/H_<=i)⟩
def c0t{P:jg_}:∀x∈([]:μ α),P x:=λ_ h=>by exact(FU h).elim
def fN{P:jg_}(h:P a)(k:∀x∈l,P x):∀x∈a::l,P x:=λx hx=>by
 obtain rfl|hx:=FD.mp hx
 .exact h
 .exact k x hx
def xA{ch:v!}(I:c!)(hf:∀c∈ch,Iy X Z H c)(kp:∀c o,c∉ch->qY_ c=ψ o->Ab_ c=ψ o):m2! H {s with heap:=h',toks:=s.toks}:=by
 exact xj!
 .let#[_,f2,_,f4,f5,f6]:=hf c hc;exact#[f4,f2,f5,f6]
 .show"#E";exact xj_
 .exact Fb_ c λ_ _ e'=>e';let hn:=(hf d hm).1;obtain rfl|hd:=hd
  .rw[hn]at e;rcases e
  .rw[hn]at hd;rcases hd
def ne4(h:c∉[a1,a2,a3,a4]):c≠a1/\c≠a2/\c≠a3/\c≠a4:=by simpa using h
def d2n{P:jg_}(h:∀x∈[a1,b,a2,a3,a4],P x):∀x∈[a1,a2,a3,a4],P x:=λx hx=>h x (by simp![FD]at hx ⊢;exact hx.imp_right .inr)
def b2b{w:wY!}{KF:ye!}{a b TI TO:uv!}(D:ZipApart z TI TO i1 i2 a b):
  Py P w KF gp! (BV KF a b) xl_ z (λi h=>Bu_ h .none/\IsPair h TI (.ref i1) (.ref i2)/\(∃p q,IsPair h TO p q)/\Fq_ i1 a i/\Fq_ i2 b i) where
 mem:=by simp
 obj:=λi h st=>by
  let#[s1,s2,#[p,q,s3],#[o4,s4,c4,d4],#[o5,s5,c5,d5]]:=st;exact fN #[_,s1,n3_] (fN #[_,s2,n3_] (fN #[_,s3,n3_] (fN #[o4,s4,λv y=>by rw[d4]at y;cases y] (fN #[o5,s5,λv y=>by rw[d5]at y;cases y] c0t))))
 keep:=λi h h' st k=>by
  let#[s1,s2,#[p,q,s3],#[o4,s4,r4],#[o5,s5,r5]]:=st;exact#[k z c_ _ s1,k TI c_ _ s2,#[p,q,k TO c_ _ s3],#[o4,k i1 c_ _ s4,r4],#[o5,k i2 c_ _ s5,r5]]
 item:=by
  intro X hP hw hK hc i Z s U H E I hf st hg;subst hP hw hK;let#[xs,ys,x,y,qa,qb,hx,hy]:=hg;let#[s1,s2,#[p,q,s3],s4,s5]:=st;let#[ia,ra,ta,za]:=A1! qa;let#[ib,rb,tb,zb]:=A1! qb;let#[u,hu,ru]:=ra.get hx;let#[v,hv,rv]:=rb.get hy;exact a6g D s1 s2 s3 s4 s5 ta tb ln_ h9_ λh' a1 a2 a3 a4 a5 a6=>?_;exact#[_,χ,wpAny_letOwnedTupleGo_zip a1 λh2 b1 da=>?_];let q9:Heap.SameBut z h' h2:=da;let neT:∀c o,qY_ c=ψ o->h_≠c:=λc o e=>IZ bv_;let I1:m2! H {s with heap:=h2,toks:=s.toks}:=xA I (d2n hf) λc o hc e=>by
   let#[n1,n2,n3,n4]:=ne4 hc;exact q9.extBut _ _ n1 (a6 c o n1 n2 n3 n4 e)
  let ul:=Cb_ p!;let eT:h2.get? h_=ψ {cls:=.type "tuple",data:=.seq [u,v].toArray}:=q9.extBut _ _ (neT z _ s1) a5;let I2:m2! (Hu_ (.tup [x,y])) {s with heap:=h2,toks:=s.toks}:=by
   let ne:∀c o,H c=ψ o->c≠h_:=λc o e=>aU e ul;let V9:∀p∈X.pn++Z,p.1≠h_:=λp hp=>FW (FK (ll!).1);exact Inv.step (s:={s with heap:=h2,toks:=s.toks}) (g':=s.gens) (d':=s.drawn) (t':=s.toks) (h':=h2) (ch:=[h_]) I1 n2_ xm_ xn! xn_ xo!
    (xo_) xp! xp_ mS! n3! I1.bare
   .let e:c=h_:=by simpa using hc
    subst e;exact#[.inr I.sz,IZ I.lt,λx c h=>(λz=>by let#[v,o,ho,_]:=I.cell x c h;rw[z]at ho;exact ξ e8_ c1!),V9]
   .rw[mS_];exact n
   .by_cases G:c=h_
    .show"!x";exact#[by show 2<=sizeLine;rw[HG];decide,[u,v],.cons ru (Cs_ rv),#[_,eT,χ,_,χ]]
    .rw[aH G]at e;exact(xq!).stay mT! xq_ λd xs q=>by rw[n6_];exact q
  exact#[fI!,_,I2,χ,#[_,χ,ul,λxs' VX um uo=>#[x,y,?_,?_,χ]],#[b1,q9.extBut _ _ D.TIz (a6 TI _ D.TIz D.TITO D.TIi1 D.TIi2 s2),#[u,v,q9.extBut _ _ D.TOz a2],bS a3 q9.extBut D.i1z,bS a4 q9.extBut D.i2z],jj!]
  .rw[I.tuple_inj um qa];exact hx
  .rw[I.tuple_inj uo qb];exact hy
  .let gh:∀c∈xl_,∃o,qY_ c=ψ o:=by
    let#[o4,t4,_]:=s4;let#[o5,t5,_]:=s5;exact fN #[_,s1] (fN #[_,s2] (fN #[_,s3] (fN #[_,t4] (fN #[_,t5] c0t))))
   let#[o,ho]:=gh c hc;rw[aH (GI (neT c o ho))];exact(hf c hc).1
 done:=by
  intro X hP hw hK hc i Z s U H E I hf st hg;subst hP hw hK;let#[xs,ys,qa,qb,V']:=hg;let#[s1,s2,#[p,q,s3],s4,s5]:=st;let#[ia,ra,ta,za]:=A1! qa;let#[ib,rb,tb,zb]:=A1! qb;let l1:=ra.length;let l2:=rb.length;exact vE by! D s1 s2 s3 s4 s5 ta tb (by
   obtain h|h:=V'
   .left;simp;omega
   .right;simp;omega) λh2 a6=>I_
  exact xA I (ch:=[z,TO,i1,i2]) (d2n hf) λc o hc e=>by
   let#[n1,n2,n3,n4]:=ne4 hc;exact a6 c o n1 n2 n3 n4 e
 self:=λA i s Q E st h=>wpAny_pyIter_zip st.1 h
section
variable{X:Cx}{own:List Nat}{e a b c o i tg:Expr}{es lr:List Expr}{pos p2 p tp:Pos}{f fa fb fc fe:Ac->Option D}{n1:Nat}
def c3w(hg:Gl X "zip")(hm:Af!)(hv:xr_)(ha:PA X ac_ ta)(hs:xs!:=by rfl)(ao:xt!:=by rfl):
  PI X gp! xu! (λU H R=>ta U H λvs H1=>∃x y xs ys,vs=[d3_,.ref y]/\Fe X.K H1 x xs/\Fe X.K H1 y ys/\R (BV X.K x y) H1):=by
 intro Z s U H R I h;exact Call_ (iV I hg hm hv (LR (cO d0! ?_) hs ao));rintro us s1 ⟨vs,H1,I1,r1,q1⟩;let#[x,y,xs,ys,rfl,qx,qy,q]:=q1;let#[u,u',rfl,ru,bu]:=qJ r1;subst ru;subst bu;let#[ia,ra,S8,za]:=I1.tuple qx;let#[ib,rb,S9,zb]:=I1.tuple qy;let lx:x<F!:=by let#[ob,eo,_]:=S8;exact FK eo
 let ly:y<F!:=by let#[ob,eo,_]:=S9;exact FK eo
 exact c2d S8 S9 λh' a1 a2 a3 a4 a5 a6=>?_;exact wpAny_pyIter_zip a1 ?_;let I2:m2! H1 {s1 with heap:=h',toks:=s1.toks}:=I1.kept a6;let D:ZipApart (F!+4) (F!+2) (F!+3) s1.heap.objs.size (F!+1) x y:=by
  constructor<;>(intro z;let z':@Eq δ _ _:=z;let l1:@LT.lt δ _ x _:=lx;let l2:@LT.lt δ _ y _:=ly;omega)
 exact#[_,_,_,BV X.K x y,H1,χ,I2,b2b D,#[a1,a2,#[_,_,a3],a4,a5],jj!,q];let ng:F!<=c:=by
  simp![FD,FU,MV]at hc;obtain rfl|rfl|rfl|rfl|rfl:=hc<;>omega
 exact I1.fpOk ng (Ck_ ng)
def Ir:μ D->μ D->μ D
 |x::xs,y::ys=>.tup [x,y]::Ir xs ys
 |_,_=>[]
def Ym(fa fb:g_):Ac->ι aB_:=λρ=>(b3_).bind λx=>(f2_).bind λy=>match x,y with|.tup xs,.tup ys=>ψ jk!|_,_=>υ
def a1i:∀(xs ys:e!) (n:δ) (d:D),jk![n]?=ψ d->∃x y,xs[n]?=ψ x/\ys[n]?=ψ y/\d=.tup [x,y]
 |[],_,n,d,h=>by simp[Ir]at h
 |_::_,[],n,d,h=>by simp[Ir]at h
 |x::xs,y::ys,0,d,h=>by
  simp[Ir]at h;exact#[x,y,χ,χ,h.symm]
 |x::xs,y::ys,n+1,d,h=>by
  let#[u,v,O,h2,h3]:=a1i xs ys n d (DI! Ir h);exact#[u,v,kz_,by simpa using h2,h3]
def a1h:∀(xs ys:e!),h!<=(jk!).length\/H_<=(jk!).length
 |[],ys=>.inl b6!
 |_::_,[]=>.inr b6!
 |x::xs,y::ys=>by
  obtain h|h:=a1h xs ys
  .left;simp[Ir];exact h
  .right;simp[Ir];exact h
def c5v{KF:ye!}{es:e!}(qa:Fe KF G1 x vs)(qb:Fe KF G1 y ws)(ra:nz!)(rb:Am KF G1 es ws):Wi KF (BV KF x y) (Ir ds es) G1:=by
 intro n G' H' s1 s2;let um:Fm_ x vs:=Fn! qa;let uo:Fm_ y ws:=Fn! qb;exact#[ex_,λhn=>#[vs,ws,um,uo,?_]]
 .let#[u,v,O,h2,rfl]:=a1i ds es n d hd;let#[v1,g1,r1]:=eY ra O;let#[v2,g2,r2]:=eY rb h2;exact#[#[vs,ws,v1,v2,um,uo,g1,g2],λx' jz hy=>?_];let#[T,rfl,hT,hh]:=hy;let#[x1,y1,e1,e2,rfl]:=hh vs ws um uo;rw[g1]at e1;rw[g2]at e2;rcases e1;rcases e2;exact#[_,Cq.laid s2 hT,eS (s2.free hT) (Am.cons (r1.mono s1) (BB_ (r2.mono s1)))]
 .rw[hn,<-aE ra,<-aE rb];exact a1h ds es
def d1p(hg:Gl X "zip")(hm:Af!)(hv:xr_)(ha:F_)(G:b4!)(hs:xs!:=by rfl)
  (da:tS_ [b]=xw!::Cm_ starEach:=by rfl)(ao:xt!:=by rfl):DI X own gp! xu! (Ym fa fb):=
 a4p (c3w hg hm hv xw_ hs ao) λU hb H R ρ ds er e k=>by
  let#[x,e1,e]:=ET.mp e;let#[y,e2,e]:=ET.mp e;cases x with
  |tup xs=>
   cases y with
   |tup ys=>
    rcases e;exact#[hb,ρ,_,er,e1,λv G1 H1 s1 r1=>#[G1,ρ,_,cD_,e2,wT_]];let#[p,vs,rfl,q,rr]:=bI eq_;let#[p',ws,rfl,q',d8]:=bI r2;exact#[p,p',vs,ws,χ,bJ s2.sub q,bJ s2.sub q',k _ G2 H2 bG_ (c5v q q' rr d8)]
   |_=>cases e
  |_=>cases e
end
def Br:D->D->ι D:=Bu Ry λi j=>.int (i*j)
def jQ{KF:ye!}:Gu KF lz! Br:=d0b
def As:D->D->ι D:=Bu vq! λi j=>.int (i%j)
def cM{KF:ye!}:Gu KF lB! As:=d0c
def Aw:D->D->ι D:=Bu vr! λi j=>.int (i / j)
def lF{KF:ye!}:Gu KF lA! Aw:=c4m
def Cb:D->D->ι D:=Bu vs! λi j=>.int lC_
def c9x{KF:ye!}:Gu KF lD! Cb:=d0a
def Dw:D->D->ι D:=Ax λi j=>.bl lD_
def a9p{KF:ye!}:Gu KF lE! Dw:=d3f
def Dr:D->D->ι D:=Ax λi j=>.bl lG!
def a9q{KF:ye!}:Gu KF lF! Dr:=d3g
def Ee:D->D->ι D:=Ax λi j=>.bl lG_
def d3d{KF:ye!}:Gu KF lH! Ee:=d3h
section
variable{X:Cx}{own:List Nat}{pos p2:Pos}
def iQ:Fw X lE_ xx_:=d3a.or b3h
def Dj:D->D->ι D
 |.int i,.int j=>rJ! hJ!
 |.str x,.str y=>rJ! (Qh x y)
 |_,_=>υ
def iR{KF:ye!}:Gu KF xx_ Dj:=by
 show"!-";delta Dj at e;show"!6"
 .show"!G";exact .inl n7!
 .show"#$";rcases e;exact .inr n7!
 .rcases e
def Dx:D->D->ι D
 |.int i,.int j=>rJ! (!(i==j))
 |.str x,.str y=>rJ! (!(x==y))
 |_,_=>υ
def wL{KF:ye!}:Gu KF DP Dx:=by
 show"!-";delta Dx at e;show"!6"
 .show"!G";exact I_;rw[b1g];show"!n"
 .show"#$";rcases e;exact I_;rw[b1f];show"!n"
 .rcases e
def fP(hm:∃t,X.mg x=ψ c0!)(hg:x_)(hd:s_:=by decide):Hc! bP! ae!:=by let#[t,ht]:=hm;exact c6z hg ht hd
end
def bY{X:Cx}{scope sc:Scope}(h:X.env.scope=sc)(hd:∀y∈aO!,y.2=.free->(sc.names.lookup y.1=ψ .cell\/sc.names.lookup y.1=ψ .free)):
  ∀y∈aO!,y.2=.free->uD_:=λy hy hf=>by
 delta Env.kindOf;rw[h];exact hd y hy hf
section
variable{X:Cx}{own:List Nat}{a b c:Expr}{pos p2:Pos}{fa fb fc:Ac->Option D}
def c1b(ho:bA!)(hg:dq!)(ir:hL!)(zf:Gu X.K r' g')(ha:F_)(G:b4!)(hc:vv_ c fc)
  (hm:hL_:=by with_unfolding_all rfl):C6! hM! (fT wz!):=
 rM (EY_ b7l) λU hb H Q ρ d er e k=>by
  let e:=jA e;let#[x,e1,e]:=ET.mp e;let#[y,e2,e]:=ET.mp e;let#[z,e3,e]:=ET.mp e;exact wz_;let pf:=s1.trans er!;cases z with
  |bl bb=>
   obtain rfl:=cP r3;exact wA!;cases bb with
   |true=>
    let#[u,e4,e]:=ET.mp e;exact kN #[G3,ρ,u,er.grow pf,e4,λq G4 H4 s4 r4=>zf s4.sub wA_ r4 e λv G5 H5 s5 r5=>?_];obtain rfl:=cP r5;exact#[d,χ,k G5 H5 wB!]
   |false=>
    cases e;exact kO #[θ,χ,k G3 H3 pf]
  |_=>cases e
def b4x(hd:Sj X x d9)(hg:x_)(ha:F_)(hm:behindInMarks .NotIn ds_=false:=by rfl)(al:s_:=by decide):C6! (.Compare a [.NotIn] ew_ pos) (fT (Uj d9 τ fa)):=by
 show"#S";exact rM (t:=λU H Q=>Cm! tD fa U H λv H1=>∃y,v=.str y/\Q (!(Lb h1 dv_).isSome) H1) wF_ λU hb H Q ρ d er e k=>?_
 .exact NZ (cO wG! λv s1 ⟨y,H1,I1,r1,z,hz,q1⟩=>dX I1 hg lq ?_ al) hm;subst hz;exact wpAny_notIn_of wG_ SN (zg _ I1.kIn).mapOf ?_;rw[<-(zh.val (Fi! z)).isSome_eq];exact GP #[H1,i2_,q1]
 .let e:=jA e;let#[x,e1,e]:=ET.mp e;cases x with
  |str y=>
   cases e;exact bH_;obtain rfl:=bB r1;exact#[y,χ,?_];let G:(Lb h1 dv_).isSome=(nS!).isSome:=by
    cases ht:EA! y with
    |none=>rw[(hn y).mpr ht];rfl
    |some d=>let#[v,hv,_]:=hs y d ht;rw[hv];rfl
   rw[G];exact k G1 H1 s1
  |_=>cases e
end
def dH:AS_ "len"=ψ sa_:=by decide+kernel
def d2c:AS_ "abs"=ψ r6_:=by decide+kernel
def d2b:AS_ "ord"=ψ r9!:=by decide+kernel
def a8d:AS_ "all"=ψ vD!:=by decide+kernel
def bQ:AS_ "isinstance"=ψ ew!:=by decide+kernel
def a8c:AS_ "int"=ψ aD!:=by decide+kernel
def b1p:AS_ "bool"=ψ bp_:=by decide+kernel
def qI:AS_ "str"=ψ aW_:=by decide+kernel
def fR:AS_ "tuple"=ψ aN_:=by decide+kernel
def d2a:AS_ "zip"=ψ n1_:=by decide+kernel
def Gs(KF:ye!)(mg:o!)(x:Str)(st:Stmt)(ps:l!):Prop:=∃ag fd,FK_ x x/\AV_ KF/\mg x=ψ aC!
def Bh(N:l!)(n:δ)(q:aD_)(ds:e!):ι D:=if e_=n then(match q ez_ with|some (.rt d)=>ψ d|some (.nx _)=>ψ .non|none=>υ)else υ
def dB{KF:ye!}{st:Stmt}(h:n7_)(S:bY!)
  (G:∀{ag:uv!} {ah:wX!} {A:w5!} {outer:C_} {s:x1!} {H:Hp} {E:XK},Ba k eE!->N.Nodup->Ej! Vw xy_):
  Ok P w KF mg base Q! x ps (Bh N ps.length q):=by
 let#[ag,fd,F,B,m]:=h;exact#[ag,fd,d1r F S (λah A outer s H E hr=>G hr S.nd) (λds d hl e=>?_),B,m,F.kp];delta Bh at e;rw[FE hl]at e;show"!6"
 .rcases e;left;assumption
 .rcases e;right;exact#[_,by assumption,χ]
 .rcases e
def AN:Const->ι D
 |.int i=>ψ ae!
 |.str i=>ψ fX!
 |.bool i=>rJ! i
 |.none=>ψ .non
 |_=>υ
mutual
noncomputable def Sy:Nat->Expr->Option D
 |0,_=>υ
 |n+1,e=>match e with
  |.Constant c _ _=>AN c
  |.Tuple es _ _=>(n8!).bind λds=>if e_<=1000 then ψ dm_ else υ
  |.List es _=>(n8!).bind λds=>if e_<=1000 then ψ bm_ else υ
  |_=>υ
noncomputable def Sx:Nat->List Expr->Option aB_
 |0,_=>υ
 |n+1,[]=>ψ []
 |n+1,e::es=>(Sy n e).bind λd=>(n8!).bind λds=>ψ cy!
end
section
variable{X:Cx}{own:List Nat}
def b9p(h:Sy n e=ψ d):tS_ J_=cr_::tS_ es:=by
 cases n with
 |zero=>delta Sy at h;rcases h
 |succ n=>
  cases e<;>first|rfl|(simp[Sy]at h;done)
set_option tactic.hygienic true in
mutual
theorem fX:∀{n:δ} {e:Expr} {d:D},Sy n e=ψ d->Hc! e d
 |0,e,d,h=>by delta Sy at h;rcases h
 |n+1,e,d,h=>by
  delta Sy at h;show"!u"
  .delta AN at h;show"!u"
   .rcases h;exact aC
   .rcases h;exact bH
   .rcases h;exact gA
   .rcases h;exact gR
   .rcases h
  .let#[ds,e1,e2]:=ET.mp h;split at e2
   .rename_i hl;rcases e2;exact dA (dG (a7u e1)).ok λU hb H Q ρ d er e k=>?_;show"#I"
   .rcases e2
  .let#[ds,e1,e2]:=ET.mp h;split at e2
   .rename_i hl;rcases e2;exact dA (fW (a7u e1)).ok λU hb H Q ρ d er e k=>?_;show"#I"
   .rcases e2
  .rcases h
theorem a7u:∀{n:δ} {es:bh_} {ds:e!},Sx n es=ψ ds->DA X own es (λ_=>ψ ds)
 |0,e,d,h=>by delta Sx at h;rcases h
 |n+1,[],d,h=>by
  delta Sx at h;rcases h;exact aF
 |n+1,e::es,d,h=>by
  delta Sx at h;let#[d1,e1,h]:=ET.mp h;let#[ds,e2,h]:=ET.mp h;rcases h;exact c1n (aB (fX e1) (a7u e2) (b9p e1)).ok λU hb H Q ρ d er e k=>#[hb,ρ,_,er,e,k]
end
end
section
variable{P:xz!}{w:wY!}{KF:ye!}{mg:Str->Option Value}{h:Heap}
def bF{st:Stmt}{kV:wX!}(X:gq!)(hb:dx!)
  (a:xA!)(l:xB!)
  (c:xB_)(k:jl_)
  (b:xC!):Gs KF mg x st ps:=
 #[f,_,jm_,n8_,jn!]
def Xh(KF:ye!)(mg:o!)(x:Str)(st:Stmt)(ps:l!):Prop:=∃ag fd,FK_ x x/\(∀us:List Value,am_=K!->bindArgs fd ct!=pure bB!)/\mg x=ψ aC!
def c6v{st:Stmt}{kV:wX!}(X:gq!)(hb:dx!)
  (a:xA!)(l:xB!)
  (c:xB_)(k:jl_)
  (b:xC!):Xh KF mg x st ps:=
 #[f,_,jm_,BT_ b _ _,jn!]
def oP(X:gq!)(hb:dx!)(a:BL_ KF x=AY_ (.int i tk)):∃tk,mg x=BZ! i:=#[tk,jn!]
def cX(X:gq!)(hb:dx!)(e:BL_ KF x=ψ eE_):mg x=ψ u!:=W.mg_of X hb e
def cY(X:gq!)(hb:dx!)(e:BL_ KF x=ψ υ):mg x=none:=W.mg_none_of X hb e
def xB{KF:ye!}:∀(ns:B_),BF_ (ns.map D.int) cv!
 |[]=>Am.nil
 |n::r=>Dh! Bc.int (xB r)
abbrev Tb:=Str×Tok×Addr
def Ye(w:wY!)(r:Tb):DictEntry:=#[PyData.keyHash w.params r.1,.str r.1 r.2.1,.ref r.2.2]
def Ta(KF:ye!):μ Tb->μ dv!->ν
 |[],[]=>True
 |r::rs,t::ts=>r.1=t.1/\(∀H,Bc KF H t.2 (V.ref r.2.2))/\Ta KF rs ts
 |_,_=>False
abbrev To(rows:gq_):μ na!:=rows.map λr=>(Sum.inr r.1,V.ref r.2.2)
abbrev Rr(rows:gq_):μ wE_:=rows.map λr=>(Sum.inr r.1,Value.ref r.2.2)
def sW:∀(rows:gq_),Pairs a2_ xD! n9_
 |[]=>.nil
 |r::rs=>.cons (kA P w r.1 r.2.1) χ (sW rs)
def pK:∀{rows:gq_} {d9:gj_},Ta KF rows d9->(Lb oa! dv_=υ↔d9.lookup y=υ)/\∀d,EA! y=ψ d->∃v,Lb oa! dv_=ψ v/\∀H,AP! d v
 |[],[],_=>#[#[bj_,bj_],λd e=>by rcases e]
 |[],t::ts,h=>h.elim
 |r::rs,[],h=>h.elim
 |r::rs,(x,d0)::ts,h=>by
  let#[O,h2,h3]:=h;let ih:=pK (y:=y) h3;let ko:r.1=x:=O;delta Lb at ih ⊢;simp![FI,IJ,HA];by_cases e:y=x
  .subst e;let:decide xE!=true:=by simp[ko]
   simp![this,JJ];exact#[#[xE_,xE_],λd z=>?_];rcases z;exact D9! h2
  .let e1:decide xE!=false:=by
    rw[ko];exact FA λz=>e (xF!).symm
   let e2:(y==x)=false:=by simp[e]
   simp![e1,e2];exact ih
def b0m:∀(rows:gq_),KV oa! n9_
 |[]=>.nil
 |r::rs=>.cons aa_ (b0m rs)
def c0k{ad:uv!}(hw:X.w=w)(hK:X.K=KF)(lq:X.mg=mg)(hm:mg x=ψ i2!)(hs:nR_=θ)(hl:FZ! ad=ψ {cls:=.type "dict",data:=.dict (xD!).toArray ep})
  (nd:(rows.map q!).Nodup)(ht:Ta KF rows d9):Sj X x d9:=by
 subst hw hK lq;exact#[ad,To rows,Rr rows,hm,hs,λh hK=>#[_,_,_,hK _ _ hl,xH!,χ,?_,?_,?_],b0m rows,λy=>(pK ht).1,λy d=>(pK ht).2 d]
 .intro e he;let rc:e∈rows.map (Ye X.w):=by simpa using he
  let#[r,hr,rfl]:=GJ.mp rc;exact#[Sum.inr r.1,kA _ _ r.1 r.2.1,χ]
 .simpa using sW rows
 .let e:Cy_ n9_=(rows.map q!).map (Sum.inr:Str->L2.Key):=by simp[Rr]
  rw[e];exact List.Pairwise.map _ (λa b kj z=>kj xF!) nd
def a2j:∀(fs:v!),BF_ (fs.map D.fn) xH_
 |[]=>Am.nil
 |n::r=>Dh! (by delta Bc;rfl) (a2j r)
def vV:∀(fs:v!),Bp xH_ xI!
 |[]=>.nil
 |n::r=>Hy_ (vV r)
def fO{fs:v!}(l:FZ! a=ψ #[b6_,od,.seq (xI!).toArray n,sl])(hz:aT!<=1000)(H:Hp):AP! (.tup (fs.map D.fn)) fU_:=
 Bc.tup (.inr #[_,_,n,l,χ,χ,by simpa using iG hz,by simpa using vV fs]) (a2j fs)
end
section
variable{X:Cx}{own ay:List Nat}{e a b c o:Expr}{es:List Expr}{pos p2:Pos}{f fa fb fc fe:Ac->Option D}{fs fi:Ac->Option (List D)}{ft fu:Ac->Option Bool}{st:Stmt}{q1:Ac->Option Fl}
def uU:Ft X aW_ xJ_:=by
 intro Z s U H xs us Q I r h;obtain h|⟨z,rfl,q⟩:=h
 .exact Bo! a1b xs us Q I r h
 .let#[u,rfl,t,rfl]:=iC r;exact PySem.P.str_of_str #[.str z,H,I,P!,q]
def Jb:μ D->ι D
 |[.int i]=>if cp!<1920 then ψ lS! else υ
 |[.str z]=>Ce! z
 |_=>υ
def a8a{KF:ye!}:Hi KF xJ_ Jb:=by
 show"!=";delta Jb at e;show"!6"
 .show"!4";cases aW rv;show"!6"
  .rename_i hl;cases e;exact .inl #[_,χ,hl,iH!]
  .cases e
 .show"!4";cases bB rv;cases e;exact .inr (D9! iH!)
 .cases e
def DU:μ D->ι D
 |[.str z]=>if D!<=640 then(BC! z).map D.int else υ
 |_=>υ
def AR:D->D->ι D
 |.str i,.str j=>ψ hJ_
 |x,y=>Ui θ x y
def c9v:Fw X d3! (BM! X.K):=wJ.or b3i
def c9y{KF:ye!}:Gu KF (BM! KF) AR:=by
 show"!-";delta AR at e;show"!6"
 .cases bB rx;cases bB ry;cases e;exact .inr n7!
 .exact .inl (Fr! c7s)
def Hk(x y:Str)(bo:δ):μ Str:=
 if(decide (ap!<ag!)||decide (BG! x<BG! y))=τ then[x]else
 if(oc_).isEmpty=τ then[x]else DO_ x
def pE:∀(l:l!) (k:δ),Bp (l.map V.str) (strsFrom k l)
 |[],_=>.nil
 |y::r,k=>.cons #[k,χ] (pE r Q!)
def wM(x y:Str)(bo:δ)(h:bo<=big+1):(DO_ x).length<=sizeLine:=by
 rw[length_partsBetween];let:=StrLaws.occ_length_le x y 0 x.length bo;let h2:big+2<=sizeLine:=by rw[HG];decide
 omega
def Wq:V->μ V->Hp->VK->Prop:=λx vs H Q=>∃(z y:Str),x=.str z/\vs=[.str y]/\(ag!==0)=θ/\D!<=big/\∀p,H p=υ->GX_ ((xK!).map V.str)
def b3y:BC X "str.split" Wq:=by
 intro Z s U H x xs v us Q I rx r h;let#[z,y,rfl,rfl,hy,hz,q]:=h;let#[t,rfl]:=rx;let#[u,rfl,t',rfl]:=iC r;let q':=q _ I.fresh;delta Hk at q';cases O:xL! with
 |true=>
  rw[O]at q';exact G5_ (meets_str_split_cannot_occur z y t t' O);exact jr!
 |false=>
  rw[O]at q';cases hf:(xM!).isEmpty with
  |true=>
   rw[hf]at q';exact G5_ (meets_str_split_not_found z y t t' O hy hf);exact jr!
  |false=>
   rw[hf]at q';let hs:=wM z y (D!+1) a!;exact G5_ (meets_str_split_sep z y t t' O hy hf (cD hz) hs);exact Be! xM!
def Wp:V->μ V->Hp->VK->Prop:=λx vs H Q=>∃(z y:Str) (k:Int),x=.str z/\vs=[.str y,b7!]/\(ag!==0)=θ/\D!<=big/\0<=k/\k<=1000/\∀p,H p=υ->GX_ ((Hk z y js!).map V.str)
def b3x:BC X "str.split" Wp:=by
 intro Z s U H x xs v us Q I rx r h;let#[z,y,k,rfl,rfl,hy,hz,k0,k1,q]:=h;let#[t,rfl]:=rx;let#[u,u2,rfl,#[t',rfl],#[t2,rfl]]:=qJ r;let q':=q _ I.fresh;let hk:(decide (k< -(2 ^ 63:Int))||decide (k>=2 ^ 63))=false:=by
  rw[LN,decide_eq_false_iff_not,decide_eq_false_iff_not];omega
 let rg:limitOf z k<=big+1:=by
  delta limitOf big at *;split<;>omega
 delta Hk at q';cases O:xL! with
 |true=>
  rw[O]at q';exact Cn! of! (meets_str_split_max_cannot_occur z y k t t' t2 hk O) ?_;exact jr!
 |false=>
  rw[O]at q';cases hf:(xN_).isEmpty with
  |true=>
   rw[hf]at q';exact Cn! of! (meets_str_split_max_not_found z y k t t' t2 hk O hy hf) ?_;exact jr!
  |false=>
   rw[hf]at q';let hs:=wM z y js! rg;exact Cn! of! (meets_str_split_sep_max z y k t t' t2 hk O hy hf (cD hz) hs) ?_;exact Be! xN_
def Qg(l:l!):D:=.lst (l.map D.str)
def pM{KF:ye!}{H:Hp}:∀(l:l!),BF_ (l.map D.str) (l.map V.str)
 |[]=>Am.nil
 |_::r=>Dh! Bc.str (pM r)
def Nq:D->D->ι D
 |.str z,.str y=>if ag!≠0/\D!<=big then ψ (Qg xK!)else υ
 |_,_=>υ
def Nx(fo fa:g_):Ac->ι D:=λρ=>(i3_).bind λx=>(b3_).bind λy=>Nq x y
def b5a{fo:g_}{be aj:Pos}(ho:i4!)(ha:F_)
  (f7:xO!:=by rfl)
  (jh:(DF_ i4_&&Cd! bl_
   &&decide i5!)=true:=by rfl)
  (ji:di_:=by rfl) (hs:gb_:=by rfl) (eu:ge_:=by rfl):
  DE X own (DO! xO_ [a]) (Nx fo fa):=
 dA (BC_ b3y nU_) λU hb H Q ρ d er e k=>by
  show"!2";delta Nq at e;show"!6"
  .show"!6"
   .rename_i hl;show"!U";exact#[_,_,χ,χ,xP!,hl.2,λp hp=>k _ _ _ (DN_ bG_ (GU! s2.sub)) (bW (s2.sub.free hp) (pM _))]
   .cases e
  .cases e
def Np:D->D->D->ι D
 |.str z,.str y,.int k=>if ag!≠0/\D!<=big/\0<=k/\k<=1000 then ψ (Qg (Hk z y js!))else υ
 |_,_,_=>υ
def Tz(fo fa fb:g_):Ac->ι D:=λρ=>(i3_).bind λx=>(b3_).bind λy=>(f2_).bind λz=>Np x y z
def b4z{fo:g_}{be aj:Pos}(ho:i4!)(ha:F_)(G:b4!)
  (f7:xO!:=by rfl)
  (jh:((G5! aj ac_).all bW!&&Cd! bl_
   &&decide (Eg_ ac_))=true:=by rfl)
  (ji:di_:=by rfl) (hs:starEach (a::[b]) X.env=dZ_::tS_ [b]:=by rfl) (da:starEach (b::[]) X.env=xw!::Cm_ starEach:=by rfl) (eu:(Ew! xs_).any q!=false:=by rfl):
  DE X own (DO! xO_ ac_) (Tz fo fa fb):=
 dA (BC_ b3x xw_) λU hb H Q ρ d er e k=>by
  show"!2";let#[z,e3,e]:=ET.mp e;delta Np at e;show"!6"
  .show"!6"
   .rename_i hl;show"!U";exact#[G2,ρ,_,er.grow bG_,e3,λw G3 H3 s3 r3=>?_];cases aW r3;exact#[_,_,_,χ,χ,xP!,hl.2.1,hl.2.2.1,hl.2.2.2,λp hp=>k _ _ _ (DN_ u5! (GU! s3.sub)) (bW (s3.sub.free hp) (pM _))]
   .cases e
  .cases e
end
end DL
namespace XS
open PySem
abbrev frA(l:C_):μ Addr:=l.filterMap (·.frame)
structure Kp(bad fr:v!)(h h':Heap):Prop where
 old:∀b o,b∉bad->b∉fr->h.get? b=ψ o->Ab_ b=ψ o
 frm:∀b o,b∈fr->h.get? b=ψ o->∃sl,Ab_ b=ψ {o with slots:=sl}
 thr:∀b o,h.get? b=ψ o->∃o',Ab_ b=ψ o'
 sz:C!<=fK_
def Kp.refl(bad fr:v!)(h:Heap):EB! h h:=#[λ_ _ _ _ e=>e,λ_ o _ e=>mQ_,λ_ o e=>mR!,FF _]
def Kp.trans{bad fr:v!}(a:xQ_)(b:EB! h2 h3):EB! O h3:=
 ⟨λx o l m e=>b.old x o l m xR!,λx o m e=>by
  let#[sl,e1]:=a.frm x o m e;let#[ky,e2]:=b.frm x _ m e1;exact#[ky,e2],λx o e=>let⟨o1,e1⟩:=a.thr x o e;b.thr x o1 e1,GB a.sz b.sz⟩
def Kp.weak{bad uq fr:v!}(a:EB! h h')(G:∀b∈bad,b∈uq):Kp uq fr h h':=#[λx o l m e=>a.old x o (λz=>l (G x z)) m e,a.frm,a.thr,a.sz]
def Kp.skip{bad uq fr:v!}{O:Heap}(a:xQ_)(b:Kp uq fr h2 h3)(G:∀x∈uq,x∈bad\/O.get? x=υ):EB! O h3:=
 ⟨λx o l m e=>b.old x o (λz=>(G x z).elim l λq=>by rw[q]at e;cases e) m xR!,λx o m e=>by
  let#[sl,e1]:=a.frm x o m e;let#[ky,e2]:=b.frm x _ m e1;exact#[ky,e2],λx o e=>let⟨o1,e1⟩:=a.thr x o e;b.thr x o1 e1,GB a.sz b.sz⟩
abbrev Tk:=Value×wY_ Addr×Value
def EC(o:Obj)(k:Tk):Prop:=o.cls=k.1/\o.dict=k.2.1/\∃vs,o.data=Bw_ vs/\vs[2]?=ψ k.2.2
def EC.mapF{k:Tk}(h:EC o k):EC (Obj.mapFields (·.setIfInBounds 1 v) o) k:=by let#[O,h2,vs,hd,h3]:=h;exact#[(Obj.cls_mapFields _ _).trans O,?_,_,HP hd _,by rw[OM a_];exact h3];delta Obj.mapFields;split<;>exact h2
structure XN(n:Heap)(h:Heap)(e:uv!)(cls:Tk):Prop where
 new:n.get? e=υ
 ex:∃oe vs,h.get? e=ψ oe/\EC oe cls/\oe.data=Bw_ vs/\vs[1]?=ψ .none
structure XF(n:Heap)(h:Heap)(e T:uv!)(cls:Tk)(fl:wX!):Prop where
 new:n.get? e=υ
 ex:∃oe vs oT ts,h.get? e=ψ oe/\EC oe cls/\oe.data=Bw_ vs/\vs[1]?=AZ! T/\n.get? T=υ/\T≠e/\h.get? T=ψ oT/\oT.data=Bw_ ts/\ts[3]?=ψ fl
section
variable{M:Model}{A:w5!}{E:Value->Shared->Prop}{s:x1!}{base:Heap}{env:Env}{outer:List Env}{L e:uv!}{n:Heap}{cls:Tk}{fl:wX!}{Q:Unit->Shared->Prop}
def c0n(hl:cK!)(hn:cK_)(he:jt_):e∉frA a0_:=λhm=>by let#[o,q]:=hn e hm;rw[he]at q;cases q
def entry{oe:Obj}{vs:Z!}{zm:Bool}(dc:dx_)(hl:cK!)(hf:cL!)(hn:cK_)(ce:dy!)
  (am:jt_)(he:gs_)(hc:lQ_)(hd:ju!)(hsz:1<vs.size)
  (k:xR_):
  wpAny M A xT! Q E s:=by
 let pj:=c0n (s:=s) hl hn am;exact ES xT_;exact ES xU!;delta EntryCells.newEntry newFields;exact ES xU_;let e1:O.get? e=some oe:=(so.2.1 e pj).trans he;let eT:e<dy_:=FK e1;generalize zn:xV!=ob;let ut:ob.data=.fields (oi_).toArray:=by rw[<-zn]
 let zo:ob.isFreed=false:=HS ut;let e2:(oj!).get? e=ψ oe:=EU _ e1;exact IL e2 hd hsz ?_;let d3:=HP hd oj_;let e3:=GL ok! e2 (HS d3);let db:∀b o,b≠e->O.get? b=ψ o->DC_ ju_=ψ o:=λb o G eb=>by
  rw[ok_];exact EU _ eb
 let tT:(ju_).get? dy_=ψ ob:=by
  rw[xW!];exact FP _ zo
 let s1:h_=dy_:=so.1.symm;exact Fr_ xX_ xY!
 .obtain rfl|⟨_,_,_,_,_,_,_,rfl⟩:=ao<;>simp
 .show"#R"
 .show"!B";exact xY_
 .show"!B";by_cases g8:b=e
  .subst g8;exact#[_,e3]
  .exact x0!
 .show"!B";exact x0_
def nM(dc:dx_)(hl:cK!)(hf:cL!)(hn:cK_)(ce:dy!)(x:XN n s.heap e cls)
  (k:xR_):qS! M gt_:=by
 let#[am,oe,vs,he,hc,hd,O]:=x;show"#5";exact GU_ entry
variable{T:uv!}
def wO(dc:dx_)(hl:cK!)(hf:cL!)(hn:cK_)(ce:dy!)(x:ol!)(pv:fl≠rawInt L)
  (k:∀h' T',h_<=T'->XF n h' e T' cls gt!->B6_ [e,T]->Be_ a0_->Q () {s with heap:=h'}):qS! M gt_:=by
 let#[am,oe,vs,oT,ts,he,hc,hd,O,hT,ni,ht,j6,h3]:=x;delta noteFrame;simp![hf];exact ES eH!;rw[ol_];exact ES x2!;rw[B4! (fl==rawInt L) pv];exact ES (IL ht j6 (HK.mp h3).1 ?_);let db:∀b,b≠T->DC_ jv_=s.heap.get? b:=λb G=>GR _ _ fJ!;let zq:T∉frA a0_:=c0n (s:=s) hl hn hT;let kp:Kp [e,T] eG! s.heap jv_:=
  ⟨λb o G _ eb=>by rw[db b jv!];exact eb,λb o G eb=>x5!,λb o eb=>by
   by_cases G:b=T
   .subst G;exact#[_,GL _ ht x5_]
   .exact x6!,JT (JC ..).symm⟩
 let wu:(jv_).FunFrames base a0_:=hl.of_keeps λb o eb pp=>⟨o,by
  rw[x6_];exact eb,χ⟩
 let hz:(jv_).objs.size=h_:=JC ..;exact entry (s:={s with heap:=By_ T x3_}) dc wu hf hn (w4_ hz ce) am (DN_ x7! he) hc hd (l8!).1 λh' T' a0 a1 a2 a3=>k h' T' (B6! hz a0) a1 (kp.trans (a2.weak c_)) a3
def wN(hf:cL!)(x:Bs! s.heap gt!)(k:dW_):qS! M gt_:=by let#[am,oe,vs,oT,ts,he,hc,hd,O,hT,ni,ht,j6,h3]:=x;delta noteFrame;simp![hf];exact ES eH!;rw[ol_];exact ES x2!;rw[FE (show(rawInt L==rawInt L)=τ by simp)];exact EV k
def fB{fo:ak!}{l:C_}(hl:x7_)(hn:x8!)(x:ol!)
  (k:∀h',Bs! h' x8_->FL! T->Be_ l->fK_=h_->Q () {s with heap:=h'}):qS! M (setFlight z! fo):=by
 let#[am,oe,vs,oT,ts,he,hc,hd,O,hT,ni,ht,j6,h3]:=x;let hsz:=(HK.mp h3).1;delta setFlight;exact ES eH!;rw[ol_];let db:∀b,b≠T->(By_ T x9!).get? b=s.heap.get? b:=λb G=>GR _ _ fJ!;let zq:T∉frA l:=λhm=>by let#[o,q]:=hn T hm;rw[hT]at q;cases q
 let self:=GL x9! ht x5_;exact IL ht j6 hsz (k _ #[am,oe,vs,_,_,(x7!).trans he,hc,hd,O,hT,ni,self,HP j6 _,by simp[hsz]]
  ⟨λb o G _ eb=>by rw[db b jv!];exact eb,λb o G eb=>x5!,λb o eb=>by
   by_cases G:b=T
   .subst G;exact#[_,self]
   .exact x6!,JT (JC ..).symm⟩
  (hl.of_keeps λb o eb pp=>#[o,by rw[x6_];exact eb,χ]) (JC ..))
inductive XS(n:Heap)(h:Heap)(e:uv!)(cls:Tk)(L:uv!):List Addr->Prop
 |new:XN n h e cls->C8! h L [e]
 |on {T:uv!} {fl:wX!}:Bs! h fl->C8! h L [e,T]
def d3q{bad:v!}(dc:dx_)(hl:cK!)(hf:cL!)(hn:cK_)(ce:dy!)(x:C8! s.heap L bad)
  (k:∀h' T,x9_->Bs! h' .none->B6_ bad->Be_ a0_->Q () {s with heap:=h'}):qS! M (leaving env z!):=by
 let S':∀{T:uv!},h_<=T->qY_ T=none:=λ{T} hT=>by
  cases q:qY_ T with
  |none=>rfl
  |some o=>exact Ac_ (FK q) (Nat.not_lt.mpr hT)
 delta leaving;cases x with
 |new x=>
  exact ES (nM dc hl hf hn ce x λO T a0 a1 a2 a3=>?_);show"!e"
 |@on T fl x=>
  by_cases pv:fl=rawInt L
  .subst pv;exact ES (wN hf x ?_);exact fB (fo:=υ) hl hn x λh2 b1 b2 b3 b4=>k h2 _ (.inl c_) b1 (b2.weak c_) b3
  .exact ES (wO dc hl hf hn ce x pv λO T a0 a1 a2 a3=>?_);show"!e"
end
open PySem.Spec PyProof.Rows L2
def Sl(base:Heap)(P:xz!)(w:wY!):So:=λouter H s E e s'=>∃(a T:uv!) (cls:Tk) (H':Hp),e=.ref a/\s'.os=s.os/\Es_ s'.gens/\Dn_ H/\Hw P w H' s'.heap/\
 XF s.heap s'.heap a T cls .none/\H' a=υ/\H' T=υ/\BV_ base outer/\Dj_ E
def Lo(m n:Heap):Prop:=∀b,n.get? b=υ->m.get? b=υ
def In(n h:Heap):Prop:=∀b,C!<=b->n.get? b=υ
def Lo.in{n:Heap}(l:Lo n h):In n h:=λb z=>l b (LZ z)
def In.on{n h h':Heap}(i:In n h)(k:C!<=fK_):In n h':=λb z=>i b (GB k z)
def Lo.of{h h':Heap}(k:∀b o,h.get? b=ψ o->∃o',Ab_ b=ψ o'):Lo h h':=λb z=>by
 cases y:h.get? b with
 |none=>rfl
 |some o=>let#[o',e]:=k b o y;rw[z]at e;cases e
def XF.low{n:Heap}{cls:Tk}(x:Bs! h fl)(l:Lo m n):XF m h e T cls fl:=by let#[am,oe,vs,oT,ts,he,hc,hd,O,hT,r]:=x;exact#[l _ am,oe,vs,oT,ts,he,hc,hd,O,l _ hT,r]
def XS.ge{n:Heap}{cls:Tk}{bad:v!}(x:on_):∀b∈bad,n.get? b=none:=by
 intro b G;cases x with
 |new x=>simp at G;subst G;exact x.new
 |on x=>
  let#[am,oe,vs,oT,ts,he,hc,hd,O,hT,r]:=x;simp at G;obtain rfl|rfl:=G
  .exact am
  .exact hT
structure Nw(X:Cx)(Z:j_)(n:Heap):Prop where
 s0:∀b o,b∉X.ex->A9! b=ψ o->∃o',n.get? b=ψ o'
 loc:∃o,Bq_ n.get?=ψ o
 cel:∀x c,ro_ x=ψ c->∃o,n.get? c=ψ o
 pin:∀p∈X.pn++Z,∃o,n.get? p.1=ψ o
 frm:∀b∈frA X.stack,∃o,n.get? b=ψ o
def Dv.there{H:Hp}{h:Heap}{o:HO}(x:kE!):∃u,h.get? a=ψ u:=by
 cases o with
 |lst xs=>let#[_,_,_,_,e]:=x;exact a6!
 |tup xs=>let#[_,_,_,_,e,_]:=x;exact a6!
 |dK h1=>let#[_,_,_,_,o,_,_,e,_]:=x;exact a6!
 |dT h1=>let#[_,_,_,_,o,_,_,e,_]:=x;exact a6!
 |set S n=>let#[o,_,_,_,e,_]:=x;exact a6!
 |ins C dx fs=>let#[_,_,_,e,_]:=x;exact a6!
 |own y=>let#[_,e]:=x;exact a6!
 |xd fs=>let#[_,#[_,_,_,e,_],_]:=x;exact a6!
 |rng lo hi=>let#[_,_,_,e]:=x;exact a6!
 |frz ob u=>let#[e,_]:=x;exact a6!
 |tbl ps=>exact#[_,g7!]
 |met f y=>exact#[_,g7!]
 |ext φ=>let#[_,#[_,e],_]:=x;exact a6!
def Hw.none{H:Hp}{h:Heap}(x:aI_)(e:h.get? a=υ):H a=none:=by
 cases q:H a with
 |none=>rfl
 |some u=>
  let#[o,ho]:=Dv.there (x a u q);rw[e]at ho;cases ho
section
variable{X:Cx}{Z:List (Addr×Obj)}{U:L2.St}{H H':Hp}{s:x1!}{h':Heap}{bad:List Addr}{n:Heap}
def Nw.here(I:c!):Nw X Z s.heap where
 s0:=λb o hx e=>I.base.there b o e hx
 loc:=by let#[m,#[o,_,_,ho,_],_]:=I.loc;exact oo!
 cel:=λx c h=>by
  let#[v,o,ho,_]:=C5! x h;exact oo!
 pin:=λp hp=>#[_,(ll!).1]
 frm:=λb G=>by
  let#[_,o,ho,_]:=I.stack.mem G;exact oo!
def c6l(I:c!):∀b∈frA X.stack,H b=none:=I.stkFree
def c2a{g':p9!}{t':δ}{d':Drawn}(I:c!)(N:jw_)(u:Dd_ bad H' h')(hok:hf!)(hg:kO_)(G:∀b∈bad,n.get? b=υ):
  Inv X Z U H' {s with heap:=h',gens:=g',drawn:=d',toks:=t'}:=by
 let nb:∀b∈bad,∀o,n.get? b≠ψ o:=λb h o z=>by rw[G b h]at z;cases z
 let n0:∀b∈bad,b∈X.ex\/A9! b=mP_:=λb h=>by
  by_cases hx:b∈X.ex
  .exact .inl hx
  .exact .inr ?_;cases q:A9! b with
   |none=>rfl
   |some o=>let#[o',e]:=N.s0 b o hx q;exact ξ e (nb b h o')
 let nl:∀b∈bad,b≠X.env.locals:=λb h z=>by subst z;let#[o,e]:=N.loc;exact nb _ h o e
 let nc:∀b∈bad,∀x c,ro_ x=ψ c->c≠b:=λb h x c hc z=>by subst z;let#[o,e]:=N.cel x c hc;exact nb _ h o e
 let np:∀b∈bad,∀p∈X.pn++Z,p.1≠b:=λb h p hp z=>by subst z;let#[o,e]:=N.pin p hp;exact nb _ h o e
 let nf:∀b∈bad,b∉Dl_ frs:=λb h z=>by let#[o,e]:=N.frm b z;exact nb _ h o e
 let WB:∀b∈bad,b∉X.fs:=λb h z=>by
  exact nf b h ?_;obtain e|⟨e,ef⟩:=I.ok.stk
  .rw[e];exact z
  .rw[e];simp![frs,IS,ef];exact EW _ z
 let ok:=I.ok
 let -nondep X':Cx:={X with ex:=X.ex++bad}
 let k1:∀b∈X.ex++bad,b≠X.env.locals/\∀x c,ro_ x=ψ c->c≠b:=λb ij=>by
  obtain q|q:=FL.mp ij
  .exact ok.exf b q
  .exact#[nl b q,nc b q]
 let k2:∀b o,Cx_ b=ψ o->b∉X.ex++bad:=λb o e z=>by
  obtain q|q:=FL.mp z
  .exact ok.noex b o e q
  .obtain r|r:=n0 b q
   .exact ok.noex b o e r
   .rw[(ok.bs b o e).1]at r;cases r
 let k3:∀b∈X.ex++bad,b∉X.fs:=λb ij=>by
  obtain q|q:=FL.mp ij
  .exact ok.exfs b q
  .exact WB b q
 let WC:X'.Ok:=#[ok.mod,ok.kind,ok.glob,ok.blt,fj_,ok.inj,ok.has,ok.cab,ok.hd,ht_,ok.stk,k1,ok.bs,ok.bsz,k2,k3,ok.funs,ok.frf];let I':D1! X' Z:=#[WC,I.os,I.bare,I.base.mono (λ_ z=>z) (λ_ z=>FT _ z),I.loc,I.cell,I.free,I.freeC,I.pin,I.hok,I.len];let J':=I'.call (g':=g') (t':=t') (d':=d') (ch:=bad) u hok hg λb h=>#[.inl (FQ _ h),nl b h,nc b h,np b h];let bd:∀b o,A9! b=ψ o->b∉X.ex->b∉X.ex++bad:=λb o e hx z=>by
  obtain q|q:=FL.mp z
  .exact hx q
  .obtain r|r:=n0 b q
   .exact hx r
   .rw[e]at r;cases r
 let B:=J'.base;exact⟨ok,J'.os,J'.bare,#[λb o e m hf hx=>B.keep b o e m hf jx!,λb o e m hf hx=>B.slot b o e m hf jx!,λb o e m hx=>B.free b o e m jx!,λb o e hx=>B.there b o e jx!,B.tups,B.frzs,B.tbls],
  J'.loc,J'.cell,J'.free,J'.freeC,J'.pin,J'.hok,J'.len⟩
def d2k(kp:oo_):Dd_ bad H h' where
 keep:=λb o e _ hf G=>kp.old b o G hf e
 slot:=λb o e _ hf _=>kp.frm b o hf e
 free:=λ_ _ _ n _=>n
 there:=λb o e _=>kp.thr b o e
 tups:=λ_ _ e=>e
 frzs:=λ_ _ _ e=>e
 tbls:=λb ps e=>kV_
def d1f(I:c!)(kp:oo_)(G:∀b∈bad,H b=υ):AX! Hw H h':=λb u e=>
 (kW_).stay (λd o hd eo=>by
  let jc:∃u,H d=ψ u:=by
   obtain rfl|hd:=hd
   .exact#[u,e]
   .exact#[_,hd]
  let#[v,hv]:=jc;exact kp.old d o (λz=>by rw[G d z]at hv;cases hv) (λz=>by rw[c6l I d z]at hv;cases hv) eo) e5_ λ_ _ q=>q
def dF(I:c!)(N:jw_)(kp:oo_)(G:∀b∈bad,H b=υ/\n.get? b=υ):m2! H {s with heap:=h'}:=
 c2a (g':=s.gens) (t':=s.toks) (d':=s.drawn) I N (d2k kp) (d1f I kp λb h=>(G b h).1) I.bare λb h=>(G b h).2
end
def c6r{h base:Heap}{outer:C_}(x:h.FunFrames base a0_):h.FunFrames base outer:=x.2.2
section
variable{P:xz!}{w:wY!}{K:ye!}{mg:Str->Option Value}{base:Heap}{N:List Str}{qual:Str}{scope:Scope}{f:uv!}{cd:wX!}{A:w5!}{outer:List Env}{s s1:x1!}{H H1:Hp}{E E':XK}{Z:List (Addr×Obj)}{U:L2.St}{n:Heap}{e:uv!}{cls:Tk}{bad:List Addr}
def b9r(I:Inv jx_ Z U H1 s1)(Nn:Nw jx_ Z n)(ce:In n s1.heap)
  (x:C8! s1.heap s.heap.objs.size bad)(G:∀b∈bad,H1 b=υ)(q:E cls.1 cls.2 H1):
  (jx_).xe z! s1:=by
 exact d3q (base:=base) (n:=n) I.ok.frames I.stack χ Nn.frm ce x λh' T hT xf kp ff=>?_;let J:=Fs! kp λb h=>gv!;exact#[e,T,cls,H1,χ,J.os,J.bare,J.base,J.hok,xf.low (λb z=>?_),?_,?_,c6r ff,q]
 .cases y:qY_ b with
  |none=>rfl
  |some o=>
   let#[o',e']:=Nn.s0 b o (λz=>by cases z) y;rw[z]at e';cases e'
 .cases x with
  |new _=>exact G e c_
  |on _=>exact G e c_
 .obtain h|h:=hT
  .exact G T h
  .exact Cb_ h
end
def Sm:μ Value:=[gv_,op!,op_,oq_]
structure BA(K:ye!)(N:uv!):Prop where
 mk::
 at_:∃c d es ep sl,AU_ N=ψ #[c,d,.dict es ep,sl]/\yf!=τ
 no:Cf! K=ψ υ
def Vu(K:ye!)(C:uv!):Prop:=∃B N nm q bs hdct sn sub ab col dd k0 k1 k2 k3 k5 c0 d1 cd sl,AU_ C=ya_ (.ref B::Sm)/\AU_ B=ψ yf_/\BA K N/\BA K cd.ns
def BA.ok{K:ye!}{N:uv!}(n:BA K N):W.nsOkIn K N=true:=by let#[#[c,d,es,ep,sl,e1,e2],_]:=n;delta W.nsOkIn;rw[e1];exact e2
def c0u{K:ye!}{C:uv!}{h:Heap}(X:bb_)(q:Vu K C):∃bm N nm q bs hdct sn sub ab col dd k0 k1 k2 k3 k5 mN,h.get? C=ya_ bm/\h.Ns N mN/\mN "__init__"=υ/\OwnTail h Sm bm:=by let#[B,N,nm,q,bs,hdct,sn,sub,ab,col,dd,k0,k1,k2,k3,k5,c0,d1,cd,sl,l1,l2,n1,n2]:=q;exact#[_,N,nm,q,bs,hdct,sn,sub,ab,col,dd,k0,k1,k2,k3,k5,_,X _ _ l1,.of_isNs (W.isNs_of_in X n1.ok),OZ X n1.ok n1.no,.own (X _ _ l2) (CT_ X n2.ok) (OZ X n2.ok n2.no) .base]
section
variable{X:Cx}{Z:List (Addr×Obj)}{U:L2.St}{H:Hp}{s:x1!}{h':Heap}{e C:uv!}{cls:wX!}{args:List Value}
def made(I:c!)(m:Br! Heap.MadeExcOf h' e cls args):m2! H {s with heap:=h'}/\Br! XN h' e (cls,υ,.none)/\H e=none:=by exact#[I.un (t':=s.toks) os! (I.hok.kept m.keeps),#[m.new,?_],Hw.none I.hok m.new];let#[t,ht,_]:=m.there;exact#[_,_,ht,jy!,χ,χ]
def b7m{x:Str}{te:TE}{R:bJ!}(hC:eJ!)(hh:cM!)(hg:x_)(hm:h2_)(he:jy_)
  (hR:∀(Z:j_) (U:L2.St) (H:Hp) (s:x1!) (h':Heap) (e:uv!) (n:Heap),m2! H {s with heap:=h'}->Nw X Z n->In n h'->XN n h' e os_->H e=υ->R os_ H->X.xe z! {s with heap:=h'})
  (al:s_:=by decide)(ai:jz!:=by rfl):
  PS X ot! yi_:=by
 show"#:";let#[bm,N,nm,q,bs,hdct,sn,sub,ab,col,dd,k0,k1,k2,k3,k5,mN,c1,c2,uu,c3]:=c0u I.ok.mod.kin hC;exact wpAny_Raise_call_subU (C:=C) (mN:=mN) (nm:=nm) (q:=q) (N:=N) (bs:=bs) (bm:=bm) (hdct:=hdct) (sn:=sn) (sub:=sub) (ab:=ab) (col:=col) (dd:=dd) (k0:=k0) (k1:=k1) (k2:=k2) (k3:=k3) (k5:=k5) HH a_ HH (c3.hasType a_) hh (by rw[ai];rfl) uu (dX I hg hm I_ al);rw[ai];show wX_ yj_ _;exact Ct! v;exact JM ?_;exact#[χ,yk!,I1.bk _ _ c1,c2.keeps I1.bk,c3.keeps I1.bk,λh' e m=>?_];let#[J,xn,hn]:=made I1 m;exact hR Z U H1 s1 h' e s1.heap J (DU! I1) (ot_).in xn hn q1
end
def Hn(XE:yk_)(X:Cx)(scope:Scope)(cl:aB!)(C:uv!)(N:l!)(ae:x1!)(au:Hp)(fp:v!):Cx:={Hx X scope cl C N ae au fp with xe:=XE C ae au fp}
def d3e{X:Cx}(f:i!)(ok:X.Ok):Cx.Ok {X with xe:=f}:=fk!
def c0c{X:Cx}{Z:j_}{U:L2.St}{H:Hp}(f:i!)(I:c!):Inv {X with xe:=f} Z U H s:=#[d3e f I.ok,I.os,I.bare,I.base,I.loc,I.cell,I.free,I.freeC,I.pin,I.hok,I.len]
def XS.at{n:Heap}{e L:uv!}{cls:Tk}{bad:v!}(x:on_):C8! h L' bad:=by
 cases x with
 |new x=>exact .new x
 |on x=>exact .on x
def XS.mem{n:Heap}{e L:uv!}{cls:Tk}{bad:v!}(x:on_):e∈bad:=by cases x<;>simp
def vK{e:wX!}{env env':Env}(h:env'.frame=env.frame):noteFrame e env'=noteFrame e env:=by delta noteFrame PySem.frameOf;rw[h]
section
variable{M:Model}{A:w5!}{E:Value->Shared->Prop}{s:x1!}{base:Heap}{env:Env}{outer:List Env}{L e:uv!}{n:Heap}{cls:Tk}{fl:wX!}{Q:Unit->Shared->Prop}{bad:List Addr}
def c4p(dc:dx_)(hl:cK!)(hf:cL!)(hn:cK_)(ce:dy!)(x:C8! s.heap L0 bad)
  (k:∀h' T fl,x9_->Bs! h' fl->B6_ bad->Be_ a0_->Q () {s with heap:=h'}):qS! M gt_:=by
 cases x with
 |new x=>exact C7_ nM hn ce x λO T a0 a1 a2 a3=>k O T _ jw! a1 a2 a3
 |@on T fl x=>
  by_cases pv:fl=rawInt L
  .subst pv;exact wN hf x (k s.heap T _ (.inl c_) x (Kp.refl _ _ _) hl)
  .exact C7_ wO hn ce x pv λO T a0 a1 a2 a3=>k O T _ jw! a1 a2 a3
def d4s{α:Type}{WD:String}{l:C_}{QQ:aP!}(hl:x7_)(hn:x8!)(x:ol!)
  (k:∀h' fl,Bs! h' fl->FL! T->Be_ l->E z! {s with heap:=h'}):Cc! (PySem.passOn WD z! cenv:Sem α) QQ E s:=by
 let x':=x;let#[am,oe,vs,oT,ts,he,hc,hd,O,hT,ni,ht,j6,h3]:=x';delta PySem.passOn;exact ES eH!;rw[Cn_ T];exact ES (fB (fo:=cenv.frame) hl hn x λh2 b1 b2 b3 b4=>?_);exact OQ (k h2 _ b1 b2 b3)
end
def Xj(a:uv!):HO:=.ext λh=>∃o vs,h.get? a=ψ o/\o.data=Bw_ vs/\vs[2]?=ψ .none
def AU(H:Hp)(v:wX!):Prop:=v=.none\/∃a,v=.ref a/\H a=ψ (Xj a)
def c8g{H:Hp}{h:Heap}{o:Obj}{vs:Z!}(q:ym!)(d:rj_)(c:jA_):DR_ a (Xj a):=
 #[#[o,vs,q,d,c],#[o,q],λ_ _ ⟨o,vs,q,d,c⟩ k=>#[o,vs,k _ q,d,c]]
def b4m{X:Cx}{Z:j_}{U:L2.St}{H:Hp}{s:x1!}{n:Heap}{o:HO}(I:c!)(N:jw_)(hn:n.get? a=υ)(hH:e7_)(new:AX! Dv bf! s.heap a o):m2! bf! s:=by
 let ne:∀{b:uv!},(∃ob,n.get? b=ψ ob)->b≠a:=λ⟨ob,q⟩ z=>by subst z;rw[hn]at q;cases q
 exact#[I.ok,I.os,I.bare,#[I.base.keep,I.base.slot,λb ob q n' hx=>?_,I.base.there,ym_,λb ob xs q=>?_,yn!],I.loc,I.cell,?_,λy c q=>?_,ci!,λb u r=>?_,I.len]
 .rw[aH (ne (N.s0 b ob hx q))];exact Fj! ob q n' hx
 .let:=I.base.tups b xs q;rw[ov!];exact this
 .let:=I.base.frzs b ob xs q;rw[ov!];exact this
 .let#[m,this]:=I.base.tbls b ps q;exact#[m,by rw[ov!];exact this]
 .rw[aH (ne N.loc)];exact I.free
 .rw[aH (ne (N.cel y c q))];exact I.freeC y c q
 .let#[p1,p2,p3]:=I.pin p hp;exact#[p1,by rw[aH (ne (N.pin p hp))];exact p2,p3]
 .show"#B"
  .subst G;rw[aV]at r;cases r;exact new
  .rw[aH G]at r;exact Gh_ I.hok λc xs z=>?_
   .rw[FZ_ hH];exact z
   .rw[FZ_ hH];exact z
def Lv(X:Cx)(R:bJ!):Prop:=∀(Z:j_) (U:L2.St) (H:Hp) (s:x1!) (n:Heap) (a:uv!) (cls:Tk) (bad:v!),m2! H s->Nw X Z n->In n s.heap->XS n s.heap a cls 0 bad->(∀b∈bad,H b=υ)->R cls H->X.xe u! s
def c8a{K:ye!}{mg:o!}{base:Heap}{N:l!}{scope:Scope}{A:w5!}{outer:C_}{s:x1!}{H:Hp}{E:XK}:
  Lv jx_ λcls H'=>Dj_ E:=λZ U H1 s1 n a cls bad I Nn i x G q=>b9r I Nn i x.at G q
def yQ{X:Cx}{R:bJ!}{E':XK}(hX:b8!)(hE:∀(cls:Tk) H',Dj_ E'->R cls H'):Ig yp! X E':=by
 intro Z U H s e s' I h;let#[a,T,cls,H',rfl,os,bare,un,hok,xf,ha,hT,ff,q]:=h;let#[hh,g,d,t,ou]:=s';obtain rfl:ou=s.os:=os;let J:=I.call (h':=hh) (g':=g) (d':=d) (t':=t) (ch:=[]) un hok bare fz_;exact hX Z U H' _ s.heap a cls _ J (DU! I) (ow!).in (.on xf) dR! (hE _ _ q);simp at G;obtain rfl|rfl:=G
 .exact ha
 .exact hT
def b2x{X:Cx}{C:uv!}{x:Str}{te:TE}{R:bJ!}(hX:b8!)(hC:eJ!)(hh:cM!)(hg:x_)(hm:h2_)(he:jy_)
  (al:s_:=by decide)(ai:jz!:=by rfl):
  PS X ot! yi_:=
 b7m hC hh hg hm he (λZ U H s h' e n I N i x hn q=>hX Z U H _ n e _ _ I N i (.new x) (λb G=>by simp at G;subst G;exact hn) q) al ai
def Vy(X:Cx)(scope:Scope)(cl:aB!)(N:l!)(R:bJ!)(C:uv!)(ae:x1!)(au:Hp)(fp:v!)(e:wX!)(s':x1!):Prop:=
 ∃(a:uv!) (cls:Tk) (H':Hp) (ac:L2.St) (fq:j_) (n:Heap) (bad:v!),e=.ref a/\AX_ yq_ fq/\Nw yq_ fq n/\Fa! In n/\Fa! XS n a cls 0 bad/\(∀b∈bad,H' b=υ)/\R cls H'
def c5h{X:Cx}{scope:Scope}{cl:aB!}{N:l!}{R:bJ!}{C:uv!}{au:Hp}{fp:v!}:Lv (Hn (CU! N R) X scope cl C N ae au fp) R:=
 λZ U H s n a cls bad I Nn i x G q=>#[a,cls,H,U,Z,n,bad,χ,c0c ow_ I,#[Nn.s0,Nn.loc,Nn.cel,Nn.pin,Nn.frm],i,x,G,q]
section
variable{X:Cx}{scope:Scope}{cl:List (Str×Addr)}{N:List Str}{R:Tk->Hp->Prop}{C:uv!}{s2:x1!}{H2:Hp}{fp:List Addr}{Z fq:List (Addr×Obj)}{U:L2.St}{n:Heap}
def Nw.up(I2:ek_)(f2:el!)(Nn:Nw ub_ fq n):Nw X Z n where
 s0:=λb o hx e=>by
  let#[o',e']:=I2.base.there b o e hx;exact Nn.s0 b o' (λG=>?_) e';obtain z|z:=(fq!).2.2.2.1
  .exact hx z
  .exact Ac_ bv_ (Nat.not_lt.mpr z)
 loc:=by
  let#[m,#[o,_,_,ho,_],_]:=I2.loc;exact Nn.s0 _ o (λG=>(f2 _ G).2.1 χ) ho
 cel:=λx c h=>by
  let#[v,o,ho,_]:=Dp! h;exact Nn.s0 c o (λG=>(f2 c G).2.2.2.2.1 x c h χ) ho
 pin:=λp hp=>Nn.s0 p.1 p.2 (λG=>(f2 _ G).2.2.2.2.2 p hp χ) (fS!).1
 frm:=Nn.frm
def c1v{Z:j_}{Q:i!}{D L:uv!}{e:wX!}(hX:b8!)(ai:aw_)(hf:ax!)(b9:fO_)(I2:ek_)(f2:el!)(hC:t_<=C)
  (h:CU! N R C s2 H2 fp e s'):Fs_ (λe s'=>compPost d_ X.A X.xe υ Q im_ C cw! s'):=by
 let#[a,cls,H',ac,fq,n,bad,rfl,I,Nn,i,x,G,q]:=h;let NX:=Nn.up I2 f2;delta notedBy;rw[vK (env:=X.env) (env':=Cz_ C) χ];let dc:dO_=ψ Y!:=by rw[<-ai];exact I2.ok.frames
 let hl:BV_ X.base Y!:=by rw[<-ai];exact I.stack
 exact G6! (B6! ai NX.frm) λO T fl a0 a1 a2 a3=>?_;rw[<-ai]at a2 a3;let J:=Fs! a2 λb h=>gv!;let k8:H' T=none:=by
  obtain z|z:=a0
  .exact G T z
  .exact jC_
 let IX:m2! H' {s' with heap:=O}:=I2.call' (ch:=fp) J.os J.base J.hok J.bare λb G=>by
  show"!b"
 let#[m,hm,_]:=J.loc;exact#[m,hm,λh2 da cenv _=>?_];let#[oC,WH]:=Nn.loc;let oj:∀b,n.get? b=υ->b≠C:=λb z w=>by subst w;rw[show n.get? b=ψ oC from WH]at z;cases z
 let dw:∀b,b<t_->b≠C:=λb G=>Ge_ G hC;let IC:m2! H' {s' with heap:=h2}:=Inv.turned (s:=jD!) (t':=s'.toks) (it:=C) IX (λb o G e=>(da.2 b G).trans e) J.free (GI io!) io_
  (λx c h=>dw c (let⟨_,_,ho,_⟩:=I2.cell x c h;FK ho)) λp hp=>dw _ (FK (fS!).1)
 let xf:XF n h2 a T cls fl:=by
  let#[am,oe,vs,oT,ts,he,hc,hd,ko,hT,ni,ht,r]:=a1;exact#[am,oe,vs,oT,ts,(da.2 a (oj a am)).trans he,hc,hd,ko,hT,ni,(da.2 T (oj T hT)).trans ht,r]
 let i2:In n h2:=i.on (GB a2.sz (JT da.1.symm));exact d4s (base:=X.base) (l:=X.stack) IC.stack NX.frm xf λh3 fl3 b1 b2 b3=>?_;let JX:=dF (bad:=[T]) IC NX b2 λb G=>by
  simp at G;subst G;exact#[k8,let⟨_,_,_,_,_,_,_,_,_,hT,_⟩:=b1;hT]
 exact hX Z U H' _ n a cls [a,T] JX NX (i2.on b2.sz) (.on b1) (λb ij=>?_) q;simp at ij;obtain rfl|rfl:=ij
 .exact G _ x.mem
 .exact k8
end
end XS
namespace WR
open PySem
open Sem (wp)
def Vk(x:Code×Pos):Bool:=match x.1 with|.builtin "claim.caller" _=>τ|_=>θ
def Xi(Γ:Ctx):Prop:=Γ.below.any Vk=τ
def Xi.enter{Γ:Ctx}(h:Xi Γ)(c:Code)(hd:eK!)(p:Pos):Xi (Γ.enter c hd p):=by show(ox!).any Vk=τ;rw[IP,show Γ.below.any Vk=τ from h,MB]
def Xi.goto{Γ:Ctx}(h:Xi Γ)(c:Code):Xi (Γ.goto c):=h
nonrec def wpR{α:Type}(M:Model)(A:w5!)(t:bc!)(Q:aP!)(E:i!)(s:x1!):Prop:=
 ∀Γ p,Γ.In A->Xi Γ->wp M Γ t (λa _ s'=>Q a s') (λe _ s'=>E e s') p s
nonrec def codeR(M:Model)(A:w5!)(c:Code)(R:bc_)(s:x1!):Prop:=
 ∀Γ p,Γ.code=c->Γ.Below A->Xi Γ->wpCode M Γ R p s
section
variable{α β:Type}{M:Model}{A:w5!}{E:Value->Shared->Prop}{s:x1!}
def of_any{t:bc!}{Q:aP!}(h:qF_):rs_ t:=λΓ p bz _=>h Γ p bz
def code_of_any{c:Code}{R:bc_}(h:codeAny M A c R s):Bn! M c:=λΓ p hc bz _=>h Γ p hc bz
def pure'{a:α}{Q:aP!}(h:Q a s):rs_ (pure a):=λ_ _ _ _=>h
def mono{t:bc!}{Q Q':aP!}{E':i!}(h:jD_)(hQ:qE!)(hE:∀e s,E e s->E' e s):Bf! t Q' E' s:=
 λΓ p bz hC=>JR M Γ t (λa _ s=>hQ a s) (λe _ s=>hE e s) p s gA_
def bind{m:bc!}{f:α->Sem β}{Q:yu_}(h:Bf! m (λa s'=>wpR M A (f a) Q E s') E s):rs_ (m>>=f):=λΓ p bz hC=>by
 rw[KZ];exact JR M Γ m (EZ! a) cM_ p s gA_
def onRaise{m:bc!}{k:Value->Sem Unit}{Q:aP!}(h:Bf! m Q (λe s'=>wpR M A (k e) (λ_ kx=>E e kx) E s') s):rs_ (m.onRaise k):=λΓ p bz hC=>by
 rw[Sem.wp_onRaise];exact JR M Γ m cM_ (EZ! e) p s gA_
def attempt{m:bc!}{Q:Except Value α->Shared->ν}(h:Bf! m (λa=>Q (.ok a)) (λe=>Q cw!) s):rs_ m.attempt:=λΓ p bz hC=>by rw[Sem.wp_attempt];exact EZ_ h p
def dP{m:bc!}{Q:aP!}(h:yv!):rs_ (holding vs m):=λΓ p bz hC=>by rw[Sem.wp_holding];exact EZ_ h p
def gF{Q:cN!}(h:dW_):rs_ (standAt pos):=λ_ _ _ _=>h
def a8y{WJ:String}{Q:cN!}(h:dW_):rs_ (rule WJ):=λ_ _ _ _=>h
def d2q{c:Code}{h:eK!}{Q:ax_}(hc:Ft! (A.mark h) c (λr s'=>match r with|.ok f=>Q f s'|.error e=>E e s') s)(zr:yw_:=by intro x;cases x):rs_ (run c h):=
 λΓ p bz hC=>by rw[Sem.wp_run];exact FL_ h zr (hC.enter c h p)
def b2n{c:Code}{Q:i!}(hc:Ft! A c yx! s):rs_ (runValue c):=
 λΓ p bz hC=>by rw[Sem.wp_runValue];exact FL_ υ yx_ (hC.enter c υ p)
def call'{kw:d7!}{Q:i!}(hc:Ft! A (.call f #[pos,kw]) yx! s):rs_ (call f pos kw):=b2n hc
def gW{c:Code}{R:bc_}(h:GL! (Bj! M)):Bn! M c:=λΓ p hc bz hC=>by
 rw[wpCode_iff_wp,hc];exact JR M Γ _ (λak p' s' h'=>?_) cM_ p s (h Γ p (hc▸bz.in) hC);cases ak with
 |done f=>exact h'
 |again c'=>exact#[h'.1,h'.2 (Γ.goto c') p' χ (bz.goto c') (hC.goto c')]
def loop{c:Code}{R:bc_}(hq:c.quiet=τ)(I:fP_)
  (g9:∀n s,I n s->GL! (λak s'=>match ak with|.done f=>R dA! s'|.again c'=>c'=c/\∃m,m<n/\I m s'))
  (n:δ)(h:I n s):Bn! M c:=by
 induction n using Nat.strongRecOn generalizing s with
 |ind n ih=>
  exact gW yy_;cases ak with
  |done f=>exact hf
  |again c'=>let#[rfl,m,hm,hI]:=hf;exact yz!
def code_mono{c:Code}{R R':bc_}(h:Bn! M c)(hR:∀r s,R r s->R' r s):Ft! A c R' s:=λΓ p hc bz hC=>wpCode_mono hR (h Γ p hc bz hC)
def a7h{own:μ String}{Q:cN!}(h:dW_):rs_ (markTheRefusal own e):=by
 delta markTheRefusal;exact bind (λΓ p bz hC=>?_);show rs_ _;let hn:pythonCodeMadeTheCall own (Cy_ ox!)=false:=by
  delta pythonCodeMadeTheCall;let:((Cy_ ox!).any λ(c:Code)=>match c with|.builtin "claim.caller" _=>τ|_=>θ)=true:=by
   rw[List.any_map,IP];exact Bool.or_eq_true_iff.mpr (.inr hC)
  exact Bool.and_eq_false_iff.mpr (.inl (Bool.and_eq_false_iff.mpr (.inl ?_)));rw[Bool.not_eq_false'];exact this
 rw[FC (Fj_ hn)];exact pure' h
end
open PySem.W PySem.Calls PyProof.Rows
open Sem (wp)
abbrev Γc:Ctx:=#[yz_,υ,υ,[],υ]
def b5i(c:Code)(hd:eK!)(p:Pos):Xi (Γc.enter c hd p):=χ
def b5y{M:Model}{R:bc_}(hr:∀fl s',R (.ok fl) s'->∃v,fl=.ret v)
  (h:Ft! callerA yA! R s)(p:Pos):wp M Γc (PySem.call f vs) (λv _ s'=>R oz! s') (λe _ s'=>R cw! s') p s:=by
 show wp M Γc (runValue yA!) _ _ p s;rw[Sem.wp_runValue];exact wpCode_mono (λr s' g=>?_) (h _ p χ (caller_in.enter _ υ p yx_) (b5i _ _ _));obtain e|fl:=r
 .exact g
 .let#[v,rfl]:=hr fl s' g;exact g
def b5h{c:ClaimW}{zt:μ Value->Sem PySem.Fin}{w:wY!}{s:x1!}{free:oz_}{gens:ν}{kept:e3!}(hz:s.asleep)(rh:s.gens=#[])
  (WK:∀args,c.pre args=τ->WData.layableAll args=τ->∀ord:List DictEntry->List DictEntry,(∀l,(ord l).Perm l)->
   ∃vs σ,layAllW c.records (Br! classAt) w.params ord args s=ψ (vs,σ)/\
    wp (model c.prog w) Γc (zt vs) (λak _ s'=>∃f,ak=.done f/\(c.Ends s args vs σ dA! s'/\s'.os=s.os/\AllBare s'.gens/\kept s'.heap))
     (λe _ s'=>FM! cw!/\s'.os=s.os/\Es_ s'.gens/\kept s'.heap) default σ):
  c.CallFrom (λvs=>#[zt vs,yz_,default,[]]) w free gens kept s:=by
 intro args lj uv ord wv;let#[vs,σ,nj,WL]:=WK args lj uv ord wv;let kr:=layAllW_rest _ _ _ nj;let#[k,r,kx,s',WM,WN,WO,lp,ju,TB]:=wp_halts_full (M:=model c.prog w) (R:=λr s'=>FM! r/\s'.os=s.os/\kept s'.heap)
  (Shared.asleep_of_life kr.2.2.2 hz) (JR _ Γc (zt vs) (λak p s' h=>(by
   let#[f,rfl,O,h2,h3,h4]:=h;exact(#[#[O,h2,h4],leftWithCleanup_false_of_bare h3]:(c.Ends s args vs σ dA! s'/\s'.os=s.os/\kept s'.heap)/\leftWithCleanup s'.gens=θ))) (λe p s' h=>#[#[h.1,h.2.1,h.2.2.2],leftWithCleanup_false_of_bare h.2.2.1]) default σ WL)
 let#[eh,_,_,eo,_]:=Shared.forget_eq WO;let lp:=lp.congr eh;rw[<-eh]at TB;rw[<-eo]at ju;let WQ:=(runN_life _ _ _ WN).trans kr.2.2.2;exact#[vs,σ,nj,k,_,s',WM,?_,(λ_ i x hx=>by rw[rh]at hx;simp at hx),TB,by rw[WQ],Shared.rest_eq ju];obtain⟨v,rfl,d1,d2,d3,d4,d5⟩|⟨e,ob,cls,rfl,d1,d2,d3,d4,d5⟩:=lp
 .exact .inl #[v,χ,d1,d2,d3,λb o y _=>d4 b o y,d5]
 .exact .inr #[e,ob,cls,χ,d1,d2,d3,d4,λb o y _=>d5 b o y]
abbrev WalkR(q:xz!)(loose:l!)(XP:gC_)(YP:gD!)(r:RowW)(d:DefRec)(kwd:yE!):Prop:=
 ∀(w:wY!) (s₀ σ:x1!) (mg mb:o!),Ea_ s₀ mg mb σ.heap->YP w σ.heap->∀(a:uv!) (o:Obj) (pm cd bn dV kV:wX!),Bs_ a=ψ o->
  o.data=.func {CB_ pm with defaults:=dV,kwdefaults:=kV}->FM_ cd->Dflts mg σ.heap d.params kwd dV kV->mg d.name=ψ u!->σ.gens=#[]->
  ∀(args:mO_) (oz:k_) (as:v!),r.claim.pre args=τ->WData.layableAll args=τ->F0! ReadsAllW yE_ σ.heap oz args as->WellAll w.params σ.heap oz args->(∀a∈as,cg!=θ)->
   codeR (model r.prog w) callerA (.call u! #[oz,[]]) (GoodWG r.claim yE_ (ExcName.means s₀.heap) args σ) σ
def c0g{c:ClaimW}{cl:Str->wY_ Addr}{WU:ExcName->wY_ Value}{args:mO_}(fl:Flow)(s':x1!)(g:GoodWG c cl WU args σ (.ok fl) s'):∃v,fl=.ret v:=by
 obtain⟨v,_,_,e,_⟩|⟨e,_,_,h,_⟩:=g.1
 .cases e;exact#[v,χ]
 .cases h
def holds_openR{r:OpenRow}{Xt:Shared->Bool}{XP:gC_}{α:Type}{Yf:Shared->α}{Ya:World->α}{YP:gD!}{d:DefRec}{kwd:yE!}{N:δ}
  (left:Eb! q)(hY:∀w s,Yf s=Ya w->YP w s.heap)(WV:∀w h h',YP w h->yF!->YP w h')
  (hX:∀s,Xt s=τ->XP yF_ s.heap)(WW:∀mg h h',XP mg h->yF!->XP mg h')
  (zu:defOf q r.name=ψ (d,kwd))(hp:r.prog.theDef r.name=E0! ψ)(hk:CU_ kwWritten?=ψ kwd)(WX:∀s,Xt s=τ->F0! RecFacts s.heap)(TC:(!r.writes||r.records.isEmpty)=τ)
  (k1:r.wellSaid=τ)(ok:(BO_ q)=τ)(G:r.prog.bare)(hw:r.toRowW.promised)
  (call:Ej_ WalkR):r.Holds:=by
 exact#[k1,hw,?_];let#[ok,k5]:=LO.mp ok;let#[iu,o1]:=LO.mp ok;let#[k5,k6]:=LO.mp k5;let#[TF,hu,ha,WY,hm]:=frees_parts k5;exact#[#[G,o1,by show r.toRowW.makers.map _=[];rw[hm];rfl],hw.witness,λw=>#[(left.behind hX iu w).1,λs' fk=>?_]];let#[s₀,hf,WZ,s,hT,hz,rh,hg,jn,y]:=(left.behind (XP:=λmg h=>XP mg h/\RecFacts r.records h) (λs hs=>#[hX s hs,WX s hs]) iu w).2 s' fk;let G0:Ground q loose [] XP w s yF_ (s.heap.nsMap builtinsNs) s.heap:=#[jn.T,jn.B,jn.D,jn.TE,jn.TD,jn.W,jn.X.1,jn.cls,jn.has,jn.apart,jn.once,jn.K];let RF:=jn.X.2;let TH:=hT;exact#[s₀,hf,WZ,s,hT,λn hn=>?_,RF.1,RF.2.1,?_]
 .obtain rfl:n=r.name:=by split at hn<;>simp_all
  exact pinned_of_view hg G0 zu hp hk
 let rh:s.gens=#[]:=Array.eq_empty_of_size_eq_zero (GS.mp rh);let hb:Ea_ s _ _ s.heap:=RF.ground G0;exact b5h (c:=oE!) hz rh λargs lj uv ord wv=>?_;let#[#[vs,σ],nj]:=MQ.mp (layAllW_isSome (P:=w.params) (ord:=ord) hb.has args r.args s (mN!).1);let keeps:=layAllW_keeps _ _ _ nj;let kr:=layAllW_rest _ _ _ nj;let#[as,ww,W0,W1]:=reads_layAllW wv _ _ _ nj uv σ.heap kW!;let L:F0! Laid w s σ args vs as:=#[#[ord,wv,nj],ww,W0,W1,keeps,kr.1.trans rh,kr.2.2.1];let zw:=hb.keeps WW keeps;let#[a,o,pm,cd,bn,dV,kV,O,h2,h3,h4,h5]:=zw.fn zu;let h:=b5y (M:=model r.prog w) (λfl s' g=>c0g fl s' g) (call w s σ _ _ zw (WV _ _ _ (hY w s y) keeps) a o pm cd bn dV kV h2 h3 h4 h5 (defOf_name zu▸O) L.gens args vs as lj uv L.reads L.well (L.low hb.low)) default;let hi:=ident_freeW hu ha WY;let TJ:r.toRowW.claim.within=[]:=List.isEmpty_iff.mp k6;exact#[vs,σ,nj,?_];show Ft_ (nsGet mainNs r.name>>=_);rw[KZ,Sem.wp_nsGet _ Γc _ default σ (show σ.heap.Ns mainNs _ from zw.T.g),O];show Ft_ (PySem.call u! vs>>=_);rw[KZ];exact JR _ Γc _ (λv p s' g=>?_) (λe p s' g=>?_) default σ h
 .let z:=GoodWG.laid (c:=oE!) TF TJ hi L g;exact#[_,χ,z.1,z.2.1,z.2.2,yG_]
 .let z:=GoodWG.laid (c:=oE!) TF TJ hi L g;exact#[z.1,z.2.1,z.2.2,yG_]
end WR
namespace L2
open PySem PySem.Spec PyProof.Rows
structure Fq(P:xz!)(w:wY!)(K:ye!)(mg:o!)(base:Heap)(CX:So)(k:Nat)(f:uv!)(fd:FuncData)(ps:l!)(sp:Sp):Prop where
 len:∀vs H Q E,Bk_ H->at!=K!
 run:∀(A:w5!) (outer:C_) (s:x1!) (H:Hp) (args:Args) (us:k_) (vs:l_) (Q:VK) (E:XK),Ba k A->G0_ A->B2! args bB!->Bp vs us->Bk_ H->
  WR.codeR B! A l9! sM! s
theorem He.R{K:ye!}{mg:o!}{CX:So}{k:δ}{sp:Sp}(F:GB! He k):GB! Fq k:=
 #[F.len,λA outer s H args us vs Q E O h2 h3 h4 h5=>WR.code_of_any (F.run A outer s H args us vs Q E O h2 h3 h4 h5)]
def b4e{K:ye!}{mg mb:o!}{CX:So}{k:δ}{x:Str}{sp:Sp}{σ:x1!}{vs:k_}{ns:B_}
  (KX:K.In σ.heap)(ce:A2_ σ.heap.Ns)(G:σ.heap.Ns builtinsNs mb)(W2:∀x:Str,x≠"__name__"->mb x=AS_ x)(rg:σ.heap.NoLimit)(hg:σ.gens=#[])
  (ha:Bs_ a=ψ {cls:=.type "list",data:=.seq bC_})(hi:DS_ vs)(hl:sj_)(hr:oE_)
  (F:∀base:Heap,K.In base->A2_ base.Ns->kV! Fq CX k fa fd [x] sp)(W3:∀(s:x1!) (u:wX!),Hq_ x)
  (gi:∀H:Hp,Xe H->DU_ K->sp [H!] H jI_ λ_ _ _=>False)
  (uw:∀H e s',CX [] H σ gE! e s'->False):
  WR.codeR B! callerA oG! oG_ σ:=by
 let rv:=b1z hi;let W4:=hi.length;let TK:∀H:Hp,Xe H->DU_ K->Hw P w H σ.heap->(∀b,H b≠υ->b=a)->(H a≠υ->K.lookup a=υ)->
   WR.codeR B! callerA oG! oG_ σ:=by
  intro H hO hS hok hA hK;let TL:∀{b:uv!} {o:Obj},Bs_ b=ψ o->H b=υ->DC_ gE_=ψ o:=λe n=>c0e e n;let tu:∀{b:uv!} {o:Obj} {es:dC!} {ep:δ},Bs_ b=ψ o->o.data=Fi_ es->H b=none:=λ{b o es ep} e d=>by
   cases q:H b with
   |none=>rfl
   |some u=>
    let e':b=a:=hA b cC!;subst e';rw[ha]at e;cases e;let d':Data.seq vs.toArray _=Data.dict es ep:=d;cases d'
  let wx:∀{b:uv!} {m:o!},σ.heap.Ns b m->(gE_).Ns b m:=λ{b m} ⟨o,es,ep,e,d,r⟩=>#[o,es,ep,TL e (tu e d),d,r];let TM:K.In gE_:=λb o e=>TL (KX b o e) (by
   cases q:H b with
   |none=>rfl
   |some u=>
    let e':b=a:=hA b cC!;subst e';rw[hK cC!]at e;cases e)
  let hM:Mod K mg gE_:=#[TM,wx ce,#[mb,wx G,W2],let⟨mc,O,h2⟩:=rg;#[mc,wx O,h2]];let e0:Rh P w K mg gE_ callerA [] σ H:=#[χ,hM,λb o e=>c4k e,JT (b4p _ _),ο,λb G=>ξ (show b∈s2! from G) c_,hok,.of_eq hg];exact WR.code_mono ((F _ TM (wx ce)).run callerA [] σ H oF_ [H!] [H!] _ _ hr e0 (W3 σ u!) (.cons χ .nil) (gi H hO hS)) λr s' h=>?_;cases r with
  |error e=>exact(uw H e s' h).elim
  |ok fl=>
   cases fl with
   |next=>exact ye_ h
   |brk=>exact ye_ h
   |cont=>exact ye_ h
   |ret u=>
    let#[v,H',os,bare,un,wy,r',q]:=h;let q':v=.bl true:=q;subst q';obtain rfl:u=Value.bool true:=r';exact#[χ,OldK.of_keep λb o e=>?_,os,bare];cases q:H b with
    |none=>exact un.keep b o e q (by intro z;exact ξ s2_ c_) c_
    |some u=>
     obtain z|⟨ob,xs,z⟩:=hO b
     .rw[q]at z;cases z
     .let z2:=un.frzs b ob _ z;let#[e1,_]:=hok b _ z;let#[e2,_]:=wy b _ z2;rw[e]at e1;cases e1;exact e2
 cases hk:AU_ a with
 |some o=>
  let e:=KX a o hk;rw[ha]at e;cases e;exact TK l5! (λ_=>.inl χ) (.inr #[_,bC_,_,hk,χ,χ,χ,by rw[FG,W4];exact hl,by simpa using rv]) (λb u z=>by let z':(none:ι HO)=ψ u:=z;cases z') (λb z=>ξ χ z) λz=>AS! z
 |none=>
  exact TK (λb=>if b=a then ψ (.frz {cls:=.type "list",data:=.seq bC_} (.lst cv!))else υ) (λb=>?_) (G6_ #[{cls:=.type "list",data:=.seq bC_},S!]) (λb u z=>?_) (λb z=>?_) λ_=>hk
  .show"#B"
   .exact .inr #[_,_,FE G]
   .exact .inl (FC G)
  .show"#B"
   .let z':=(FE G).symm.trans z;cases z';subst G;exact#[ha,yH_,vs,_,rv,ha]
   .let z':=(FC G).symm.trans z;cases z'
  .show"#B"
   .exact G
   .exact Ac_ (FC G) z
end L2
namespace Att
open PySem PySem.W PySem.Calls PyProof.Rows L2
def a1e{l:OpenLaw}{n:δ}{XP:gC_}{YP:gD!}{d:DefRec}
  (hn:ik!)(ja:oJ!)
  (call:∀(w:wY!) (s₀ σ:x1!) (mg mb:o!) (fa:uv!) (o:Obj) (pm cd bn:wX!) (a:uv!) (vs:k_) (ns:B_),
   Ground q loose [] XP w s₀ mg mb σ.heap->YP w σ.heap->
   σ.heap.get? fa=ψ o->o.data=.func (CB_ pm)->FM_ cd->mg d.name=ψ dB_->
   σ.heap.get? a=ψ {cls:=.type "list",data:=.seq bC_}->DS_ vs->dd!<=n->σ.gens=#[]->
   WR.codeR (model l.prog w) callerA oG! oG_ σ):
  WR.WalkR q loose XP YP l.row.toRowW d []:=by
 intro w s₀ σ mg mb hb Y fa o pm cd bn dV kV ho hd bj hD lq hg args oz as lj uv ww yf hlo;obtain rfl:dV=.none:=Dflts.none hD ja;obtain rfl:kV=.none:=Dflts.noKw hD;let#[a,vs,ns,rfl,rfl,zx,hints,az]:=b2j hn lj yf;exact(ES! (call w s₀ σ mg mb fa o pm cd bn a vs ns hb Y ho (fd_plain hd) bj lq zx hints az hg));let#[rfl,h2,h3,h4]:=hq;exact#[.inl #[jJ!,jJ!,[],χ,bj_,jJ!,b2y l _,λ_=>#[oJ_,λ_ hm=>(nomatch hm)]],h2,h3,h4]
end Att
namespace L2
open PySem PySem.Spec PyProof.Rows
def b5r{l:W.OpenLaw}{n k:δ}{XP:gC_}{YP:gD!}{d:DefRec}{K:yI_}{CX:World->So}{sp:World->Sp}
  (hn:ik!)(mv:n<=sizeLine)(ja:oJ!)(hr:oE_)
  (hY:yJ!)
  (F:∀(w:wY!) (mg:o!) (fa:uv!) (h:Heap),Fu! h->A2_ h.Ns->mg d.name=ψ dB_->
   ∃fd:FuncData,yJ_/\
    ∀base:Heap,Fu! base->A2_ base.Ns->Dr! (CX w) (sp w))
  (gi:∀(w:wY!) (H:Hp) (a:uv!) (ns:B_),dd!<=n->Xe H->DU_ br_->sp w [H!] H jI_ λ_ _ _=>False)
  (uw:∀(w:wY!) (H:Hp) (s:x1!) (e:wX!) (s':x1!),CX w [] H s gE! e s'->False):
  WR.WalkR q loose XP YP l.row.toRowW d []:=by
 exact Att.a1e hn ja λw s₀ σ mg mb fa o pm cd bn a vs ns hb Y ho hd bj lq zx hints az hg=>?_;let KX:=hY w _ Y;let#[fd,G,hF]:=F w mg fa _ KX hb.T.g lq;exact b4e KX hb.T.g hb.T.b hb.T.builtins hb.T.nolimit hg zx hints (GB az mv) hr hF G (λH hO hS=>gi w H a ns az hO hS) λH e s'=>uw w H σ e s'
def b1y{l:W.OpenLaw}{n k:δ}{XP:gC_}{YP:gD!}{d:DefRec}{K:yI_}{CX:So}{sp:W.Frag->Sp}
  (hn:ik!)(mv:n<=sizeLine)(ja:oJ!)(hr:oE_)
  (hY:yJ!)
  (F:∀(w:wY!) (mg:o!) (fa:uv!) (h:Heap),Fu! h->A2_ h.Ns->mg d.name=ψ dB_->
   ∃fd:FuncData,yJ_/\
    ∀base:Heap,Fu! base->A2_ base.Ns->Dr! CX (sp br_))
  (gi:∀(K:ye!) (H:Hp) (a:uv!) (ns:B_),dd!<=n->Xe H->DU_ K->sp K [H!] H jI_ λ_ _ _=>False)
  (uw:∀(H:Hp) (s:x1!) (e:wX!) (s':x1!),CX [] H s gE! e s'->False):
  WR.WalkR q loose XP YP l.row.toRowW d []:=
 b5r (K:=K) (CX:=λ_=>CX) (sp:=λw=>sp br_) hn mv ja hr hY F (λw H a ns O h2 h3=>gi br_ H a ns O h2 h3) λ_ H s e s'=>uw H s e s'
end L2
namespace WR
open PySem
open Sem (wp)
section
variable{M:Model}{A:w5!}{E:Value->Shared->Prop}{s:x1!}{env:Env}
def execs_consR {st rest}{Q:ax_}(h:Bf! (GF! st) (λf s'=>match f with|.next=>wpR M A (execs rest env) Q E s'|f=>Q f s') E s):rs_ (execs bQ! env):=λΓ p bz hC=>by
 rw[execs_cons,KZ];exact Ct_ (λf p' s' h'=>?_) gA_;cases f<;>first|exact EZ_ h' p'|exact h'
def c2g {e pos}{Q:ax_}(h:Bf! hX_ (λv=>Q jc_) E s):rs_ (GF! dU!):=λΓ p bz hC=>by
 simp![exec_Return_some,KZ,NB,Sem.wp_pure'];exact EZ_ h _
theorem Assign_R {x pos' value pos}{Q:ax_}(h:Bf! tU! (λv σ=>wpR M A (storeName env x v) yL! E σ) E s)
  (hs:Bc! value lj_ env=pure false:=by rfl):rs_ (GF! (.Assign lk_ value pos)):=λΓ p bz hC=>by
 simp![exec_Assign_Name env x pos' value pos hs,KZ,NB,Sem.wp_bindName,Sem.wp_pure'];exact Ct_ (λv _ σ h₁=>h₁ Γ _ bz hC) yL_
def d4w {zy body j7 pos}{Q:ax_}(h:Bf! (isTrue zy env (GN! zy)) (λb ae=>if b then wpR M A gG! Q E ae else wpR M A oK! Q E ae) E s):
  wpR M A (GF! (.If zy body j7 pos)) Q E s:=λΓ p bz hC=>by
 simp![exec_If,KZ,NB];exact Ct_ (λb W5 ae dh=>?_) yL_;cases b<;>exact EZ_ dh W5
theorem BinOp_R {l op r pos}{Q:i!}(h:Bf! (GN! l) (λa σ=>wpR M A (Cz! r) (λb ae=>wpR M A (binaryOp op a b) Q E ae) E σ) E s):
  wpR M A (Cz! (.BinOp l op r pos)) Q E s:=λΓ p bz hC=>by
 simp![eval_BinOp,KZ,Sem.wp_holding,NB,Sem.wp_operate];exact Ct_ (λa W6 σ h₁=>JR M Γ _ (λb _ ae dh=>dh Γ _ bz hC) cM_ _ _ (h₁ Γ W6 bz hC)) gA_
theorem Call_R{id:Str}{pos:Pos}{rj:μ Keyword}{Q:i!}
  (h:Bf! (GN! (.Name id p)) (λf σ=>wpR M A (callWith pos f [] (C6_ yM!) (backToKw pos (keywordEach rj env))) Q E σ) E s):
  wpR M A (Cz! (.Call (Ho! id) args rj pos)) Q E s:=by
 rw[arm_eval_Call_Name'];exact bind h
end
section
variable{prog:xz!}{w:wY!}{A:w5!}{R:Result->Shared->Prop}{s:x1!}
def func_R {body env}(h:wpR b_ hY_ gG! (λf s'=>R (.ok (.ret (match f with|.ret v=>v|_=>.none))) s')
   (λe s'=>wpR b_ hY_ (leaving env e) (λ_ kx=>R cw! kx) (λe' kx=>R (.error e') kx) s') s):Bn! b_ yM_:=by
 exact gW ?_;show wpR _ hY_ (do point;match<-(gG!).onRaise (leaving env)with|.ret v=>ret v|_=>ret .none) _ _ s;exact bind (of_any (NK (bind (onRaise (mono h (λf s' h'=>?_) λ_ _ h'=>h')))));cases f<;>exact pure' h'
def callfn_R{args:Args}{o:Obj}{fd:FuncData}{body:ai_}(W7:A.depth<recursionLimit)(ho:qY_ a=ψ o)
  (jc:o.data=.func fd)(W8:fd.scope.isCoroutine=θ)(W9:fd.scope.isGenerator=θ)(li:fd.body=.stmts body)(bj:s.heap.CodeRec fd.code fd.qualname)
  (h:wpR b_ A.in1 (bindArgs fd args) (λbinds σ=>wpR b_ A.in1 (newFunctionEnv fd.scope fd.globals fd.closure binds (fd.qualname++".<locals>.") (ψ a) fd.code υ fd.builtins)
    (λenv ae=>ae.heap.NoLimit/\codeR b_ A yM_ R ae) dk! σ) dk! s):
  codeR b_ A (.call u! args) R s:=by
 exact gW ?_;show wpR _ A.in1 (callAny u! args) _ _ s;simp![callAny];exact bind (BH_ rl_);let#[c,oc,vs,tq,hc,v7,pw,hq]:=bj;simp![jc,callFunction,W8,W9,li,hc];rw[hc]at h;exact bind (m:=field bJ_ 1) (BH_ (GM v7 pw hq (HA! pure')));exact bind (mono h (λbinds σ h₁=>bind (HW! (λenv ae dh=>bind (BH_ (wpAny_enterFrame dh.1 W7 (pure' (And.intro χ dh.2))))))) λ_ _ h'=>h')
end
end WR
namespace L2
open PySem PySem.Spec PyProof.Rows WR
def fF{α:Type}{M:Model}{A:w5!}{t:bc!}{Q Q':aP!}{E:i!}{s:x1!}(h:jD_)(f:∀a s',Q a s'->Q' a s'):Bf! t Q' E s:=WR.mono h f λ_ _ z=>z
def Nk(X:Cx)(e:Expr)(t:TE):Prop:=
 ∀(Z:j_) (s:x1!) (U:St) (H:Hp) (Q:VK),m2! H s->t U H Q->CL_ dS! ad_
def Qa(X:Cx)(st:Stmt)(t:TS):Prop:=
 ∀(Z:j_) (s:x1!) (U:St) (H:Hp) (D:Ends),m2! H s->t D U H->CL_ uG_ dS_
def Hc(X:Cx)(st:ai_)(t:TS):Prop:=
 ∀(Z:j_) (s:x1!) (U:St) (H:Hp) (D:Ends),m2! H s->t D U H->CL_ uI! dS_
section
variable{X:Cx}{e:Expr}{te:TE}{st:Stmt}{rest:List Stmt}{t u:TS}{pos:Pos}
theorem PS.R(h:fk_):Qa X st t:=λZ s U H D I q=>BH_ yP!
theorem Jy.R(h:E7! Jy t):E7! Hc t:=λZ s U H D I q=>BH_ yP!
def b2u(O:Qa X st t)(h2:E7! Hc u):Hc X bQ! (Zk t u):=by
 intro Z s U H D I h;exact execs_consR (Et! fF q3!);cases f with
 |next=>let#[ac,H',I',q]:=q;exact h2 Z s1 ac H' D I' q
 |ret v=>exact q
 |brk=>exact q
 |cont=>exact q
def c3r(he:oL_):Qa X dU! (Zl te):=by intro Z s U H D I h;exact c2g (B3_ fF q6!)
def c9c{a b:ai_}{tc:TT}(hc:PT X c tc)(ha:Hc X a t)(G:Hc X b u):Qa X q7! (Zt tc t u):=by
 intro Z s U H D I h;exact d4w (fF (BH_ la!) λd s1 ⟨H1,I1,q1⟩=>?_);cases d with
 |true=>exact A6! ha D
 |false=>exact A6! G D
def a9d{i:δ}(hN:V!)(hi:Z_)(hx:aT_)(he:oL_)(hs:rd_:=by rfl)
  (hf:X.fn x=τ\/qg! x=Ad! some:=by first|exact .inl χ|exact .inr χ|assumption):Qa X re! (Wn te c6_):=by
 show"#:";exact Assign_R (fF cm_ λv s1 ⟨y,H1,I1,r1,q1⟩=>?_) hs;exact BH_ (Hx_ jI)
end
end L2
namespace WR
open PySem PySem.W
open Sem (wp)
section
variable{M:Model}{A:w5!}{E:Value->Shared->Prop}{s:x1!}{K:Frag}{env:Env}{pos:Pos}{f:wX!}{first:List Value}{Q:Value->Shared->Prop}
def eV{α:Type}{p:Pos}{k:Unit->Sem α}{Q:aP!}(h:yQ!):rs_ (standAt p>>=k):=H2! h
def a8k{t:ci_}(ht:jD_):rs_ (t>>=λr=>holding [r] point>>=λ_=>pure r):=
 bind (mono ht (λr ae hr=>bind (dP (BH_ (NK (pure' hr))))) λ_ _ x=>x)
def d3s{α:Type}{m:bc!}{Q:aP!}(h:yv!):rs_ (m.keep vs):=
 λΓ p bz hC=>by rw[Sem.wp_keep];exact EZ_ h p
def a1c{P:e3!}{args:oM!}{rj:μ (ι Str×Sem Value)}(eu:(args.any q!||rj.any (·.1.isNone))=θ)
  (hk:∀h,P h->∃k,(k=Keeper.frame\/k=Keeper.machine\/k=Keeper.boundFrame)/\Looks M h (keeperOf f) k)
  (h:Bf! (evalArgs f τ args rj) (λa σ=>P σ.heap/\wpR M A (call f (first++a.pos) a.kw) Q E σ) E s):rs_ (callWith pos f first args rj):=by
 delta callWith;exact Gz_ (Bw! h yQ_);let#[k,gq,L]:=hk _ h₁.1;simp![eu];exact bind (BH_ (L.here ?_));let W' (mk:wX!):Bf! (callMarked mk f (first++a.pos) a.kw) Q E σ:=by delta callMarked;exact d3s h₁.2
 obtain rfl|rfl|rfl:=gq<;>dsimp only<;>first|exact a8k h₁.2|(split<;>first|exact a8k h₁.2|exact a8k (W' _))
def vB{x:ci_}{rest:oM!}{Q:μ Value->Shared->ν}
  (h:Bf! x (λv σ=>wpR M A (GR_ rest) (λvs ae=>Q (v::vs) ae) E σ) E s):rs_ (GR_ jK_):=by
 rw[spliced];exact GY_ yR!;simp![GC,HD];exact bind (pure' (Gz_ (Bw! h₁ (λvs ae dh=>pure' dh))))
def uK{x:ci_}{rest:oM!}{Q:Args->Shared->ν}(h:Bf! (GR_ jK_) (λvs s'=>Q #[vs,[]] s') E s):rs_ (GD_ f jK_):=by delta evalArgs;show rs_ (spliced jK_>>=_);exact GY_ (λvs s' h'=>dP ?_);exact FN! bind (pure' (pure' h'))
def callWith_KR{e:Expr}{rest:bh_}(hk:keepIn K f=τ)(h:Bf! (GR_ jL_) (λvs σ=>K.In σ.heap/\wpR M A (call f (first++vs)) Q E σ) E s)
  (he:yR_:=by rfl)(eu:yS_:=by rfl):
  wpR M A (F0_ f first jL_ []) Q E s:=by
 rw[he]at h ⊢;exact a1c (P:=K.In) (by show(yT!||θ)=θ;rw[eu];rfl) (keeps_K hk) (uK h)
def callWith_typeR{T:String}{e:Expr}{rest:bh_}(h:Bf! (GR_ jL_) (λvs σ=>wpR M A (call aA! vs) Q E σ) E s)
  (he:yR_:=by rfl)(eu:yS_:=by rfl):
  wpR M A (F0_ aA! [] jL_ []) Q E s:=by
 rw[he]at h ⊢;let h2:Bf! (GD_ aA! yU!) (λa σ=>wpR M A (call aA! ([]++a.pos) a.kw) Q E σ) E s:=uK h;delta callWith;exact Gz_ (Bw! h2 yQ_);let hp:((yU!).any q!)=false:=by show yT!=θ;rw[eu];rfl
 simp![hp,List.any_nil,OG];exact FN! a8k h₁
end
end WR
namespace L2
open PySem PySem.Spec PyProof.Rows WR
def Uu(X:Cx)(es:bh_)(t:TA):Prop:=
 ∀(pos:Pos) (Z:j_) (s:x1!) (U:St) (H:Hp) (Q:bh!),m2! H s->t U H Q->wpR d_ X.A (GR_ kZ_) (BS_ AP) X.xe s
theorem PA.R{X:Cx}{es:bh_}{t:TA}(h:d7_):Uu X es t:=λpos Z s U H Q I q=>BH_ (h pos Z s U H Q I q)
section
variable{X:Cx}{CX:So}{k:Nat}{f C:uv!}{fd:FuncData}{ps:List Str}{sp:Sp}{du:List V}{ds:List Value}{E:XK}{x m:Str}{p pos be:Pos}{e o:Expr}{es:List Expr}{ta:TE}{t:TA}
def c3g{Z:j_}{U:St}{H:Hp}{s:x1!}{Q:VK}(F:jN!)(hr:T!)(G:de!)(hd:de_)(hx:df!)
  (I:c!)(r:c4!)(h:sp bB_ H Q E):CL_ md! ad_:=by
 let r2:Bp bB_ cs_:=Fl_ hd;let hl:(cs_).length=K!:=by rw[<-r2.length];exact Hy! h
 exact call' (code_mono sR! λr s' hq=>?_);cases r with
 |error e=>exact hx Z U H s e s' I hq
 |ok fl=>
  cases fl with
  |ret u=>exact I.after hq
  |next=>exact ye_ hq
  |brk=>exact ye_ hq
  |cont=>exact ye_ hq
def b8a(F:jN!)(hr:T!)(hg:x_)(hm:md_)(hk:fB!)(G:de!)(hd:de_)(hx:df!)
  (ha:oN_)(al:s_:=by decide)(he:z_:=by rfl)(ao:W_:=by rfl):
  Nk X ah! sR_:=by
 show"!D";exact Call_R (BH_ d9_);exact callWith_KR hk yU_ he ao;exact c3g F hr G hd hx I1 r q
end
def c0o{CX:So}{K:ye!}{mg:o!}{k:δ}{params:Arguments}{body:ai_}{kV:wX!}{an od:ak!}
  {fz:bX_}{ps:l!}{sp:Sp}(lk:mi!)(bj:fD_)(S:h5_)
  (len:h6_)
  (li:∀(A:w5!) (outer:C_) (s:x1!) (H:Hp) (vs:l_) (Q:VK) (E:XK),Ba k s8!->Bk_ H->
   ∃t,Hc ea_ body t/\t {nx:=λ_ H'=>Hz! H',rt:=Q} bC! H):
  Fq P w K mg base CX Q! f h6! ps sp:=by
 exact mi_;let hl:=BT_ len gi;let KX:Br! K.In:=e0.mod.kin.keeps λb o e=>(eb!).1;let bo:mk!:=e0.mod.nolimit.keeps λb o e=>(eb!).1;let cn:∀y∈ps.zip us,scope.names.lookup y.1=Ad! ψ\/mj_:=λ⟨n,v⟩ hy=>by
  obtain q|q:=Ev! n
  .exact .inl q
  .exact mk_
 exact Do! WR.callfn_R (Ae! ml!);exact Ae! (MU S.kind cn λenv he s1 x=>?_);subst he;exact#[ta!,WR.func_R ?_];let#[t,ht,hq]:=CX_ (hr.deeper _) gi;let I:CY! ea_:=qA S hr.hd e0 hl r x;exact WR.mono mm_ mn! λe s' hs=>Ae! hs;let ak:∀{ac:St} {H':Hp} {v:V} {u:wX!},Br_ ea_ s'->Cf v u->Q v H'->B1_ P:=
  λ{ac H' v u} J rv q=>mn_
 cases fl with
 |ret u=>
  show"!a"
 |next=>
  show"!F"
 |brk=>
  show"!5"
 |cont=>
  show"!5"
end L2
namespace DL
open PySem PySem.Spec PyProof.Rows L2
abbrev MK:=wY_ (Sum L2.Key (μ L2.Key))
abbrev AL:Int:=0xFCA86420
section
variable{P:xz!}{w:wY!}{A:w5!}{E:Value->Shared->Prop}{s:x1!}
variable (P w)in
def Iw(h:Heap):MK->Value->ν
 |none,v=>v=.none
 |some (.inl k),v=>Pb k v=τ
 |some (.inr ks),v=>∃a,v=.ref a/\IsTupleKey a2_ h ks a
variable (P w)in
nonrec def mkHash:MK->Int
 |none=>AL
 |some (.inl k)=>AQ w k
 |some (.inr ks)=>tupleKeyHash a2_ ks
def a3j(hx:Fu_ x v)(hy:Fu_ y v):x=y:=by
 obtain _|x|x:=x<;>obtain _|y|y:=y
 .rfl
 .cases yV!;obtain⟨i,t,_,e⟩|⟨i,t,_,e⟩:=bG hy<;>exact nomatch e
 .cases yV!;let#[a,e,_]:=hy;exact nomatch e
 .cases gH_;obtain⟨i,t,_,e⟩|⟨i,t,_,e⟩:=bG hx<;>exact nomatch e
 .rw[(a2_).inj v x y hx hy]
 .let#[a,rfl,_]:=hy;obtain⟨i,t,_,e⟩|⟨i,t,_,e⟩:=bG hx<;>exact nomatch e
 .cases gH_;let#[a,e,_]:=hx;exact nomatch e
 .let#[a,rfl,_]:=hx;obtain⟨i,t,_,e⟩|⟨i,t,_,e⟩:=bG hy<;>exact nomatch e
 .let#[a,rfl,hx]:=hx;let#[b,e,hy]:=hy;cases e;rw[hx.inj hy]
def iK(x:IsTupleKey a2_ h ks a):∃its,h.IsTuple a its:=by let#[o,its,n,O,h2,h3,_]:=x;exact#[its,o,O,h2,n,h3]
def b9g(hu:av_)(hx:oO!)(hy:EB_ y)(h:Fc! (x=y) s):G2_ (eqBool u v):=by
 obtain _|x|x:=x<;>obtain _|y|y:=y
 .cases gI!;cases gH_;rw[dE_]at h;exact BT_ SeqAt.EqAt.same _ h
 .cases gI!;rw[eM!]at h;obtain⟨i,t,rfl,rfl⟩|⟨i,t,rfl,rfl⟩:=bG hy
  .exact DI_ SeqAt.EqAt.none_int
  .exact DI_ SeqAt.EqAt.none_str
 .cases gI!;rw[eM!]at h;let#[a,rfl,q]:=hy;let#[its,q]:=iK q;exact SeqAt.EqAt.none_tuple q hu _ _ _ _ h
 .cases gH_;rw[eM!]at h;obtain⟨i,t,rfl,rfl⟩|⟨i,t,rfl,rfl⟩:=bG hx
  .exact DI_ SeqAt.EqAt.int_none
  .exact DI_ SeqAt.EqAt.str_none
 .exact(a2_).eqBool hx hy ?_;by_cases e:x=y
  .subst e;rw[dE_]at h ⊢;exact h
  .rw[FA cf!]at h;rw[FA e];exact h
 .rw[eM!]at h;let#[a,rfl,q]:=hy;let#[its,q]:=iK q;obtain⟨i,t,rfl,rfl⟩|⟨i,t,rfl,rfl⟩:=bG hx
  .exact Co! SeqAt.EqAt.int_tuple
  .exact Co! SeqAt.EqAt.str_tuple
 .cases gH_;rw[eM!]at h;show"#4";let#[its,q]:=iK q;exact SeqAt.EqAt.tuple_none q hu _ _ _ _ h
 .rw[eM!]at h;let#[a,rfl,q]:=hx;let#[its,q]:=iK q;obtain⟨i,t,rfl,rfl⟩|⟨i,t,rfl,rfl⟩:=bG hy
  .exact Co! SeqAt.EqAt.tuple_int
  .exact Co! SeqAt.EqAt.tuple_str
 .show"#4";let#[b,rfl,q2]:=hy;exact wpAny_eqBool_tuple hu q q2 ?_;by_cases e:x=y
  .subst e;rw[dE_]at h ⊢;exact h
  .rw[FA cf!]at h;rw[FA e];exact h
def a3i(hx:oO!)(h:Q τ s):G2_ (eqIsQuiet 8 u):=by
 obtain _|x|x:=x
 .cases gI!;rw[eqIsQuiet_byValue _ χ];exact EV h
 .rw[eqIsQuiet_byValue _ ((a2_).byValue x u hx)];exact EV h
 .show"#4";exact wpAny_eqIsQuiet_tuple q h
def zI(hu:av_)(hx:oO!)(h:∀tk,Q (mkHash P w x) {s with toks:=tk}):G2_ (pyHash u):=by
 obtain _|x|x:=x
 .cases gI!;delta pyHash;let hv:[bu_].any Value.onHeap=false:=χ;exact ES ?_;rw[cRoomFor,GK! hv];exact EV ?_;let hT:s.TypeIs .none "NoneType":=χ;exact ES yW!;rw[FC (show¬(ψ (Value.builtin "NoneType.__hash__")==ψ Value.none)=τ by rw[beq_builtin_none];exact FZ)];exact ES yW!;exact ES (wpAny_callSpecialIfBoundUnlessNone?_slot hT KG (GQ KG hT PySem.F.entry_NoneType_hash ?_ (PySem.F.args_NoneType_hash_1 _)));exact wpAny_ret_mkInt ?_;exact EV (h _)
 .exact(a2_).pyHash hx (h _)
 .show"#4";exact wpAny_pyHash_tuple hu q (h _)
end
def Kf(ks:gI_)(k:MK):ι Nat:=ks.findIdx? λx=>decide (x=k)
def Gi(ks:gI_)(k:MK)(i:δ):Bool:=decide (ks[i]?=ψ k)
def oM(h:Kf ks k=ψ j):ks[j]?=ψ k/\∀i,i<j->ks[i]?≠ψ k:=by let#[O,h2,h3]:=List.findIdx?_eq_some_iff_getElem.mp h;exact#[by rw[GH O];exact congrArg ψ (HC h2),λi hi e=>?_];let:=h3 i hi;let#[q1,q2]:=FO.mp e;rw[q2]at this;simp at this
def a3x(h:Kf ks k=υ)(i:δ):ks[i]?≠ψ k:=λe=>by
 let:=List.findIdx?_eq_none_iff.mp h k (JE e);simp at this
def a7q(ks:gI_)(k:MK):(BU! oP_).find? cP_=Kf ks k:=by
 cases h:Kf ks k with
 |none=>
  rw[LY];intro i hi z;exact a3x h i (HC z)
 |some j=>
  let#[O,h2]:=oM h;rw[List.find?_range_eq_some];exact#[by delta Gi;exact FH O,JN.mpr (iS_).1,λi hi=>?_];delta Gi;rw[FA (h2 i hi)];rfl
section
variable{P:xz!}{w:wY!}{A:w5!}{E:Value->Shared->Prop}{s:x1!}
variable (P w)in
structure Ms(h:Heap)(es:dC!)(ks:gI_):Prop where
 len:es.size=oP_
 at_:∀(i:δ) (e:DictEntry) (k:MK),es[i]?=ψ e->ks[i]?=ψ k->Fu_ k e.key/\e.hash=mkHash P w k
 nd:ks.Nodup
def Ms.get(x:jO!){i:δ}(q:es[i]?=ψ e):∃k,ks[i]?=ψ k/\Fu_ k e.key/\e.hash=mkHash P w k:=by
 let hl:i<oP_:=by rw[<-x.len];exact(HK.mp q).1
 exact#[ks[i],GH hl,x.at_ i e _ q (GH hl)]
def Ms.one(x:jO!)(O:Dr_ i=τ)(h2:Dr_ j=τ):i=j:=by let e1:=HC O;let e2:=HC h2;exact EC! x.nd qr_
abbrev plc(es:dC!)(h:Int):μ Nat:=placesWithHash es.size (λi=>es[i]?.map (·.hash)) h
def a4n{es:dC!}{ks:gI_}(x:jO!)(k:MK):(jO_).find? cP_=Kf ks k:=by
 delta plc placesWithHash;rw[List.find?_filter,<-a7q,x.len];congr 1;funext i;cases hp:Dr_ i with
 |false=>simp
 |true=>
  let e1:=HC hp;let hl:i<es.size:=by rw[x.len];exact(oR!).1
  let#[k',q1,q2,q3]:=DV! hl;rw[e1]at q1;rcases q1;simp[GG hl,q3]
def b7p(hi:i∈plc es h):i<es.size:=by let:=(LU.mp hi).1;simpa using this
def c9e:(plc es h).Nodup:=List.nodup_range.sublist List.filter_sublist
def a5i(hu:av_)(x:yY_)(hk:eN!)
  (ho:yZ!)(hd:yZ_)(h:Q gJ! s):qS! B! y0!:=by
 show"!p";generalize plc es cQ!=L at hf hl ⊢;rw[<-hf]at h;delta dictWalkPlain;exact ES (wpAny_forIn_list _ (λrest b s'=>s'=s/\b=gJ_/\rest.find? cP_=L.find? cP_/\∀i∈rest,i<es.size) _ ?_ ?_ _ _ #[rfl,rfl,rfl,hl])
 .rintro i rest b s' ⟨rfl,rfl,O,h2⟩;let ax:=h2 i EY;let he:=GG ax;let#[k',q1,q2,q3]:=x.get he;let no:k'≠k->rest.find? cP_=L.find? cP_:=λam=>by
   rw[<-O,IJ];let:Dr_ i=false:=by delta Gi;rw[q1];exact FA y0_
   rw[this]
  show"#C";rw[he];show"#-";split
  .exact ES oR_;rw[aQ!];by_cases nq:k'=k
   .subst nq;rw[dE_];let hi:Gi ks k' i=true:=by delta Gi;exact FH q1
    let:L.find? (Gi ks k')=ψ i:=by rw[<-O,IJ,hi]
    rw[this]at h;exact Dq_ jP!
   .rw[FA nq];exact Dq_ (EV #[χ,χ,no nq,rs])
  .rename_i hh;exact EV #[χ,χ,no y1!,rs]
 .rintro b s' ⟨rfl,rfl,O,_⟩;rw[<-O]at h;exact EV h
def a1o(hk:eN!)(hl:∀v∈L,∃k',EB_ k')(h:Q θ s):G2_ (tableMayTell u L):=by
 delta tableMayTell;split
 .exact EV h
 .exact Cl! a3i hk;rw[FC nofun];exact ES (wpAny_forIn_list _ (λrest r s'=>s'=s/\r=gJ_/\∀v∈rest,v∈L) _ ?_ ?_ _ _ #[χ,χ,λ_ z=>z])
  .rintro v rest r s' ⟨rfl,rfl,hr⟩;let#[k',q]:=hl v (hr v EY);exact Cl! a3i q;rw[FC nofun];exact EV #[χ,χ,λy hy=>hr y dj_]
  .rintro r s' ⟨rfl,rfl,_⟩;exact EV h
def c2m(q1:y3_)(e:k'=k):Dr_ i=true:=by delta Gi;rw[<-e];exact FH q1
def b1x{rest:b!}(hc:(bq=υ/\(i::rest).find? cP_=Kf ks k)\/∃j,bq=ψ j/\Kf ks k=ψ j/\Dr_ j=τ/\j∉i::rest)(q1:y3_)(am:¬k'=k):
  y4_\/∃j,bq=ψ j/\Kf ks k=ψ j/\Dr_ j=τ/\j∉rest:=by
 obtain⟨e,O⟩|⟨j,e,O,h4,h5⟩:=hc
 .exact .inl #[e,?_];rw[<-O,IJ];let:Dr_ i=false:=by delta Gi;rw[q1];exact FA y0_
  rw[this]
 .exact .inr #[j,e,O,h4,λz=>h5 (EW _ z)]
def pZ(q:Fu_ k v):v.isStr z=decide (k=ψ gL!):=by
 by_cases e:k=ψ gL!
 .subst e;rw[dE_];obtain⟨i,t,e,_⟩|⟨i,t,e,rfl⟩:=bG q
  .cases e
  .cases e;simp[Value.isStr]
 .rw[FA e];cases v<;>first|rfl|skip
  rename_i y t;simp![Value.isStr,FS,ne_eq];rintro rfl;exact e (a3j q (pX y t))
def c0r(x:jO!)(z:Str):(es.findIdx? λe=>e.key.isStr z)=Kf ks (ψ gL!):=by
 cases hk:Kf ks (ψ gL!)with
 |none=>
  rw[Array.findIdx?_eq_none_iff];intro e he;let#[i,hi]:=Array.mem_iff_getElem?.mp he;let#[k',q1,q2,_]:=x.get hi;rw[pZ q2];exact FA λ(e:k'=_)=>a3x hk i y5!
 |some j=>
  let#[O,h2]:=oM hk;let hj:j<es.size:=by rw[x.len];exact(iS_).1
  rw[Array.findIdx?_eq_some_iff_getElem];exact#[hj,?_,λi hi=>?_]
  .let#[k',q1,q2,_]:=DV! hj;rw[pZ q2];rw[O]at q1;rcases q1;exact FH χ
  .let#[k',q1,q2,_]:=DV! (OP hi hj);rw[pZ q2,FA (λ(e:k'=_)=>h2 i hi y5!)];decide
def d2o(h:∃T:Prop,(T->g)/\T):g:=by let#[_,f,k]:=h;exact f k
def uH(hu:av_)(x:yY_)(hk:eN!)
  (ho:yZ!)(hd:yZ_)(h:Q gJ! s):G2_ (dictFind d u cQ!):=by
 let ai:∀v∈(jO_).filterMap (λi=>es[i]?.map jR!),∃k',EB_ k':=λv hv=>by
  let#[i,_,e]:=JQ.mp hv;let#[e',e1,rfl]:=EZ.mp e;let#[k',_,q,_]:=x.get e1;exact#[k',q]
 let XA:¬(es.any λe=>e.key==u&&e.hash != mkHash P w k)=true:=λz=>by
  let#[i,hi,z]:=Array.any_eq_true.mp z;rw[FB,GS,bne_iff_ne]at z;let#[k',_,q,q3]:=DV! hi;rw[z.1]at q;exact z.2 (by rw[q3,a3j q hk])
 show"!p";let zz:(jO_).Nodup:=c9e;let ao:qS! B! y0!:=a5i hu x hk ho hd h;delta dictFind;exact GE (DJ! KJ);exact d2o ?_;apply Exists.intro;apply And.intro
 .intro tl;let lp:(∃a,u=.ref a)\/(∃z t,u=.str z t/\k=ψ gL!)\/(u=.none\/∃i t,u=.int i t):=by
   clear tl;obtain _|k|k:=k
   .exact Bb_ fc!
   .obtain⟨i,t,rfl,rfl⟩|⟨i,t,rfl,rfl⟩:=bG hk
    .exact Hh_ #[i,t,χ]
    .exact Ey_ #[i,t,χ,χ]
   .let#[a,rfl,_]:=hk;exact .inl #[a,χ]
  obtain⟨a,ea⟩|⟨z,t,ea,XB⟩|ea|⟨i,t,ea⟩:=lp
  all_goals rw[ea]
  all_goals dsimp only
  rotate_left
  exact EC_ (λjw=>?_) λ_=>?_
  .clear tl;delta foundByValue;rw[c0r x z,<-XB];cases hj:Kf ks k with
   |none=>rw[hj]at h;exact EV h
   |some j=>
    let#[O,_]:=oM hj;let ax:j<es.size:=by rw[x.len];exact(iS_).1
    let#[k',q1,q2,_]:=DV! ax;rw[O]at q1;rcases q1;show"#-";rw[GG ax,<-ea];exact ES oR_;rw[aQ!,dE_];rw[hj]at h;exact Dq_ (EV h)
  all_goals rw[<-ea]
  all_goals exact EC_ (λ_=>ao) λ_=>?_
  rotate_right
  rw[FC XA]
  all_goals exact EC_ (λ_=>ES K_) λ_=>ES (a1o hk ai ?_)
  all_goals rw[FC nofun]
  all_goals exact tl
 exact ES (wpAny_forIn_list _ (λrest b s'=>s'=s/\∃bq,b=(υ,bq)/\(∀i∈rest,i<es.size)/\rest.Nodup/\
  (y4_\/∃j,bq=ψ j/\Kf ks k=ψ j/\Dr_ j=τ/\j∉rest)) _ ?_ ?_ _ _ #[χ,υ,χ,hl,zz,.inl #[χ,hf]])
 rotate_left
 .rintro b s' ⟨rfl,bq,rfl,_,_,hc⟩;obtain⟨rfl,O⟩|⟨j,rfl,O,_⟩:=hc
  .rw[<-O]at h;exact EV h
  .rw[O]at h;exact EV h
 .rintro i rest b s' ⟨rfl,bq,rfl,h2,h3,hc⟩;let ax:=h2 i EY;let he:=GG ax;let#[k',q1,q2,q3]:=x.get he;let#[n1,n2]:=GZ.mp h3;show"#C";let stay:=λam=>b1x hc q1 am;rw[he];show"#-";split
  .exact ES oR_;rw[aQ!];by_cases nq:k'=k
   rotate_left
   .rw[FA nq];simp![GC,HD,NR];exact Dq_ (G7! nq)
   .let hi:=c2m q1 nq;rw[FH nq];obtain⟨rfl,O⟩|⟨j,e,O,h4,h5⟩:=hc
    .let hL:=O;rw[IJ,hi]at hL;dsimp only[if_true,Option.isSome_none,Bool.false_eq_true,if_false];exact ES jd!;split
     .rw[<-hL]at h;exact EV (EV h)
     .exact EV #[χ,ψ i,χ,rs,n2,.inr #[i,χ,hL.symm,hi,n1]]
    .exact Ac_ (x.one hi h4) λz=>h5 (z▸EY)
  .rename_i hh;exact G7! y1!
end
def Qc(h:Heap)(a:uv!)(es:b9_)(ep:δ):Prop:=∃o,h.get? a=ψ o/\g6_/\o.data=Fi_ es.toArray
def Qc.typeIs{s:x1!}(D:jT!):Eg! u! "dict":=by let#[o,ho,hc,_]:=D;exact#[o,ho,hc.1]
def Ws(es:b9_)(j:wY_ δ)(h:Int)(u v:wX!):μ DictEntry:=match j with
 |some j=>es.modify j λe=>{e with val:=v}
 |none=>es++[#[h,u,v]]
def AK(j:wY_ δ)(ep:δ):Nat:=match j with
 |some _=>ep
 |none=>ep+1
section
variable{P:xz!}{w:wY!}{A:w5!}{E:Value->Shared->Prop}{s:x1!}{a:uv!}{es:List DictEntry}{ep:Nat}{ks:List MK}{k:MK}{u v:wX!}
def d4b(hu:av_)(D:jT!)(x:oX!)(hk:eN!)(h:∀tk,Q ((gJ!).bind λj=>es[j]?.map (·.val)) {s with toks:=tk}):
  wpAny B! A (dictGet a u) Q E s:=by
 let#[o,ho,_,hd]:=D;delta dictGet;exact GE y7!;let h:=h tk;cases hj:Kf ks k with
 |none=>rw[hj]at h;exact EV h
 |some j=>
  rw[hj]at h;exact ES (KJ ho hd K_);rw[JV];exact h
def a0s{h:Heap}(ho:ym!)(hc:g6_)(hd:o.data=Fi_ es.toArray)(he:f es.toArray=de.toArray):
  Qc (h.update a (Obj.mapDict f)) a de ep/\Qc (h.update a (Obj.mapDictKeys f)) a de cS_:=
 #[#[_,GL _ ho (ES_ Obj.data_mapDict),hc.mapDict _,by rw[Obj.data_mapDict hd,he]],#[_,GL _ ho (ES_ Obj.data_mapDictKeys),hc.mapDictKeys _,by rw[Obj.data_mapDictKeys hd,he]]]
def d4a(hu:av_)(D:jT!)(x:oX!)(hk:eN!)(hl:y8_)
  (h:∀h' tk,Qc h' a (Ws es gJ! cQ! u v) (AK gJ! ep)->AL_ a->Q () {s with heap:=h',toks:=tk}):qS! B! y9_:=by
 let#[o,ho,hc,hd]:=D;delta dictSet;exact GE (ES (zI hu hk λtk=>?_));delta dictSetHashed;exact GE (ES y6_);cases hj:Kf ks k with
 |none=>
  rw[hj]at h;exact Dq_ (Ha! (h _ tk (za_).2 cI_))
 |some j=>
  rw[hj]at h;exact Dq_ (ES (wpAny_updateDict ho hd (NK (h _ tk (za_).1 cI_))))
def oS(hu:av_)(D:jT!)(x:oX!)(hk:eN!)(hl:y8_)
  (O:∀j e tk,Kf ks k=ψ j->es[j]?=ψ e->Q e.val {s with toks:=tk})
  (h2:∀h' tk,Kf ks k=υ->Qc h' a (es++[#[mkHash P w k,u,v]]) cS_->AL_ a->Q v {s with heap:=h',toks:=tk}):G2_ (dictSetDefault a u v):=by
 let#[o,ho,hc,hd]:=D;delta dictSetDefault;exact GE y7!;cases hj:Kf ks k with
 |none=>
  exact Dq_ (ES (Ha! (EV (h2 _ tk hj (a0s ho hc hd c_).2 cI_))))
 |some j=>
  let ax:j<aE_:=by
   let:=(FO.mp (oM hj).1).1;rw[<-x.len]at this;simpa using this
  exact DJ! KJ;rw[JV,GH ax];exact Dq_ (EV (O j _ tk hj (GH ax)))
end
def Jl:μ D->GT! L2.Key
 |[]=>ψ []
 |.int i::r=>(Jl r).map (Sum.inl i::·)
 |.str x::r=>(Jl r).map (Sum.inr x::·)
 |_::_=>υ
def Jv:D->wY_ MK
 |.non=>ψ υ
 |.int i=>AY_ (.inl (.inl i))
 |.str x=>AY_ (G6_ x)
 |.tup xs=>(Jl xs).map λks=>ψ (.inr ks)
 |_=>υ
def wX:∀{xs ys:e!} {ks:μ L2.Key},Jl xs=ψ ks->Jl ys=ψ ks->xs=ys
 |[],ys,ks,h,h'=>by
  cases h;cases ys with
  |nil=>rfl
  |cons y r=>cases y<;>simp[Jl]at h'
 |x::xs,[],ks,h,h'=>by
  cases h';cases x<;>simp[Jl]at h
 |x::xs,y::ys,ks,h,h'=>by
  cases x<;>simp![Jl]at h<;>first|(rcases h;done)|skip
  all_goals (let#[l,e1,rfl]:=EZ.mp h)
  all_goals (cases y<;>simp![Jl]at h'<;>first|(rcases h';done)|skip)
  all_goals (let#[l',e2,e3]:=EZ.mp h')
  all_goals (injection e3 with e4 e5)
  all_goals first|(injection e4;done)|skip
  all_goals (injection e4 with e4;subst e4 e5;rw[wX e1 e2])
def b0f(h:Jv x=ψ k)(h':cT!):x=y:=by
 cases x<;>simp![Jv]at h<;>first|(rcases h;done)|skip
 all_goals (cases y<;>simp![Jv]at h'<;>first|(rcases h';done)|skip)
 all_goals first
  |rfl
  |(cases h;cases h';rfl)
  |(cases h;cases h')
  |(cases h;let#[l,e1,e2]:=EZ.mp h';cases e2)
  |(cases h';let#[l,e1,e2]:=EZ.mp h;cases e2)
  |(let#[l,e1,e2]:=EZ.mp h;let#[l',e3,e4]:=EZ.mp h';cases e2;cases e4;rw[wX e1 e3])
def Dz(KF:ye!)(hb:Hp)(d:D)(u:wX!):Prop:=∃v,BE_ d v/\Cf v u
def Dz.mono{KF:ye!}(e:jU_)(h:ED! hb):ED! G':=by let#[v,O,h2]:=h;exact#[v,O.mono e,h2]
def a2i{KF:ye!}:∀{ds:e!} {vs:l_} {ks:μ L2.Key},tT! hb->Jl ds=ψ ks->vs=ks.map kV
 |[],vs,ks,r,e=>by cases cJ r;cases e;rfl
 |d::ds,vs,ks,r,e=>by
  let#[v,t,rfl,r1,r2]:=bK r;cases d<;>simp![Jl]at e<;>first|(rcases e;done)|skip
  all_goals (let#[l,e1,rfl]:=EZ.mp e;rw[a2i r2 e1])
  .cases aW r1;rfl
  .cases bB r1;rfl
def sX(I:c!)(sub:M!)(r:bK!)(e:bs_):AX! Iw s.heap k u:=by
 let#[v,r,ru]:=r;cases d<;>simp![Jv]at e<;>first|(rcases e;done)|skip
 .cases e;cases dU r;exact ru
 .cases e;cases aW r;let#[t,rfl]:=ru;exact wY _ _
 .cases e;cases bB r;let#[t,rfl]:=ru;exact pX _ _
 .let#[ks,e1,rfl]:=EZ.mp e;let#[a,vs,rfl,q,rr]:=bI r;cases ru;show"#>";rw[a2i rr e1]at rv;exact#[a,χ,o,aH_,n,O,h2,h3,by simpa using pY rv]
open Classical in
def Cu:μ ca_->D->ι D
 |[],_=>υ
 |(k,v)::r,d=>if k=d then ψ v else Cu r d
open Classical in
def Fu:μ ca_->D->D->μ ca_
 |[],d,v=>[(d,v)]
 |(k,x)::r,d,v=>if k=d then(k,v)::r else(k,x)::Fu r d v
open Classical in
def Wy:μ ca_->D->μ ca_
 |[],_=>[]
 |(k,x)::r,d=>if k=d then r else(k,x)::Wy r d
section
variable{P:xz!}{w:wY!}{KF:ye!}{hb G':Hp}
variable (P w KF hb)in
def BH(p:D×D)(e:DictEntry):Prop:=Dz KF hb p.1 e.key/\Dz KF hb p.2 e.val/\∃k,Jv p.1=ψ k/\e.hash=mkHash P w k
variable (P w KF hb)in
def Hh(h1:U_)(es:b9_):Prop:=B7! (BH P w KF hb) h1 es/\(gN_).Nodup
def Hh.mono(e:jU_)(h:gO!):uu_ Hh G' h1 es:=
 #[Paired.mapP h.1 λp q z=>#[z.1.mono e,z.2.1.mono e,z.2.2],h.2]
def Gw(h1:U_):μ MK:=h1.map λp=>(Jv p.1).getD υ
def iP:∀{l:A_} {m:μ β} {i:δ} {a:α},DC! l m->l[i]?=ψ a->∃b,m[i]?=ψ b/\F a b
 |_,_,_,_,.nil,e=>by simp at e
 |_,_,0,_,.cons r _,e=>by simp at e;subst e;exact kz!
 |_,_,i+1,a,.cons _ t,e=>by
  let#[b,O,h2]:=iP t cf!;exact#[b,kz_,h2]
def vG(h:DC! l m)(h':DC! l' m'):DC! (l++l') (m++m'):=by
 induction h with
 |nil=>exact h'
 |cons r _ ih=>exact DB_ r
def vF{l:A_}{m:μ β}(j:δ)(h:DC! l m):(∀a b,l[j]?=ψ a->m[j]?=ψ b->F a b->F (f a) (g b))->DC! (l.modify j f) (m.modify j g):=by
 induction h generalizing j with
 |nil=>intro _;simpa using Paired.nil
 |cons r t ih=>
  intro h;cases j with
  |zero=>exact .cons (h _ _ χ χ r) t
  |succ j=>exact .cons r (ih j λa b e1 e2=>h a b (AM! e1) (AM! e2))
def Hh.ents(I:c!)(sub:M!)(h:qS_ Hh hb h1 es):Hd! Ms:=by
 let#[O,h2]:=h;exact#[by simp[Gw,MC O],λi e k he hk=>?_,?_]
 .rw[JV]at he;delta Gw at hk;rw[GF]at hk;let#[p,hp,rfl]:=EZ.mp hk;let#[e',rc,q1,_,k',q2,q3]:=iP O hp;rw[he]at rc;cases rc;rw[q2];exact#[sX I sub q1 q2,q3]
 .let lu:∀{l:U_} {m:b9_},Paired (qS_ BH hb) l m->(l.map q!).Nodup->(Gw l).Nodup:=by
   intro l m hp
   induction hp with
   |nil=>intro _;exact LG
   |@cons p e l m q t ih=>
    intro nd;rw[FI,GZ]at nd;show(_::Gw l).Nodup;rw[GZ];exact#[jV!,ih nd.2];let#[p',cr,e']:=GJ.mp z;let#[_,_,k,hk,_]:=q;let#[i,hi]:=Fc_ cr;let#[_,_,_,_,k',gq,_]:=iP t hi;dsimp only at e';rw[hk,gq]at e';let:k'=k:=e';subst this;exact nd.1 (GJ.mpr #[p',cr,b0f gq hk])
  exact lu O h2
def Hh.look(h:gO!)(hd:bs_):
  (Kf eP_ k=υ/\Cu h1 d=υ/\(∀v,Fu h1 d v=h1++[(d,v)])/\d∉h1.map q!)\/∃j x e,Kf eP_ k=ψ j/\h1[j]?=ψ (d,x)/\es[j]?=ψ e/\Cu h1 d=ψ x/\Dz KF hb x e.val/\(∀v,Fu h1 d v=h1.modify j λp=>(p.1,v))/\Wy h1 d=h1.eraseIdx j:=by
 let#[O,h2]:=h
 induction O with
 |nil=>exact .inl #[χ,χ,bj_,G_]
 |@cons p e l m q t ih=>
  let#[y,z]:=p;rw[FI,GZ]at h2;let#[_,q2,k',q3,_]:=q;let q3:=q3;let ux:Gw ((y,z)::l)=k'::Gw l:=by delta Gw;rw[FI,q3];rfl
  by_cases hy:y=d
  .subst hy;rw[hd]at q3;cases q3;exact .inr #[0,z,e,?_,χ,χ,by simp[Cu],q2,λv=>by simp[Fu,List.modify],by simp[Wy]];rw[ux];delta Kf;rw[List.findIdx?_cons];simp
  .let am:k'≠k:=λe=>hy (b0f q3 (e▸hd));let gq:Kf (Gw ((y,z)::l)) k=(Kf (Gw l) k).map (·+1):=by
    rw[ux];delta Kf;rw[List.findIdx?_cons];simp[am]
   obtain⟨i1,i2,i3,i4⟩|⟨j,x,e',i1,i2,i3,i4,i5,i6,i7⟩:=ih h2.2
   .exact .inl #[zf_,by simp[Cu,hy,i2],λv=>by simp[Fu,hy,i3 v],?_];rw[FI,FD,not_or];exact#[λe=>hy e.symm,i4]
   .exact .inr #[j+1,x,e',zf_,by simpa using i2,by simpa using i3,by simp[Cu,hy,i4],i5,λv=>by simp[Fu,hy,i6 v],by simp[Wy,hy,i7]]
def Hh.put(h:gO!)(hd:bs_)(ru:ED! hb)(rv:Dz KF hb x v):uu_ Hh hb o1_ (Ws es (Kf eP_ k) cQ! u v):=by
 obtain⟨i1,i2,i3,i4⟩|⟨j,y,e',i1,i2,i3,i4,i5,i6,i7⟩:=h.look hd
 .rw[i1,i3];exact#[vG h.1 (Cs_ #[ru,rv,k,hd,χ]),?_];rw[GO,LD];exact#[h.2,G_,λa ha b G e=>?_];simp at G;subst G e;exact i4 ha
 .rw[i1,i6];exact#[vF j h.1 λa b _ _ q=>#[q.1,rv,q.2.2],?_];let:∀(l:U_) (j:δ),(l.modify j λp=>(p.1,x)).map q!=l.map q!:=by
   intro l
   induction l with
   |nil=>intro j;simp
   |cons p l ih=>
    intro j;cases j with
    |zero=>simp
    |succ j=>simp[ih j]
  rw[this];exact h.2
end
inductive Tf where
 |lst (xs:e!)|dct (h1:U_) (ep:δ)|obj (C:uv!) (fs:gj_)
nonrec def Tf.tg:Tf->δ
 |.lst _=>0|.dct _ _=>1|.obj _ _=>2
def cne{P:ν}{x y:Tf}(h:ψ x=ψ y)(e:(x.tg==y.tg)=θ):P:=by cases h;rw[JJ]at e;cases e
abbrev Mh:=Addr->wY_ Tf
nonrec def mup(M:Mh)(a:uv!)(c:Tf):Mh:=λb=>if b=a then ψ c else M b
def bL:mup M a c a=ψ c:=by delta mup;rw[S!]
def bC(h:b≠a):mup M a c b=M b:=by delta mup;rw[FC h]
nonrec def dE(a:uv!)(es:b9_)(ep:δ):HO:=.ext λh=>Qc h a es ep/\cg!=θ/\aE_<=big
def Iq(KF:ye!)(hb:Hp):μ dv!->μ cf_->Prop:=Paired λp q=>p.1=q.1/\Bc KF hb p.2 q.2
section
variable(P:xz!)(w:wY!)(KF:ye!)
def Gq(hb H:Hp)(a:uv!):Tf->ν
 |.lst xs=>∃vs,H a=ψ dn_/\Am KF hb xs vs
 |.dct h1 ep=>∃es,H a=ψ jW_/\uu_ Hh hb h1 es
 |.obj C fs=>∃dx vs,H a=ψ zi!/\Iq KF hb fs vs
structure MR(M:Mh)(hb H:Hp):Prop where
 cell:∀a c,M a=ψ c->hb a=υ/\uu_ Gq hb H a c
end
structure XM(M:Mh)(hb H:Hp)(M':Mh)(G' H':Hp):Prop where
 g:By hb G'
 sub:By G' H'
 new:∀b,G' b≠υ->hb b≠υ\/H b=υ
 keep:∀b o,H b=ψ o->M b=υ->H' b=ψ o
 dom:∀b,M' b≠υ->M b≠υ\/H b=υ
 cells:∀b,M b≠υ->M' b≠υ
def XM.refl(s:M!):ED_ M hb H:=#[fY!,s,fY_,λ_ _ h _=>h,fY_,λ_ h=>h]
def XM.free(x:jX!)(hM:M b=υ)(h:H' b=υ):H b=none:=by
 cases e:H b with
 |none=>rfl
 |some o=>rw[x.keep b o e hM]at h;cases h
section
variable{P:xz!}{w:wY!}{KF:ye!}{M M1 M2:Mh}{hb H G' H' G1 H1 G2 H2:Hp}
def Iq.mono(e:jU_)(h:jX_):Iq KF G' fs vs:=Paired.mapP h λ_ _ z=>#[z.1,z.2.mono e]
def Gq.mono(e:jU_)(h:zj!)(hH:H' a=H a):uu_ Gq G' H' a c:=by
 cases c with
 |lst xs=>let#[vs,O,h2]:=h;exact#[vs,o2_,o3!]
 |dct h1 ep=>let#[es,O,h2]:=h;exact#[es,o2_,o3!]
 |obj C fs=>let#[dx,vs,O,h2]:=h;exact#[dx,vs,o2_,o3!]
def Gq.has(h:zj!):H a≠none:=by
 cases c with
 |lst xs=>let#[vs,O,h2]:=h;rw[O];simp
 |dct h1 ep=>let#[es,O,h2]:=h;rw[O];simp
 |obj C fs=>let#[dx,vs,O,h2]:=h;rw[O];simp
def MR.has(m:bK_)(h:M c≠υ):H c≠none:=by
 cases e:M c with
 |none=>exact ξ e h
 |some q=>exact(Gi! c q).2.has
def XM.trans(a:ED_ M1 G1 H1)(b:XM M1 G1 H1 M2 G2 H2)(m:zj_):ED_ M2 G2 H2 where
 g:=a.g.trans b.g
 sub:=b.sub
 new:=λc h=>by
  obtain z|z:=b.new c h
  .exact a.new c z
  .cases hM:M c with
   |none=>exact .inr (a.free hM z)
   |some q=>exact Fv! (m.has (a.cells c o3_))
 keep:=λc o h hM=>by
  exact b.keep c o (a.keep c o h hM) ?_;cases e:M1 c with
  |none=>rfl
  |some q=>
   rcases a.dom c o4! with z|z
   .exact Ac_ hM z
   .rw[h]at z;cases z
 dom:=λc h=>by
  obtain z|z:=b.dom c h
  .exact a.dom c z
  .cases hM:M c with
   |none=>exact .inr (a.free hM z)
   |some q=>exact .inl nofun
 cells:=λc h=>b.cells c (a.cells c h)
def XM.ext(x:ir_):A3_ M:=#[x.g,x.sub,x.new,λb o h _=>x.h b o h,fY_,λ_ h=>h]
def MR.ext(m:bK_)(x:ir_):Gq_ M:=⟨λa c e=>by
 let#[O,h2]:=Gi! a c;let hn:=h2.has;exact#[?_,h2.mono x.g ?_]
 .cases q:G' a with
  |none=>rfl
  |some o=>
   rcases x.new a cC! with z|z
   .exact ξ O z
   .exact Fv! hn
 .cases q:H a with
  |none=>exact ξ q hn
  |some o=>exact x.h a o q⟩
end
structure Qb(P:xz!)(w:wY!)(KF:ye!)(own:b!)(hb H:Hp)(U:St)(ρ:Ac)(M:Mh):Prop where
 or:A9_ KF
 mr:Gu! M
 dj:∀i∈own,∀p,U[i]?=ψ bE!->M p=υ
section
variable{P:xz!}{w:wY!}{KF:ye!}{own:List Nat}{M M' M1 M2:Mh}{hb H G' H' G1 H1 G2 H2:Hp}{U:St}{ρ:Ac}
def OR.growM(h:bE_)(x:jX!)(dj:∀i∈own,∀p,U[i]?=ψ bE!->M p=υ):Cd_ OR G' H' U ρ where
 sub:=x.sub
 len:=h.len
 at_:=λi d q n=>by let#[v,O,h2]:=h.at_ i d q n;exact uQ_
 own_:=λi hi=>by
  let#[p,ds,vs,O,h2,h3,h4,h5]:=h.own_ i hi;exact#[p,ds,vs,O,h2,x.keep _ _ h3 (dj i hi p h2),?_,h5.mono x.g];cases q:G' p with
  |none=>rfl
  |some o=>
   rcases x.new p cC! with z|z
   .exact Ac_ h4 z
   .rw[h3]at z;cases z
 dis:=h.dis
def Qb.grow(s:gP_)(x:jX!)(m:zk!):uu_ Qb own G' H' U ρ M':=
 ⟨s.or.growM x s.dj,m,λi hi p e=>by
  cases q:M' p with
  |none=>rfl
  |some c=>
   let#[p',ds,vs,O,h2,h3,h4,h5]:=DH! i hi;rw[e]at h2;cases h2;rcases x.dom p cC! with z|z
   .exact Ac_ (Ho_ s.dj) z
   .rw[h3]at z;cases z⟩
end
abbrev WE:=Ac->Mh->o6!->ν
abbrev WA:=Ac->Mh->zk_->ν
abbrev WT:=Ac->Mh->(Bool->Mh->ν)->ν
section
variable(P:xz!)(w:wY!)(KF:ye!)(own:List Nat)
inductive Yb(f:WE)(U:St)(H:Hp)(Q:VK):Prop
 |mk (hb:Hp) (ρ:Ac) (M:Mh) (R:x!) (st:gP_) (e:gQ_) (k:∀d M' v G' H',R d M'->A3_ M'->Gq_ M'->Bl! KF->Q v H'):Yb f U H Q
inductive BP(f:WA)(U:St)(H:Hp)(Q:bh!):Prop
 |mk (hb:Hp) (ρ:Ac) (M:Mh) (R:jY!) (st:gP_) (e:gQ_) (k:∀d M' v G' H',R d M'->A3_ M'->Gq_ M'->Am KF G' d v->Q v H'):BP f U H Q
inductive Vz(f:WT)(U:St)(H:Hp)(Q:c3_):Prop
 |mk (hb:Hp) (ρ:Ac) (M:Mh) (R:Bool->Mh->ν) (st:gP_) (e:gQ_) (k:∀d M' G' H',R d M'->A3_ M'->Gq_ M'->Q d H'):Vz f U H Q
end
structure ME(X:Cx)(own:b!)(e:Expr)(f:WE):Prop where
 ok:PE X e (BR_ Yb f)
structure MA(X:Cx)(own:b!)(es:bh_)(f:WA):Prop where
 ok:PA X es (BR_ BP f)
structure MT(X:Cx)(own:b!)(e:Expr)(f:WT):Prop where
 ok:PT X e zl!
structure MW(X:Cx)(own:b!)(e:Expr)(f:WT):Prop where
 ok:PW X e zl!
nonrec def wl(f:g_):WE:=λρ M R=>match f ρ with|some d=>R d M|none=>False
def Iz(f:Q_):WT:=λρ M R=>match f ρ with|some d=>R d M|none=>False
section
variable{X:Cx}{own:List Nat}{e a b c:Expr}{es rest:List Expr}{pos:Pos}{f fa fb fc:WE}{fs:WA}{ft fu:WT}{g:Ac->Option D}{gs:Ac->Option (List D)}{gt:Ac->Option Bool}
def gL(h:hp_)(hw:∀U hb H Q ρ M R,Gt! H->f ρ M R->(Bc_ Bc)->t U H Q):Bd! e f:=
 zl_
def c7z(h:d7_)(hw:∀U hb H Q ρ M R,Gt! H->F1! fs->(Bc_ Am)->t U H Q):MA X own es fs:=
 (BD! p)
def b0b(h:PT X e t)(hw:zm!):BJ_ MT e:=
 zl_
def c7v(h:PW X e t)(hw:zm!):BJ_ MW e:=
 (BD! wh)
def c2k(h:wl g ρ M R):∃d,g ρ=ψ d/\R d M:=by
 delta wl at h;show"!u"
 .exact zm_
 .exact h.elim
def b5p(h:Iz gt ρ M R):∃d,gt ρ=ψ d/\R d M:=by
 delta Iz at h;show"!u"
 .exact zm_
 .exact h.elim
def aL(h:vv_ e g):Bd! e (wl g):=gL h.ok λU hb H Q ρ M R st e' k=>by
 let#[d,e1,e2]:=c2k e';exact#[hb,ρ,d,st.or,e1,λv G' H' x r=>k d M v G' H' e2 (.ext x) o7_ r]
def nO(h:C6! e gt):MT X own e (Iz gt):=b0b h.ok λU hb H Q ρ M R st e' k=>by
 let#[d,e1,e2]:=b5p e';exact#[hb,ρ,d,st.or,e1,λG' H' x=>k d M G' H' e2 (.ext x) o7_]
def Av:WA:=λ_ M R=>R [] M
def Af(f:WE)(fs:WA):WA:=λρ M R=>f ρ M λd M1=>fs ρ M1 λds M2=>R cy! M2
def bV:MA X own [] Av:=c7z eB λU hb H Q ρ M R st e k=>k [] M [] hb H e jY_ st.mr Am.nil
def aR(h:a1_)(hs:jZ!)(ai:z_:=by rfl):MA X own J_ (Af f fs):=
 c7z vc_ λU hb H Q ρ M R st e' k=>⟨hb,ρ,M,_,st,e',λd M1 v G1 H1 r1 x1 m1 q1=>⟨G1,ρ,M1,_,DV_ x1,r1,λds M2 vs G2 H2 r2 x2 m2 q2=>
  k _ M2 _ G2 H2 r2 bt! m2 zn!⟩⟩
def Wh(P:xz!)(w:wY!)(KF:ye!)(r:R2)(g:jZ_):Prop:=∀{x y:V} {dx dy d:D} {M:Mh} {hb H:Hp} {Q:VK},By hb H->Gu! M->BE_ dx x->BE_ dy y->g M dx dy=ψ d->iw_->Eu! r
def Gu.m{KF:ye!}{g:eq!}(h:Gu KF r g):uu_ Wh r o8!:=λs _ rx ry e k=>h s rx ry e k
nonrec def w2(g:jZ_)(fa fb:WE):WE:=λρ M R=>fa ρ M λx M1=>fb ρ M1 λy M2=>match g M2 x y with|some d=>R d M2|none=>False
protected def c2n(hg:eQ!)(st:zn_)(e:w2 gm fa fb ρ M R)
  (k:∀d M' v G' H',R d M'->A3_ M'->qS_ MR M' G' H'->Bl! X.K->Q v H'):Yd r (BR_ Yb fa) (BR_ Yb fb) U H Q:=
 ⟨hb,ρ,M,_,st,e,λx M1 u G1 H1 r1 x1 m1 q1=>⟨G1,ρ,M1,_,DV_ x1,r1,λy M2 v G2 H2 r2 x2 m2 q2=>by
  let r2:=r2;split at r2
  .show"!T"
  .exact r2.elim⟩⟩
def a3n(ho:fr_)(hg:eQ!)(ha:bd_)(G:dG_):Bd! fs! gR!:=
 gL u7! λU hb H Q ρ M R st e k=>F1_ e k
def a7g(ho:bA!)(hg:eQ!)(ha:bd_)(G:dG_)(hm:c5!):Bd! c5_ gR!:=
 gL u5_ λU hb H Q ρ M R st e k=>F1_ e k
def qP(hr:Uq X r)(hg:eQ!)(ha:bd_)(G:dG_)(hs:Ny b):Bd! mE_ gR!:=
 gL u6! λU hb H Q ρ M R st e k=>F1_ e k
nonrec def wT(f:WE):WT:=λρ M R=>f ρ M λd M1=>match d with|.bl b=>R b M1|_=>False
def jX(ho:bA!)(hg:eQ!)(ha:bd_)(G:dG_)(hm:c5!):MT X own c5_ (wT gR!):=
 b0b u6_ λU hb H Q ρ M R st e k=>F1_ e λd M' v G' H' r' x' m' q'=>by
  cases d<;>first|exact r'.elim|skip
  obtain rfl:=cP q';exact zq!
def pR(h:a1_)(he:hq!:=by intro _;rfl):MT X own e (wT f):=
 b0b (yM h.ok he) λU hb H Q ρ M R st e k=>⟨hb,ρ,M,_,st,e,λd M' v G' H' r' x' m' q'=>by
  cases d<;>first|exact r'.elim|skip
  obtain rfl:=cP q';exact zq!⟩
def Kk(ft fu:WT):WT:=λρ M R=>ft ρ M λb M1=>if b then fu ρ M1 R else R θ M1
def Zd(ft fu:WT):WT:=λρ M R=>ft ρ M λb M1=>if b then R τ M1 else fu ρ M1 R
def Wk(ft:WT):WT:=λρ M R=>ft ρ M λb M1=>R (!b) M1
def zD(h:gS!):BJ_ MW k6!:=#[yL h.ok]
def b8x(h:gS!):BJ_ MW k6_:=u8!
def zE(ha:gS!)(G:MW X own ff! fu):MW X own ff_ (Kk ft fu):=
 c7v u8_ λU hb H Q ρ M R st e k=>⟨hb,ρ,M,_,st,e,λx M1 G1 H1 r1 x1 m1=>by
  cases x with
  |true=>exact kN zq_
  |false=>exact kO zr!⟩
def b8y(ha:gS!)(G:MW X own fg_ fu):MW X own fh! (Zd ft fu):=
 c7v u9_ λU hb H Q ρ M R st e k=>⟨hb,ρ,M,_,st,e,λx M1 G1 H1 r1 x1 m1=>by
  cases x with
  |false=>exact kO zq_
  |true=>exact kN zr!⟩
def b9a(h:BJ_ MW e):BJ_ MT e:=#[h.ok.pt]
def d0g(h:gS!):MT X own fh_ (Wk ft):=
 b0b (b7k h.ok) λU hb H Q ρ M R st e k=>#[hb,ρ,M,_,st,e,λx M1 G1 H1 r1 x1 m1=>k _ M1 G1 H1 r1 x1 m1]
def Pm(fs:WA):WE:=λρ M R=>fs ρ M λds M1=>e_<=1000/\R bm_ M1
def d0n(h:jZ!):Bd! d8! (Pm fs):=
 gL iC_ λU hb H Q ρ M R st e k=>⟨hb,ρ,M,_,st,e,λds M1 vs G1 H1 r1 x1 m1 q1=>⟨by rw[<-aE q1];exact iG r1.1,λp hp=>
  k _ M1 _ _ _ r1.2 (CC! (.ext zs!)) (m1.ext zs!) (bW (x1.sub.free hp) q1)⟩⟩
end
section
variable{P:xz!}{w:wY!}{KF:ye!}{M:Mh}{hb H:Hp}{p a:uv!}{o:HO}{c c0:Tf}
def MR.nocell(m:bK_)(h:cz_):M p=none:=by
 cases e:M p with
 |none=>rfl
 |some q=>exact ξ h (m.has o4!)
def XM.laid(s:M!)(hp:cz_):XM M hb H (CC_ c) hb fX_:=by
 show"#?";exact#[fY!,λb u e=>by rw[aH (ne (s b u e))];exact s b u e,dt_,λb u e _=>by rw[aH (ne e)];exact e,bo!,bo!]
 .by_cases G:b=p
  .subst G;exact .inr hp
  .rw[bC G]at h;exact .inl h
 .by_cases G:b=p
  .subst G;rw[bL];simp
  .rw[bC G];exact h
def MR.laid(m:bK_)(hp:cz_)(s:M!)(h:uu_ Gq hb fX_ p c):uu_ MR (CC_ c) hb fX_:=⟨λb q e=>by
 by_cases G:b=p
 .show"#L";exact#[s.free hp,h]
 .rw[bC G]at e;let#[O,h2]:=Gi! b q;exact zs_⟩
def XM.write(m:bK_)(s:M!)(ha:M a=ψ c0):ED_ (mup M a c) hb bf!:=by
 let hG:=(m.cell a c0 ha).1;exact#[fY!,λb u e=>by rw[aH (aU e hG)];exact s b u e,dt_,λb u e G=>?_,bo!,bo!]
 .let:b≠a:=λz=>by subst z;rw[ha]at G;rcases G
  rw[aH this];exact e
 .show"#B"
  .subst G;exact .inl (by rw[ha];simp)
  .rw[bC G]at h;exact .inl h
 .show"#B"
  .subst G;rw[bL];simp
  .rw[bC G];exact h
def MR.write(m:bK_)(ha:M a=ψ c0)(h:uu_ Gq hb bf! a c):uu_ MR (mup M a c) hb bf!:=⟨λb q e=>by
 show"#B"
 .show"#L";exact#[(m.cell _ c0 ha).1,h]
 .rw[bC G]at e;let#[O,h2]:=Gi! b q;exact zs_⟩
end
open Classical in
def Tv(h1:U_)(d:D)(ep:δ):Nat:=if(cV_).isSome then ep else ep+1
def DZ(KF:ye!)(hb:Hp):ι D->wY_ Value->ν
 |some d,some u=>ED! hb
 |none,none=>True
 |_,_=>False
section
variable{X:Cx}{Z:List (Addr×Obj)}{U:St}{hb H:Hp}{s:x1!}{M:Mh}{a:uv!}{h1:List (D×D)}{ep:Nat}{A:w5!}{E:Value->Shared->Prop}{d x:D}{k:MK}{u v:wX!}
def eK(I:c!)(m:bL!)(sub:M!)(e:cc!):∃es,H a=ψ jW_/\qS_ Hh hb h1 es/\Br! Qc a es ep/\cg!=θ/\aE_<=big/\Hd! Ms:=by let#[es,O,h2]:=(Gi! a _).2;let#[#[h3,h4,h5],_]:=(show Dv X.prog X.w H s.heap a jW_ from I.hok a _ O);exact#[es,O,h2,h3,h4,h5,h2.ents I sub]
def b1i(I:c!)(e:H a=ψ jW_)(D':Qc h' a de jd)(hs:tT_)(hn:cg!=θ)(hl:de.length<=big):m2! (HV! (dE a de jd)) {s with heap:=h',toks:=t'}:=by exact c7d I sv_ hs (by let#[o,h,_]:=D';exact pc!) #[#[D',hn,hl],let⟨o,h,_⟩:=D';pc!,zu_];let#[#[o,z1,z2,z3],z4]:=z;exact zv!
def a0t(hu:av_)(I:c!)(m:bL!)(sub:M!)(e:cc!)(r:bK!)(hk:bs_)
  (h:∀o s',m2! H s'->DZ X.K hb cV_ o->Q o s'):GX! (dictGet a u):=by
 let#[es,O,h2,h3,h4,h5,h6]:=BI! I;exact F2! d4b λtk=>h _ _ bA_ ?_;obtain⟨i1,i2,i3,i4⟩|⟨j,y,e',i1,i2,i3,i4,i5,i6,i7⟩:=h2.look hk
 .rw[i1,i2];exact d6!
 .rw[i1,i4];show DZ X.K hb (ψ y) (es[j]?.map (·.val));rw[i3];exact i5
def tV:∀(l:U_) (d x:D),(Fu l d x).length<=bt_+1
 |[],_,_=>by simp[Fu]
 |(y,z)::l,d,x=>by
  delta Fu;split
  .simp
  .let:=tV l d x;dsimp only[List.length_cons];omega
def d1v(hu:av_)(I:c!)(m:bL!)(sub:M!)(e:cc!)(r:bK!)(hk:bs_)(rv:j3_)(hl:cW!)
  (h:zw!):qS! d_ y9_:=by
 let#[es,O,h2,h3,h4,h5,h6]:=BI! I;exact F2! d4a j4_ λh' tk D' hs=>?_;let j8:=h2.put hk r rv;let XC:AK (Kf eP_ k) ep=Tv h1 d ep:=by
  delta Tv;obtain⟨i1,i2,i3,i4⟩|⟨j,y,e',i1,i2,i3,i4,i5,i6,i7⟩:=h2.look hk
  .rw[i1,i2];rfl
  .rw[i1,i4];rfl
 rw[XC]at D';let wu:=MC j8.1;let:=tV h1 d x;exact h _ _ (b1i I O D' hs h4 a!) #[_,aV,j8]
def a7w(hu:eS!)(I:c!)(m:bL!)(sub:M!)(e:cc!)(r:bK!)(hk:bs_)(hx:Cu h1 d=ψ x)
  (h:∀o s',m2! H s'->EE! x->Q o s'):GX! (getItem u! u):=by
 let#[es,O,h2,h3,h4,h5,h6]:=BI! I;let hT:=gV!;delta getItem;exact C8_ (HB hT PySem.slot_dict_getitem (GQ PySem.slot_dict_getitem hT PySem.entry_dict_getitem ?_ (PySem.args_dict_getitem _ _)));show A4_ d_ j5!;exact ES j5_;rw[hx]at ho;cases o with
 |none=>exact ho.elim
 |some o=>exact EV #[o,χ,EV (h o s' I' ho)]
def rN(hu:eS!)(I:c!)(m:bL!)(sub:M!)(e:cc!)(r:bK!)(hk:bs_)
  (h:∀s',m2! H s'->Q (cV_).isSome s'):GX! (contains u! u):=by
 let#[es,O,h2,h3,h4,h5,h6]:=BI! I;let hT:=gV!;delta contains;exact GE (ES (MJ hT MN.lookup ?_));rw[GK! beq_builtin_none];exact ES (wpAny_callSpecialUnlessNone?_slot hT MN (GQ MN hT PySem.entry_dict_contains ?_ (PySem.args_dict_contains _ _)));show A4_ d_ j5!;exact ES j5_;cases o with
 |none=>
  let hn:Cu h1 d=none:=by
   cases q:Cu h1 d with
   |none=>rfl
   |some y=>rw[q]at ho;exact ho.elim
  let h:=h s' I';rw[hn]at h;exact ES (wpAny_pendingKey_other h4 (EV zx_))
 |some o=>
  let hn:(cV_).isSome=true:=by
   cases q:Cu h1 d with
   |none=>rw[q]at ho;exact ho.elim
   |some y=>rfl
  let h:=h s' I';rw[hn]at h;exact EV zx_
def a7v(hu:eS!)(I:c!)(m:bL!)(sub:M!)(e:cc!)(r:bK!)(hk:bs_)(rv:j3_)(hl:cW!)
  (h:zw!):GX! (setItem u! u v):=by
 let#[es,O,h2,h3,h4,h5,h6]:=BI! I;let hT:=gV!;delta setItem;exact C8_ (HB hT PySem.slot_dict_setitem (GQ PySem.slot_dict_setitem hT PySem.entry_dict_setitem ?_ (PySem.args_dict_setitem _ _ _)));exact Cl! NY hT;show A4_ d_ (dictSet a u v>>=_);exact ES (d1v hu I m sub e r hk rv hl λde s' I' c'=>EV #[.none,χ,EV (h de s' I' c')])
def c7f(hu:eS!)(I:c!)(m:bL!)(sub:M!)(e:cc!)(r:bK!)(hk:bs_)
  (h:∀o s',m2! H s'->EE! ((cV_).getD .non)->Q o s'):GX! (call zz! [H!,u]):=by
 let#[es,O,h2,h3,h4,h5,h6]:=BI! I;exact CR! (PySem.F.args_dict_get_2 _ _);show A4_ d_ j5!;exact ES j5_;cases q:Cu h1 d with
 |none=>
  rw[q]at ho;cases o with
  |none=>
   let h:=h .none s' I';rw[q]at h;exact DW! #[.none,χ,h #[V.non,Bc.non,χ]]
  |some o=>exact ho.elim
 |some y=>
  rw[q]at ho;cases o with
  |none=>exact ho.elim
  |some o=>
   let h:=h o s' I';rw[q]at h;exact EV zz_
def c7e(hu:eS!)(I:c!)(m:bL!)(sub:M!)(e:cc!)(r:bK!)(hk:bs_)(rv:j3_)
  (h:∀o s',m2! H s'->EE! ((cV_).getD x)->Q o s'):GX! (call zz! [H!,u,v]):=by
 let#[es,O,h2,h3,h4,h5,h6]:=BI! I;exact CR! (PySem.F.args_dict_get_3 _ _ _);show A4_ d_ j5!;exact ES j5_;cases q:Cu h1 d with
 |none=>
  rw[q]at ho;cases o with
  |none=>
   let h:=h v s' I';rw[q]at h;exact DW! #[v,χ,h rv]
  |some o=>exact ho.elim
 |some y=>
  rw[q]at ho;cases o with
  |none=>exact ho.elim
  |some o=>
   let h:=h o s' I';rw[q]at h;exact EV zz_
def vS(hu:eS!)(I:c!)(m:bL!)(sub:M!)(e:cc!)(r:bK!)(hk:bs_)(rv:j3_)(hl:cW!)
  (hs:∀y o s',Cu h1 d=ψ y->m2! H s'->EE! y->Q o s')
  (hn:Cu h1 d=υ->∀de s',GI_ zA_->qS_ Gq hb zA_ a (.dct o1_ cS_)->Q v s'):GX! (call (.builtin "dict.setdefault") [H!,u,v]):=by
 let#[es,O,h2,h3,h4,h5,h6]:=BI! I;let az:=MC h2.1;let hT:=gV!;exact GQ OV hT PySem.F.entry_dict_setdefault ?_ (PySem.F.args_dict_setdefault_3 _ _ _);delta Builtin.«dict.setdefault» Builtin.Dict.keyAndDefault;exact ES zB!;dsimp only;rw[GK! h4];obtain⟨i1,i2,i3,i4⟩|⟨j,y,e',i1,i2,i3,i4,i5,i6,i7⟩:=h2.look hk
 .exact ES (oS hu h3 h6 j2! j4_ (λj e tk q=>by rw[i1]at q;rcases q) λh' tk _ D' fk=>EV #[_,χ,hn i2 _ _ (b1i I O D' fk h4 ?_) #[_,aV,?_]])
  .rw[FX,IG];omega
  .let:=h2.put hk r rv;rw[i1]at this;exact this
 .exact ES (F2! oS j4_ (λj' e tk q q2=>by
   rw[i1]at q;rcases q;rw[i3]at q2;rcases q2;exact EV #[_,χ,hs y _ _ i4 bA_ i5]) λh' tk q=>by rw[i1]at q;rcases q)
end
section
variable{X:Cx}{Z:List (Addr×Obj)}{U:St}{H:Hp}{s:x1!}
def a2k(I:c!)(qa:iW!)(qb:Fe X.K H b ws)(rd:gg_)(re:gh!)(hu:av_)
  (h:iY!):BF! u! ec! (!Go ds es):=by
 let#[us,rv,p1,_]:=A1! qa;let#[bi,bf,p2,_]:=A1! qb;let O:=aE rd;let h2:=aE re;let h3:=c7!;let h4:=iY_;let z:=SeqAt.RcNeAt.tuples p1 p2 hu iZ!;let e:wt!=Go ds es:=by
  show"#="
  .rw[hl,Nat.min_self,<-hl,iZ_,hl];simp
  .rw[i0!];let:(e_==aE_)=false:=by simpa using hl
   rw[this,LH]
 rw[e]at z;exact z
def a6e(I:c!)(qa:nQ_)(qb:Ef_ b ws)(rd:gg_)(re:gh!)(hu:av_)
  (h:iY!):BF! u! ec! (!Go ds es):=by
 show"!M";let h4:=iY_;by_cases hl:e_=aE_
 .let z:=B3! SeqAt.RcNeAt.lists no_ iZ!;rw[FG,<-h3,<-O,iZ_]at z;exact z
 .rw[i0!];exact B3! SeqAt.RcNeAt.lists_lengths wu_
def b7a(I:c!)(n:cH_)(n':eA!)(hu:av_)(r:du_)(r':gi_)(ru:aU!)(bu:gj!)(hT:∀xs ys,d=.tup xs->d'=.tup ys->Hj! u)(hL:∀xs ys,d=.lst xs->d'=.lst ys->Hj! u):Hj! u:=by
 show"!q"
 all_goals first|exact CA_ hT|exact CA_ hL|(delta Dl;(try simp![Bool.not_false,NA]);with_reducible first|exact .none_none|exact .same _|exact .none_bool _|exact .none_int _ _|exact .none_str _ _|exact .none_tuple ‹_› hu|exact .none_list ‹_› hu|exact .bool_none _|exact FW_ _|exact Fo_ _|exact Fp! _|exact .bool_tuple _ ‹_› hu|exact .bool_list _ ‹_› hu|exact .int_none _ _|exact Fp_ _|exact EW_ _|exact EX! _|exact FX! _ ‹_› hu|exact .int_list _ _ ‹_› hu|exact .str_none _ _|exact Fq! _|exact EX_ _|exact EY! _|exact FX_ _ ‹_› hu|exact .str_list _ _ ‹_› hu|exact .tuple_none ‹_› hu|exact .tuple_bool _ ‹_› hu|exact FY! _ ‹_› hu|exact FY_ _ ‹_› hu|exact .tuple_list ‹_› ‹_› hu|exact .list_none ‹_› hu|exact .list_bool _ ‹_› hu|exact .list_int _ _ ‹_› hu|exact .list_str _ _ ‹_› hu|exact .list_tuple ‹_› ‹_› hu)
def b7b(I:c!)(d d':D)(n:cH_)(n':eA!)(hu:wx!)(r:du_)(r':gi_)(ru:aU!)(bu:gj!):Hj! u:=
 b7a I n n' a! r r' ru bu (λxs ys e e'=>by
  subst e e';let#[a,vs,rfl,q,rr]:=bI r;let#[b,ws,rfl,q',d8]:=bI r';subst ru;subst bu;delta Bm at n n';delta dep at hu;delta Dl;exact C0! a2k λus bi rv bf=>AN! I) (λxs ys e e'=>by
  subst e e';let#[a,vs,rfl,q,rr]:=bM r;let#[b,ws,rfl,q',d8]:=bM r';subst ru;subst bu;delta Bm at n n';delta dep at hu;delta Dl;exact C0! a6e λus bi rv bf=>AN! I)
def AA(KF:ye!):R2:=λx y H Q=>∃dx dy,AP! dx x/\AP! dy y/\Bm dx=τ/\Bm dy=τ/\dep dx<=40/\Cr_ (!Dl dx dy)
def jM(hu:aF!):Fw X rV_ (AA X.K):=by intro Z s U H x y v u Q I rx ry h;let#[dx,dy,r1,r2,n1,n2,hd,q]:=h;exact Ci_ b7b
def Ea:D->D->ι D:=λx y=>if Bm x&&Bm y&&decide (dep x<=40)then rJ! (!Dl x y) else υ
protected def jU{KF:ye!}:Fa_ AA Ea:=by
 show"!-";delta Ea at e;show"!6"
 .show"#N";rcases e;exact wy!
 .rcases e
open Classical in
nonrec def eqW(KF:ye!)(H:Hp)(x:D)(u:wX!):Bool:=decide (∃d,ED! H/\Bm d=τ/\Dl d x=τ)
open Classical in
def c0w(I:c!)(r:Dz X.K H d u)(n:cH_):eqW X.K H x u=Dl d x:=by
 delta eqW;cases h:Dl d x with
 |true=>exact FH #[d,r,n,h]
 |false=>
  exact FA ?_;rintro⟨d',⟨v',r',bu⟩,n',h'⟩;let#[v,r,ru]:=r;let:=ru.inj bu;subst this;rw[yJ I d d' v n n' r r']at h;rw[h]at h';exact AN_ h'
def pB(I:c!):∀{ds:e!} {vs:l_} {us:k_},Dp_ X.K H->Bp vs us->Cm ds=τ->us.any (eqW X.K H x)=ds.any λd=>Dl d x
 |[],vs,us,r,rv,_=>by obtain rfl:=cJ r;cases rv;rfl
 |d::ds,vs,us,r,rv,n=>by
  let#[v,t,rfl,r1,r2]:=bK r;delta Cm at n;rw[FB]at n;cases rv with
  |cons q8 ui=>rw[IP,IP,c0w I #[v,r1,q8] n.1,pB I r2 ui n.2]
def nP(I:c!)(rx:Bc X.K H x y)(ry:Cf y v)(nx:Bm x=τ):∀{ds:e!} {vs:l_} {us:k_},Dp_ X.K H->Bp vs us->Cm ds=τ->A.units+Du ds<cLine->∀u∈us,AY! v (eqW X.K H x u)
 |[],vs,us,r,rv,_,_=>λu hu=>by obtain rfl:=cJ r;cases rv;exact(FU hu).elim
 |d::ds,vs,us,r,rv,n,hd=>λu hu=>by
  let#[z,t,rfl,r1,r2]:=bK r;delta Cm at n;rw[FB]at n;delta Du at hd;cases rv with
  |cons q8 ui=>
   obtain rfl|hu:=FD.mp hu
   .rw[c0w I #[z,r1,q8] n.1];exact c0z I d x A z y _ _ n.1 nx a! r1 rx q8 ry
   .exact nP I rx ry nx r2 ui n.2 a! u hu
def Yh(KF:ye!)(neg:Bool):R2:=λx y H Q=>∃p ys dx ds,y=.ref p/\zB_/\AP! dx x/\BF_ ds ys/\Bm dx=τ/\Cm ds=τ/\Du ds<=40/\Q (.bl (B8! dx)) H
def c9t(hu:aF!):Gf_ Yh:=by
 intro Z s U H x y v u Q I rx ry h;let#[p,ys,dx,ds,rfl,hq,r1,r2,n1,n2,hd,q]:=h;subst ry;obtain hq|hq:=hq
 .show"!_";exact EQ! eT! j7_;rw[j8!,j8_];exact q
 .show"#!";exact Gg! eT! j7_;rw[j8!,j8_];exact q
def b3e(hu:aF!):Fw X pd_ (Yh X.K τ):=by
 intro Z s U H x y v u Q I rx ry h;let#[p,ys,dx,ds,rfl,hq,r1,r2,n1,n2,hd,q]:=h;subst ry;obtain hq|hq:=hq
 .show"!_";exact SeqAt.notIn_listAt eT! pl.isList j7_ eg_;rw[j8!,j8_];exact q
 .show"#!";exact SeqAt.notIn_tupleAt eT! pl j7_ eg_;rw[j8!,j8_];exact q
def Yi(P:xz!)(w:wY!)(KF:ye!)(neg:Bool):R2:=λx y H Q=>∃(M:Mh) (hb:Hp) (a:uv!) (h1:U_) (ep:δ) (d:D) (k:MK),y=.ref a/\By hb H/\Gu! M/\M a=ψ gT_/\BE_ d x/\Jv d=ψ k/\Cr_ (GT_ cV_ cV_)
def c9u(hu:aF!):HF_ Yi:=by intro Z s U H x y v u Q I rx ry h;let#[M,hb,a,h1,ep,d,k,rfl,sub,m,e,r,hk,q]:=h;subst ry;exact ES zC!
def b3f(hu:aF!):Fw X pd_ (qS_ Yi τ):=by intro Z s U H x y v u Q I rx ry h;let#[M,hb,a,h1,ep,d,k,rfl,sub,m,e,r,hk,q]:=h;subst ry;exact ES zC!
def Vd(P:xz!)(w:wY!)(KF:ye!)(neg:Bool):R2:=λx y H Q=>Yh KF neg x y H Q\/uu_ Yi neg x y H Q
def b8d(hu:aF!):HF_ Vd:=(c9t hu).or (c9u hu)
def b3g(hu:aF!):Fw X pd_ (qS_ Vd τ):=(b3e hu).or (b3f hu)
def Mo(M:Mh):D->wY_ aB_
 |.lst xs=>ψ xs
 |.tup xs=>ψ xs
 |.fn a=>match M a with|some (.lst xs)=>ψ xs|_=>υ
 |_=>υ
def a8v{KF:ye!}(sub:M!)(m:bK_)(r:b2!)(e:Mo M d=ψ xs):∃p ys,v=.ref p/\zB_/\Am KF hb xs ys:=by
 cases d<;>first|(rcases e;done)|skip
 .rcases e;show"!f";exact#[p,vs,χ,.inr i1_,rr]
 .rcases e;let#[p,vs,rfl,q,rr]:=bM r;exact#[p,vs,χ,.inl (sub.seq q),rr]
 .rename_i a;obtain rfl:=eX r;dsimp only[Mo]at e;show"!6"
  .rename_i ys hy;rcases e;let#[_,vs,O,h2]:=m.cell a _ hy;exact#[a,vs,χ,.inl (Er.of O),h2]
  .rcases e
def Sb(neg:Bool)(M:Mh)(x y:D):ι D:=match y with
 |.fn a=>match M a with
  |some (.dct h1 _)=>(Jv x).bind λ_=>rJ! (if neg then !(Cu h1 x).isSome else(Cu h1 x).isSome)
  |_=>inS M x y
 |_=>inS M x y
where inS (M:Mh) (x y:D):ι D:=(Mo M y).bind λds=>if Bm x&&Cm ds&&decide (Du ds<=40)then ψ wD_ else υ
protected def a6q{KF:ye!}:uu_ Wh (Vd P w KF neg) (Sb neg):=by
 intro x y dx dy d M hb H Q sub m rx ry e k;let seq:Sb.inS neg M dx dy=ψ d->uu_ Vd neg x y H Q:=λe=>by
  let#[ds,e1,e2]:=ET.mp e;split at e2
  .show"#N";rcases e2;let#[p,ys,rfl,q,rr]:=a8v sub m ry e1;exact .inl #[p,ys,dx,ds,χ,q,rx.mono sub,rr.mono sub,h.1.1,h.1.2,h.2,gb!]
  .rcases e2
 delta Sb at e;show"!6"
 .rename_i a;show"!6"
  .show"#H";rcases e2;obtain rfl:=eX ry;exact .inr #[M,hb,a,h1,ep,dx,kk,χ,sub,m,hM,rx,e1,gb!]
  .exact seq e
 .exact seq e
def AF(P:xz!)(w:wY!)(KF:ye!):R2:=λx y H Q=>∃(M:Mh) (hb:Hp) (a:uv!) (h1:U_) (ep:δ) (d z:D) (k:MK),x=.ref a/\By hb H/\Gu! M/\M a=ψ gT_/\BE_ d y/\Jv d=ψ k/\Cu h1 d=ψ z/\∀v,BE_ z v->Q v H
def d1a(hu:aF!):Uq X (AX! AF X.K):=by
 intro value slice Z s U H x y v u Q I rx ry h hs;let#[M,hb,a,h1,ep,d,z,k,rfl,sub,m,e,r,hk,hz,q]:=h;subst rx;let#[es,O,h2,h3,h4,h5,h6]:=BI! I;delta subscriptTail;exact ES ?_;rw[FT! h3.typeIs.not_modules];exact ES (MJ h3.typeIs PySem.F.slot_dict_getitem.lookup ?_);let ak:rr_ (subscripted slice θ u! u) (λr bp=>wpAny d_ X.A (Dg! u!) ad_ X.xe bp) X.xe s:=by
  rw[hs];exact wpAny_operating (a7w a! I m sub e #[_,r,ry] hk hz λo s' I' ⟨v',r',bu⟩=>ES (EW! #[v',H,I',bu,q v' r']))
 first
  |exact EV ij_
  |exact CX! ij_
  |exact ES ak
def AG(P:xz!)(w:wY!)(KF:ye!):R2:=λx y H Q=>CK KF x y H Q\/uu_ AF x y H Q
def kM(hu:aF!):Uq X (AX! AG X.K):=aJ.or (d1a hu)
def Kg(M:Mh)(x y:D):ι D:=match x with
 |.fn a=>match M a with
  |some (.dct h1 _)=>(gW!).bind λ_=>Cu h1 y
  |some (.lst xs)=>match y with|.int i=>Da xs i|_=>υ
  |_=>υ
 |_=>Ao x y
protected def jR{KF:ye!}:uu_ Wh (uu_ AG) Kg:=by
 intro x y dx dy d M hb H Q sub m rx ry e k;delta Kg at e;show"!6"
 .rename_i a;obtain rfl:=eX rx;show"!6"
  .show"#H";exact .inr #[M,hb,a,h1,ep,dy,d,kk,χ,sub,m,hM,ry,e1,e2,λv r=>k v hb H aC_ r]
  .rename_i xs hM;show"!6"
   .rename_i i;obtain rfl:=aW ry;let#[_,vs,O,h2]:=EE_ a;let#[v,e6,r6]:=nB h2 e;exact .inl (.inl #[a,vs,i,v,χ,χ,j9!,e6,k v hb H aC_ r6])
   .rcases e
  .rcases e
 .exact .inl (Fr! aS)
def Ie(M:Mh)(x y:D):ι D:=match x with
 |.fn a=>match M a,y with
  |some (.lst xs),.lst ys=>if h!+H_<=big then ψ iG! else υ
  |_,_=>υ
 |_=>Ag x y
protected def iS{KF:ye!}:uu_ Wh (Qx KF) Ie:=by
 intro x y dx dy d M hb H Q sub m rx ry e k;delta Ie at e;show"!6"
 .rename_i a;obtain rfl:=eX rx;show"!6"
  .rename_i xs ys hM;show"!6"
   .show"!Q";let#[_,vs,O,h2]:=EE_ a;let#[b,ws,rfl,qb,rb]:=bM ry;exact Hh_ (.inr #[a,b,vs,ws,χ,χ,j9!,sub.seq qb,by rw[<-aE h2,<-aE rb];exact cD hl,λp hp=>k _ _ _ f7! (bW eu_ (cR h2 rb))])
   .rcases e
  .rcases e
 .exact Fr! aX
end
def Jk{α:Type}(o:wY_ α)(R:jg_):Prop:=match o with|some a=>R a|none=>False
def cK(h:Jk o R):∃a,o=ψ a/\R a:=by
 cases o with
 |none=>exact h.elim
 |some a=>exact#[a,χ,h]
def Wz(C:uv!)(x:Str)(M:Mh)(d:D):ι D:=match d with
 |.fn a=>match M a with
  |some (.obj C' fs)=>if C'=C then BB! x else υ
  |_=>υ
 |_=>υ
def Im(f:Str)(v:D):μ dv!->μ dv!
 |[]=>[(f,v)]
 |(g,x)::r=>if g=f then(g,v)::r else(g,x)::Im f v r
def c0q{KF:ye!}{x:Str}(h:jX_):BB! x=ψ d->∃v,vs.lookup x=ψ v/\BE_ d v:=by
 delta Iq at h
 induction h with
 |nil=>intro e;rcases e
 |@cons p q _ _ h t ih=>
  intro e;rw[HA]at e ⊢;rw[<-h.1];show"!6"
  .rcases e;exact#[_,χ,h.2]
  .exact ih e
def c0p{KF:ye!}{x:Str}(h:jX_):BB! x=υ->vs.lookup x=none:=by
 delta Iq at h
 induction h with
 |nil=>exact λ_=>χ
 |@cons p q _ _ h t ih=>
  intro e;rw[HA]at e ⊢;rw[<-h.1];show"!6"
  .rcases e
  .exact ih e
def c6o{KF:ye!}{x:Str}(r:b2!)(h:jX_):Iq KF hb (Im x d fs) (Iu x v vs):=by
 delta Iq at h
 induction h with
 |nil=>exact .cons #[χ,r] .nil
 |@cons p q fs vs h t ih=>
  show Iq KF hb (if p.1=x then(p.1,d)::fs else p::Im x d fs) (if q.1=x then(q.1,v)::vs else q::Iu x v vs);rw[<-h.1];by_cases e:p.1=x
  .rw[FE e,FE e];exact .cons #[χ,r] t
  .rw[FC e,FC e];exact DB_ h
section
variable{X:Cx}{own:List Nat}{e o a b:Expr}{es:List Expr}{pos be aj p:Pos}{f fa fb fo:WE}{fs:WA}{x m:Str}{C:uv!}
def Hj(C:uv!)(x:Str)(f:WE):WE:=λρ M R=>f ρ M λd M1=>Jk (Wz C x M1 d) λv=>R v M1
def iA(c:d5_)(n:Gp X.K C x)(h:a1_)(G:AO! e x dS!=AV! e:=by rfl):Bd! (.Attribute e x pos) (Hj C x f):=
 gL (c9o h.ok G) λU hb H Q ρ M R st e k=>⟨hb,ρ,M,_,st,e,λd M1 v G1 H1 r1 x1 m1 q1=>by
  let#[z,O,h2]:=cK r1;cases d<;>first|(rcases O;done)|skip
  rename_i ad;obtain rfl:=eX q1;dsimp only[Wz]at O;split at O
  .rename_i C' fs hM;split at O
   .rename_i hC;subst hC;let#[_,dx,vs,h3,h4]:=m1.cell ad _ hM;let#[u,h5,h6]:=c0q h4 O;exact#[ad,_,dx,vs,u,χ,h3,c,n,h5,k z M1 u G1 H1 h2 x1 m1 h6]
   .rcases O
  .rcases O⟩
def Sk(P:xz!)(w:wY!)(KF:ye!)(r:co!)(g:pf!):Prop:=∀{vs:l_} {ds:e!} {d:D} {M:Mh} {hb H:Hp} {Q:VK},By hb H->Gu! M->tT! hb->g M ds=ψ d->iw_->r vs H Q
def Hi.toM{KF:ye!}{r:co!}{g:bH!}(h:Hi KF r g):uu_ Sk r o8!:=λs _ r e k=>h s r e k
nonrec def w1(g:pf!)(fs:WA):WE:=λρ M R=>fs ρ M λds M1=>Jk (g M1 ds) λd=>R d M1
def kB{id:String}(hc:lQ!)(hd:zE_)(hg:x_)(hm:bx!)(hv:mo_)(ha:eT_)(hn:bx_:=by decide)
  (al:s_:=by decide)(he:z_:=by rfl)(ao:W_:=by rfl):Bd! ah! (w1 g fs):=
 gL vf! λU hb H Q ρ M R st e' k=>⟨hb,ρ,M,_,st,e',λds M1 vs G1 H1 r1 x1 m1 q1=>by
  let#[d,O,h2]:=cK r1;exact hd x1.sub m1 q1 O λv G2 H2 x2 q2=>Dx_ k⟩
def Jz(M:Mh):μ D->ι D
 |[.str x]=>Bi [.str x]
 |[d]=>(Mo M d).map λxs=>.int h!
 |_=>υ
def a0y{KF:ye!}:uu_ Sk vz_ Jz:=by
 intro vs ds d M hb H Q sub m r e k;delta Jz at e;show"!6"
 .exact eF sub r e k
 .let#[xs,e1,rfl]:=EZ.mp e;let#[v,rfl,r1]:=dD r;let#[p,ys,rfl,q,rr]:=a8v sub m r1 e1;exact#[iT_,h!,χ,?_,dr!];rw[aE rr];exact q.elim (λz=>.inl zF_) λz=>.inr zF_
 .rcases e
def Ti(fs:WA):WE:=λρ M R=>fs ρ M λds M1=>e_<=1000/\∀p,M1 p=υ->R O! (mup M1 p bm_)
def b0i(h:jZ!):Bd! d8! (Ti fs):=
 gL iC_ λU hb H Q ρ M R st e k=>⟨hb,ρ,M,_,st,e,λds M1 vs G1 H1 r1 x1 m1 q1=>⟨by rw[<-aE q1];exact iG r1.1,λp hp=>
  k _ _ _ _ _ (r1.2 p (m1.nocell hp)) (CC! (.laid x1.sub hp)) (m1.laid hp x1.sub #[vs,aV,q1]) Bc.fn⟩⟩
def Nj(M:Mh)(d:D):wY_ (Addr×μ D):=match d with
 |.fn p=>match M p with|some (.lst xs)=>ψ (p,xs)|_=>υ
 |_=>υ
protected def a5c{KF:ye!}(m:bK_)(r:b2!)(e:Nj M d=ψ q):d=.fn q.1/\v=.ref q.1/\M q.1=ψ (.lst q.2)/\∃vs,H q.1=ψ dn_/\Am KF hb q.2 vs:=by
 cases d<;>first|(rcases e;done)|skip
 show"#M";dsimp only[Nj]at e;show"!6"
 .rename_i xs hM;rcases e;exact#[χ,χ,hM,(EE_ p).2]
 .rcases e
def Gr(M:Mh)(d:D):wY_ (Addr×μ ca_×δ):=match d with
 |.fn p=>match M p with|some (.dct h1 ep)=>ψ pf_|_=>υ
 |_=>υ
protected def cW{KF:ye!}(r:b2!)(e:Gr M d=ψ q):d=.fn q.1/\v=.ref q.1/\M q.1=ψ zG_:=by
 cases d<;>first|(rcases e;done)|skip
 show"#M";dsimp only[Gr]at e;show"!6"
 .rename_i xs ep hM;rcases e;exact Fv_ hM
 .rcases e
def Rn(fo fa:WE):WE:=λρ M R=>fo ρ M λd M1=>F2_ M1 λ_=>fa ρ M1 λv M2=>F2_ M2 λq=>q.2.length<big/\EF! zH_
def b0k(ho:dH!)(ha:bd_)(ai:gb_:=by rfl)(jh:(DF_ i4_&&Cd! bl_
   &&decide i5!)=true:=by rfl) (ji:di_:=by rfl)
  (f7:GO! "append"=AV! o:=by rfl) (eu:ge_:=by rfl):ME X own (AZ_ "append" [a]) (Rn fo fa):=
 gL (wG PySem.F.plainAttrs_list PySem.F.slot_list_append PySem.F.type_list_append wR ho.ok (cE ha.ok eB ai) f7 jh ji ai eu) λU hb H Q ρ M R st e k=>
  ⟨hb,ρ,M,_,st,e,λd M1 v G1 H1 r1 x1 m1 q1=>by
   let#[c1,e1,r1]:=cK r1;let#[rfl,rfl,_,z0,hH,_]:=a5c m1 q1 e1;exact#[.inl #[χ,z0,Er.of hH],G1,ρ,M1,_,o9!,r1,λz M2 u G2 H2 r2 x2 m2 q2=>?_];let#[#[p2,xs2],e2,r2]:=cK r2;let#[z1,z2,z3,vs,O,h2]:=a5c m2 cb! e2;cases z2;exact#[_,vs,u,χ,χ,O,by rw[<-aE h2];exact FM r2.1 iU!,?_];exact BT_ k _ r2.2 ((bt!).trans (.write m2 x2.sub z3) m2) (m2.write z3 #[_,aV,cR h2 (BB_ q2)]) Bc.non⟩
def mT{q:Addr×μ ca_×δ}(I:c!)(m:bL!)(sub:M!)(e:M q.1=ψ zG_):
  s.TypeIs (.ref q.1) "dict"/\∀b,Value.ref q.1=.ref b->∃ob,qY_ b=ψ ob/\ob.dict=none:=by
 let#[es,_,_,h3,_]:=BI! I;exact#[gV!,λb z=>?_];cases z;let#[o,h,hc,_]:=h3;exact#[o,h,hc.2.1]
def ME.run(h:a1_)(I:c!)(st:zn_)(hf:gQ_)
  (k:∀d M' v G' H' u s',R d M'->A3_ M'->qS_ MR M' G' H'->Bl! X.K->GI_ H'->Cf v u->Q u s'):Gp! dS! Q:=
 cO (Bo! h.ok (λv H'=>∃d M' G',R d M'/\XM M hb H M' G' H'/\MR X.prog X.w X.K M' G' H'/\Bc X.K G' d v) I #[hb,ρ,M,R,st,hf,λd M' v G' H' r x m q=>#[d,M',G',r,x,m,q]]) λu s' ⟨v,H',I',rv,d,M',G',r,x,m,q⟩=>D6! k u s' r x m q I' rv
def Xy(fo fa:WE):WE:=λρ M R=>fo ρ M λd M1=>Jk pg_ λ_=>fa ρ M1 λy M2=>Jk (Gr M2 d) λq=>Jk gW! λ_=>R ((Cu q.2.1 y).getD .non) M2
def d3m(hu:aF!)(ho:dH!)(ha:bd_)(m:M1 X o "get" be a aj):Bd! (.Call zI_ [a] [] aj) (Xy fo fa):=⟨by
 rintro Z s U H Q I ⟨hb,ρ,M,R,st,e,k⟩;exact Hd_ LJ;let#[c1,e1,r1]:=cK r1;let#[rfl,rfl,hM]:=cW q1 e1;subst rx;let#[t1,t2]:=EF_ mT;exact ph_;rw[m.trees];exact KB χ (IA (HZ (ha.run I1 ka! r1 λy M2 yv G2 H2 iv s2 r2 x2 m2 q2 I2 ry=>JM ?_)));let#[#[p2,TN,rm],e2,r2]:=cK r2;let#[kk,e3,r2]:=cK r2;let#[z1,z2,px]:=cW cb! e2;cases z1;exact c7f a! I2 m2 x2.sub px #[yv,q2,ry] e3 λov s' I' ⟨v',r',bu⟩=>#[v',H2,I',bu,k _ M2 v' G2 H2 r2 bt! m2 r']⟩
def Ml(fo fa fb:WE):WE:=λρ M R=>fo ρ M λd M1=>Jk pg_ λ_=>fa ρ M1 λy M2=>fb ρ M2 λz M3=>Jk (Gr M3 d) λq=>Jk gW! λ_=>R ((Cu q.2.1 y).getD z) M3
def a3o(hu:aF!)(ho:dH!)(ha:bd_)(G:dG_)(m:M2 X o "get" be a b aj):Bd! (.Call zI_ ac_ [] aj) (Ml fo fa fb):=⟨by
 rintro Z s U H Q I ⟨hb,ρ,M,R,st,e,k⟩;exact Hd_ LJ;let#[c1,e1,r1]:=cK r1;let#[rfl,rfl,hM]:=cW q1 e1;subst rx;let#[t1,t2]:=EF_ mT;exact ph_;rw[m.trees];exact KB χ (IA (HZ (ha.run I1 ka! r1 λy M2 yv G2 H2 iv s2 r2 x2 m2 q2 I2 ry=>
  HZ zJ!)))
 let#[#[p2,TN,rm],e2,r3]:=cK r3;let#[kk,e3,r3]:=cK r3;let#[z1,z2,px]:=cW zJ_ e2;cases z1;exact Eb_ c7e λov s' I' ⟨v',r',bu⟩=>C1! zL!⟩
def Gf(fo fa fb:WE):WE:=λρ M R=>fo ρ M λd M1=>Jk pg_ λ_=>fa ρ M1 λy M2=>fb ρ M2 λz M3=>Jk (Gr M3 d) λq=>Jk gW! λ_=>q.2.1.length<big/\
 match Cu q.2.1 y with
 |some v=>R v M3
 |none=>R z (mup M3 q.1 (.dct (Fu q.2.1 y z) (q.2.2+1)))
def wV(hu:aF!)(ho:dH!)(ha:bd_)(G:dG_)(m:M2 X o "setdefault" be a b aj):ME X own (AZ_ "setdefault" ac_) (Gf fo fa fb):=⟨by
 rintro Z s U H Q I ⟨hb,ρ,M,R,st,e,k⟩;exact Bj_ OV PySem.F.type_dict_setdefault;let#[c1,e1,r1]:=cK r1;let#[rfl,rfl,hM]:=cW q1 e1;subst rx;let#[t1,t2]:=EF_ mT;exact ph_;rw[m.trees];exact KB χ (IA (HZ (ha.run I1 ka! r1 λy M2 yv G2 H2 iv s2 r2 x2 m2 q2 I2 ry=>
  HZ zJ!)))
 let#[#[p2,TN,rm],e2,r3]:=cK r3;let#[kk,e3,hl,r3]:=cK r3;let#[z1,z2,px]:=cW zJ_ e2;cases z1;let bc:=DN_ bt! x3 m2;exact Eb_ vS hl (λw ov s' hw I' ⟨v',r',bu⟩=>?_) λhn de s' I' c'=>?_
 .dsimp only at r3;rw[hw]at r3;exact C1! bc
 .dsimp only at r3;rw[hn]at r3;exact#[zv,_,I',rz,k _ _ zv G3 _ r3 (bc.trans (.write m3 x3.sub px) m3) (m3.write px c') q3]⟩
def Tj:WE:=λρ M R=>∀p,M p=υ->R O! (CC_ cX_)
def zK:Bd! (.Dict [] [] pos) Tj:=⟨by
 rintro Z s U H Q I ⟨hb,ρ,M,R,st,e,k⟩;let hp:=I.fresh;let D0:BJ! Qc (s.heap.push {cls:=.type "dict",data:=.dict #[]}) [] 0:=#[_,c8!,xH!,χ];exact wpAny_Dict_empty #[fI!,upd H s.heap.objs.size (dE s.heap.objs.size [] 0),I.laid tP_ p! #[#[D0,FS.mpr (GI (FW I.big)),GT _],by let#[o,h,_]:=D0;exact pc!,zu_],χ,?_]
 .let#[#[o,z1,z2,z3],z4]:=z;exact zv!
 .exact k _ _ _ hb _ (e _ (st.mr.nocell hp)) (.laid st.or.sub hp) (st.mr.laid hp st.or.sub #[[],aV,.nil,LG]) Bc.fn⟩
end
abbrev WP:=Ac->Mh->(μ ca_->Mh->ν)->ν
section
variable{X:Cx}{own:List Nat}{e o a b:Expr}{es:List Expr}{pos be aj p:Pos}{f fa fb fo:WE}{fs:WA}{fp:WP}{keys:List (Option Expr)}{values:List Expr}
def tU:∀{l:U_} {d x:D},d∉l.map q!->Fu l d x=l++[(d,x)]
 |[],_,_,_=>rfl
 |(y,z)::l,d,x,h=>by
  rw[FI,FD,not_or]at h;delta Fu;rw[FC (GI h.1),tU h.2];rfl
def a3y:∀{l:U_} {d:D},d∉l.map q!->Cu l d=υ
 |[],_,_=>rfl
 |(y,z)::l,d,h=>by
  rw[FI,FD,not_or]at h;delta Cu;rw[FC (GI h.1),a3y h.2]
end
abbrev WS:=Ac->Mh->(Fl->Mh->ν)->ν
structure Ih(P:xz!)(w:wY!)(KF:ye!)(own:b!)(M0:Mh)(G0 F0:Hp)(M:Mh)(hb H:Hp)(U:St)(ρ:Ac):Prop where
 st:uu_ Qb own hb H U ρ M
 x:Ds! M hb H
 fr:∀i∈own,∀p,U[i]?=ψ bE!->F0 p=υ
inductive Wa(P:xz!)(w:wY!)(KF:ye!)(M0:Mh)(G0 F0:Hp)(own bx:b!)(f:WS)(E:Ends)(U:St)(H:Hp):Prop
 |mk (hb:Hp) (ρ:Ac) (M:Mh) (R:E_) (st:eU!) (e:gQ_) (a:∀ρ' M' G' ac H',R eU_ M'->GV! bx->E.nx ac H') (b:∀d M' v G' H',R ai! M'->Ds! M' G' H'->Gq_ M'->Bl! KF->E.rt v H'):uu_ Wa M0 G0 F0 own bx f E U H
structure MS(X:Cx)(own bx:b!)(st:Stmt)(f:WS):Prop where
 ok:∀M0 G0 F0,PS X st kb!
structure Uc(X:Cx)(own bx:b!)(st:ai_)(f:WS):Prop where
 ok:∀M0 G0 F0,Jy X st kb!
section
variable{P:xz!}{w:wY!}{KF:ye!}{own bx:List Nat}{M0 M M':Mh}{G0 F0 hb H G' H':Hp}{U ac:St}{ρ ρ':Ac}
def Ih.grow(s:eU!)(x:jX!)(m:zk!):uu_ Ih own M0 G0 F0 M' G' H' U ρ:=#[s.st.grow x m,s.x.trans x s.st.mr,s.fr]
def Ih.set(s:eU!)(hi:al!)(r:b2!):uu_ Ih own M0 G0 F0 M hb H c3! b2_:=by
 let ne:∀j∈own,i≠j:=λj hj z=>FU_ z;exact#[#[s.st.or.set hi r,s.st.mr,zM!],s.x,zM!]
 .rw[GA (ne j hj)]at e;exact s.st.dj j hj p e
 .rw[GA (ne j hj)]at e;exact s.fr j hj p e
def Fg(own:b!)(U:St)(H:Hp):Hp:=λb=>if b∈Ex own U then υ else H b
def Ih.sr(s:eU!):Cd_ SR hb (Fg own U H) hb H U ρ:=by
 exact#[s.st.or,#[fY!,ir!,s.st.or.sub,dt_],wb!]
 .delta Fg at e;show"!6"
  .rcases e
  .exact e
 .delta Fg;rw[FE (a2f hi e)]
def Ih.root(s:eU!)(h:b∈Ex own U):M b=υ/\F0 b=none:=by let#[i,hi,q]:=gE h;exact#[s.st.dj i hi b q,s.fr i hi b q]
def Ih.noF(s:eU!)(h:Fg own U H b=υ):F0 b=none:=by
 delta Fg at h;show"!u"
 .rename_i G;exact(s.root G).2
 .cases hM:M0 b with
  |none=>exact s.x.free hM h
  |some c=>exact ξ h (s.st.mr.has (s.x.cells b o3_))
end
section
variable{X:Cx}{own ay f8:List Nat}{st:Stmt}{rest body:List Stmt}{e a b c tg o:Expr}{es:List Expr}{pos p2:Pos}{f fa fb fc fo:WE}{fs:WA}{ft fu:WT}{q1 q2 q3:WS}{q:Ac->Option Fl}
def wS(h:fk_)(hw:∀M0 G0 F0 E U hb H ρ M R,qS_ Ih own M0 G0 F0 M hb H U ρ->F1! q1->
  (∀ρ' M' G' ac H',R eU_ M'->qS_ Ih ay M0 G0 F0 M' G' H' ac ρ'->E.nx ac H')->(∀d M' v G' H',R ai! M'->XM M0 G0 F0 M' G' H'->MR X.prog X.w X.K M' G' H'->Bc X.K G' d v->E.rt v H')->t E U H):Bu! MS st q1:=
 #[by rintro M0 G0 F0 Z s U H E I ⟨hb,ρ,M,R,sr,e,k1,k2⟩;exact Bo! h E I (hw M0 G0 F0 E U hb H ρ M R sr e k1 k2)]
def Ff:WS:=λρ M R=>R ba! M
def At(q1 q2:WS):WS:=λρ M R=>q1 ρ M λr M1=>match r with|.nx a9=>q2 a9 M1 R|.rt d=>R ai! M1
def dM:B2_ Uc [] Ff:=#[by rintro M0 G0 F0 Z s U H E I ⟨hb,ρ,M,R,sr,e,k1,k2⟩;exact a9c Z s U H E I (k1 ρ M hb U H e sr)]
def cF(O:kb_)(h2:Uc X ay f8 rest q2):D5_ Uc kc!:=⟨λM0 G0 F0 Z s U H E I ⟨hb,ρ,M,R,sr,e,k1,k2⟩=>
 nE kc_ kd! Z s U H E I pj_⟩
def bO(O:kb_):Bu! Uc [st] q1:=#[λM0 G0 F0=>dL kc_]
def Ei(f:WE):WS:=λρ M R=>f ρ M λd M1=>R ai! M1
def dR(h:a1_):Bu! MS dU! (Ei f):=wS (a6i h.ok) λM0 G0 F0 E U hb H ρ M R sr e k1 k2=>
 (Ds_ zM_)
def Ce(i:δ)(f:WE):WS:=λρ M R=>f ρ M λd M1=>R gW_ M1
def cN(hN:V!)(hi:Z_)(hx:aT_)(h:a1_)(dr:al!:=by decide)(hs:nH_:=by rfl)
  (hf:X.fn x=τ\/qg! x=Ad! some:=by first|exact .inl χ|exact .inr χ|assumption):B2_ MS vW! (Ce i f):=
 wS vV_ λM0 G0 F0 E U hb H ρ M R sr e k1 k2=>Ds_ zN!
def Dh(ft:WT)(q1 q2:WS):WS:=λρ M R=>ft ρ M λb M1=>if b then q1 ρ M1 R else q2 ρ M1 R
def lT(hc:pk_)(O:Bu! Uc b1 q1)(h2:Bu! Uc b2 q2):Bu! MS iR_ (Fo! Dh):=⟨by
 rintro M0 G0 F0 Z s U H E I ⟨hb,ρ,M,R,sr,e,k1,k2⟩;exact Eh_ kc_ kd! E I pl!;cases b with
 |true=>exact kN eV!
 |false=>exact kO eV!⟩
def Gv(f:WE):WS:=λρ M R=>f ρ M λ_ M1=>R ba! M1
def zF(h:a1_)(hs:hv_:=by rfl):B2_ MS fl! (Gv f):=
 wS (sF h.ok hs) λM0 G0 F0 E U hb H ρ M R sr e k1 k2=>Ds_ zN_
def Mu(C:uv!)(x:Str)(fo f:WE):WS:=λρ M R=>f ρ M λy M1=>fo ρ M1 λd M2=>match d with
 |.fn p=>(match M2 p with|some (.obj C' fs)=>C'=C/\aT!<100/\R ba! zO_|_=>False)
 |_=>False
def tP(c:d5_)(n:Gp X.K C x)(ho:dH!)(h:a1_)(hs:Hg_ e (ψ (.Attribute o x p2))=pure false:=by rfl):B2_ MS (Ck! [.Attribute o x p2] e) (Mu C x fo f):=
 wS (c9d ho.ok h.ok hs) λM0 G0 F0 E U hb H ρ M R sr e k1 k2=>⟨hb,ρ,M,_,sr.st,e,λy M1 v G1 H1 r1 x1 m1 q1=>⟨G1,ρ,M1,_,CD! x1,r1,λd M2 u G2 H2 r2 x2 m2 q2=>by
  cases d<;>first|exact r2.elim|skip
  rename_i p;obtain rfl:=eX q2;dsimp only at r2;split at r2
  .rename_i C' fs hM;let#[hC,hl,r2]:=r2;subst hC;let#[_,dx,vs,h3,h4]:=m2.cell p _ hM;let az:aT!=at!:=MC h4;exact#[p,_,dx,vs,χ,h3,c,n,n!,k1 ρ _ G2 U _ r2 ((zP_).grow (.write m2 x2.sub hM) (m2.write hM #[dx,_,aV,c6o cb! h4]))]
  .exact r2.elim⟩⟩
def Ug(M:Mh)(d y v:D):ι Mh:=match d with
 |.fn p=>match M p with
  |some (.dct h1 ep)=>if(gW!).isSome&&decide (bN_<big)then ψ pm! else υ
  |some (.lst xs)=>match y with
   |.int j=>(Df_ Dd j).map λk=>CC_ (G7_ k)
   |_=>υ
  |_=>υ
 |_=>υ
def Zz(P:xz!)(w:wY!)(KF:ye!):V->V->V->Hp->lf!->Prop:=λo i v H Q=>∃(M:Mh) (hb:Hp) (a:uv!) (h1:U_) (ep:δ) (d x:D) (k:MK),o=.ref a/\By hb H/\Gu! M/\M a=ψ gT_/\BE_ d i/\Jv d=ψ k/\BE_ x v/\bN_<big/\
 ∀de,uu_ Gq hb j4! a zv_->Q j4!
def c2z(hu:aF!):Ul X (AX! Zz X.K):=by intro Z s U H o i v ov iv u Q I ro ri rv h;let#[M,hb,a,h1,ep,d,x,k,rfl,sub,m,e,r,hk,rx,hl,q]:=h;subst ro;exact a7v a! I m sub e #[_,r,ri] hk #[_,rx,rv] hl λde s' I' c'=>#[_,I',q de c']
def c3n(h:Ul X r)(h':Ul X r'):Ul X (λo i v H Q=>r o i v H Q\/r' o i v H Q):=by
 intro Z s U H o i v ov iv u Q I ro ri rv q;obtain q|q:=q
 .exact GQ_ h
 .exact GQ_ h'
def Pl(fo fi f:WE):WS:=λρ M R=>f ρ M λv M1=>fo ρ M1 λd M2=>fi ρ M2 λy M3=>Jk (Ug M3 d y v) λM4=>R ba! M4
def b9b(hu:aF!)(ho:dH!)(hi:Bd! i fi)(h:a1_)
  (ha:∀v,assign zR! X.env v=(do
   let ov <-holding [v] bS!
   let iv <-holding [v,ov] rb_
   standAt p2
   holding dU_ lh_
   release dU_ []):=by intro _;rfl)
  (hs:B1! ke_=pure false:=by rfl) (hw:CW! ke_=pure none:=by rfl)
  (O:A8! ke_=[assign zR! X.env]:=by rfl):B2_ MS (Ck! ke_ e) (Pl fo fi f):=
 wS (b7o h.ok (b7t ho.ok hi.ok (c3n a1x (c2z hu)) ha) hs hw O) λM0 G0 F0 E U hb H ρ M R sr e k1 k2=>⟨hb,ρ,M,_,sr.st,e,λv M1 vv G1 H1 r1 x1 m1 q1=>⟨G1,ρ,M1,_,CD! x1,r1,λd M2 dv G2 H2 r2 x2 m2 q2=>
  ⟨G2,ρ,M2,_,(CD! x1).grow x2 m2,r2,λy M3 yv G3 H3 r3 x3 m3 q3=>by
   let#[M4,e4,r4]:=cK r3;let nr:=(zP_).grow x3 m3;let qd:=q2.mono x3.g;let qv:=(cb!).mono x3.g;delta Ug at e4;split at e4
   .rename_i p;obtain rfl:=eX qd;split at e4
    .rename_i h1 ep hM;split at e4
     .rename_i hc;rw[FB,FV]at hc;rcases e4;let#[kk,hk]:=MQ.mp hc.1;exact .inr #[M3,G3,p,h1,ep,y,v,kk,χ,x3.sub,m3,hM,q3,hk,qv,hc.2,λde c'=>k1 ρ _ G3 U _ r4 (E0_ c')]
     .rcases e4
    .rename_i xs hM;split at e4
     .rename_i j;obtain rfl:=aW q3;let#[n,e5,rfl]:=EZ.mp e4;let#[_,vs,h3,h4]:=m3.cell p _ hM;exact .inl #[p,vs,j,n,χ,χ,h3,by rw[<-aE h4];exact e5,k1 ρ _ G3 U _ r4 (E0_ #[_,aV,sY qv n h4])]
     .rcases e4
    .rcases e4
   .rcases e4⟩⟩⟩
end
def BF(P:xz!)(w:wY!)(KF:ye!)(J:It)(ds:e!)(ck:gY!)(G1:Hp):Prop:=∀(i:δ) (M':Mh) (G' H':Hp),By G1 G'->By G' H'->Gq_ M'->ck M'->
 vE!/\vE_
abbrev WI:=Ac->Mh->(μ D->(Mh->ν)->Mh->ν)->ν
inductive DJ(P:xz!)(w:wY!)(KF:ye!)(own:b!)(fi:WI)(U:St)(H:Hp)(R:hA!):Prop
 |mk (hb:Hp) (ρ:Ac) (M:Mh) (T:μ D->(Mh->ν)->Mh->ν) (st:gP_) (e:fi ρ M T) (k:∀ds ck M1 J G1 H1,T ds ck M1->ED_ M1 G1 H1->uu_ MR M1 G1 H1->He! ck->R J H1):uu_ DJ own fi U H R
structure MI(X:Cx)(own:b!)(tg iter:Expr)(fi:WI):Prop where
 ok:Et_ iter (BR_ DJ fi)
section
variable{X:Cx}{own ay f8:List Nat}{st:Stmt}{rest body:List Stmt}{e a b c tg o:Expr}{es:List Expr}{pos p2:Pos}{f fa fb fc fo:WE}{fs:WA}{fi:WI}{ft fu:WT}{q1 q2 q3:WS}{di:Ac->Option (List D)}
def c7x(h:Et_ e wi)(hw:∀U hb H R ρ M T,Gt! H->fi ρ M T->(∀ds ck M1 J G1 H1,T ds ck M1->XM M hb H M1 G1 H1->MR X.prog X.w X.K M1 G1 H1->BF X.prog X.w X.K J ds ck G1->R J H1)->wi U H R):C7! MI e fi:=
 #[by rintro Z s U H R I ⟨hb,ρ,M,T,st,e,k⟩;exact Bo! h R I (hw U hb H R ρ M T st e k)]
def Rk(di:ar!):WI:=λρ M T=>Jk (di ρ) λds=>T ds aR_ M
def Wi.m{KF:ye!}(h:Dq! J):He! aR_:=λi M' G' H' s1 s2 _ _=>h i G' H' s1 s2
def a3m(h:C7! DI e di):C7! MI e (Rk di):=c7x h.ok λU hb H R ρ M T st e k=>by
 let#[ds,e1,e2]:=cK e;exact#[hb,ρ,ds,st.or,e1,λJ G1 H1 x d6=>k ds _ M J G1 H1 e2 (.ext x) o7_ d6.m]
def Rl(f:WE):WI:=λρ M T=>f ρ M λd M1=>match d with
 |.lst xs=>T xs aR_ M1
 |.fn p=>(match M1 p with|some (.lst xs)=>T xs (λM=>M p=ψ af!) M1|_=>False)
 |_=>False
def b0h(h:bd_):C7! MI a (Rl fa):=c7x (a9h h.ok) λU hb H R ρ M T st e k=>⟨hb,ρ,M,_,st,e,λd M1 v G1 H1 r1 x1 m1 q1=>by
 cases d<;>first|exact r1.elim|skip
 .let#[p,vs,rfl,q,rr]:=bM q1;exact#[p,χ,#[vs,x1.sub.seq q],k _ _ M1 _ G1 H1 r1 x1 m1 (a4c q rr).m]
 .rename_i p;obtain rfl:=eX q1;dsimp only at r1;split at r1
  .rename_i xs hM;let#[_,vs,O,h2]:=m1.cell p _ hM;exact#[p,χ,#[vs,j9!],k _ _ M1 _ G1 H1 r1 x1 m1 λi M' G' H' s1 s2 m' ck=>?_];let#[_,jl,h3,h4]:=m'.cell p _ ck;let q':Er X.K H' p jl:=Er.of h3;exact#[ex_,λhi=>Ek! jl h4];let#[v,g1,g2]:=eY h4 hd;exact#[#[jl,v,q',g1],iM_];let#[e1,e2]:=hy;subst e1;let:=e2 jl q';rw[g1]at this;rcases this;exact#[G',iN!,g2]
  .exact r1.elim⟩
def Md(bnd:ac!)(ck:gY!)(q:WS):μ D->WS
 |[]=>λρ M R=>ck M/\R ba! M
 |d::ds=>λρ M R=>ck M/\Jk iN_ λa9=>q a9 M λr M1=>match r with|.nx br=>Md bnd ck q ds br M1 R|.rt d=>R ai! M1
def Ja(fi:WI)(bnd:ac!)(q:WS):WS:=λρ M R=>fi ρ M λds ck M1=>Md bnd ck q ds ρ M1 R
def BG(KF:ye!)(own:b!)(g:TG)(bnd:ac!):Prop:=∀{P:xz!} {w:wY!} {x:V} {d:D} {U:St} {M0 M:Mh} {G0 F0 hb H:Hp} {ρ a9:Ac} {Q:hw!},uu_ Ih own M0 G0 F0 M hb H U ρ->BE_ d x->bnd d ρ=ψ a9->(∀bg,Ih P w KF own M0 G0 F0 M hb H bg a9->Q bg H)->g x U H Q
def oQ{KF:ye!}(i:δ)(hi:al!:=by decide):Cd_ BG c6_ (En i):=by intro P w x d U M0 M G0 F0 hb H ρ a9 Q sr r e k;rcases e;exact k _ (sr.set hi r)
def Sh(i j:δ):D->Ac->ι Ac:=λd ρ=>match d with|.tup [x,y]=>ψ ((ρ.set i kf_).set j (ψ y))|_=>υ
def c0j{KF:ye!}(i j:δ)(hi:al!:=by decide)(hj:j∉own:=by decide):Cd_ BG vL! (Sh i j):=by
 intro P w x d U M0 M G0 F0 hb H ρ a9 Q sr r e k;delta Sh at e;show"!6"
 .rcases e;show"!f";show"!8";exact#[p,[v1,v2],χ,bJ sr.st.or.sub q,χ,v1,[v2],χ,v2,[],χ,χ,k _ ((sr.set hi r1).set hj r2)]
 .rcases e
def Ih.base{KF:ye!}{M0 M1:Mh}(s:po_):uu_ Ih own M1 G1 cY! M1 G1 H1 U ρ:=
 #[s.st,#[By.refl _,s.st.or.sub,dt_,λb o e _=>s.sr.ext.h b o e,dt_,λb h=>h],λi hi p e=>Ho_ s.sr.fr]
def Ih.unx{KF:ye!}{M0 M1 M':Mh}(s:po_)(y:BW! cY!):Ds! M' G' H':=by
 exact#[s.x.g.trans y.g,y.sub,bo!,λb o e G=>?_,bo!,λb h=>y.cells b (s.x.cells b h)]
 .obtain z|z:=y.new b h
  .exact s.x.new b z
  .exact zV!
 .exact y.keep b o ?_ ?_
  .delta Fg;rw[FC (λhr=>by rw[(s.root hr).2]at e;rcases e)];exact s.x.keep b o e G
  .cases q:M1 b with
   |none=>rfl
   |some c=>
    rcases s.x.dom b cC! with z|z
    .exact ξ G z
    .rw[e]at z;rcases z
 .obtain z|z:=y.dom b h
  .exact s.x.dom b z
  .exact zV!
def Ih.unbase{KF:ye!}{M0 M1 M':Mh}(s:po_)(s':uu_ Ih ay M1 G1 cY! M' G' H' ac ρ'):GV! ay:=
 #[s'.st,s.unx s'.x,λi hi p e=>s.noF (Ho_ s'.fr)]
def d0h(hp:d0_)(hc:af_)(bq:eV_)(hg:dV_)(ig:pp!)(G:B2_ Uc body q1)
  (hs:aM_:=by intro _;rfl):B2_ MS fp_ zW!:=⟨by
 rintro M0 G0 F0 Z s U H E I ⟨hb,ρ,M,R,sr,e,k1,k2⟩;let ij:Dm_ X (λE U H=>∃A B C,Wa X.prog X.w X.K A B C own own q1 E U H):=by rintro Z s U H E I ⟨A,B,C,h⟩;exact G.ok A B C Z s U H E I h
 exact BP! a6j E;let jo:=Fd! x1;exact⟨λn m ac H'=>n<=e_/\m=e_ - n/\∃G' ρ' M',Gr! Ih/\CD_ R,
  pq!,?_⟩
 rintro n m ac H' ⟨hn,rfl,G',ρ',M',dz,e3⟩;let lw:ck M':=by
  cases hd:Ez_ n with
  |nil=>rw[hd]at e3;exact e3.1
  |cons _ _=>rw[hd]at e3;exact e3.1
 show"!9"
 .right;let hd:ds[n]?=DG_ n:=by simp[ax]
  show"!7";exact#[go,zW_,by rintro f9 H2 ⟨G2,br,M2,O,h3⟩;exact zX!,iO_];let#[G2,x2,r2]:=Fn_ v;let uy:=dz.grow cX! pq_;exact ig uy r2 e4 λiy nr=>#[M1,G1,Fg own U H1,G2,a9,M',_,nr,e3,zX_,zY!]
 .left;let fg:n=e_:=by omega
  exact ez!;rw[fg,JL]at e3;exact k1 ρ' M' G' ac H' e3.2 pr!⟩
def Js(bnd:ac!)(ck:gY!)(ft:WT)(fe:WE)(ρ:Ac):μ D->Mh->zk_->ν
 |[],M,R=>ck M/\R [] M
 |d::ds,M,R=>ck M/\Jk iN_ λa9=>ft a9 M λb M1=>if b then fe a9 M1 λy M2=>Cf_ ρ ds M2 λys M3=>R (y::ys) M3 else Cf_ ρ ds M1 R
def Ho(nl:δ)(ix:b!)(fi:WI)(bnd:ac!)(ft:WT)(fe:WE):WE:=λρ M R=>fi ρ M λds ck M1=>e_<=big/\Cf_ iu! ds M1 λys M2=>R ap_ M2
def b1n{KF:ye!}{M1:Mh}{Fin:bh!}
  (G:iO!)(d6:He! ck)(hg:GD KF g bnd)(er:uu_ Qb [] G1 H1 qw j0 M1)(e:zY_)(k:∀g7 ys M' G' H',R g7 M'->BW! H1->Gq_ M'->Ez! g7->g7.length<=e_->Fin ys H'):
  Qr J g (uu_ Vz [] ft) (uu_ Yb [] fe) Fin qw H1:=by
 exact⟨λi m ys ac H'=>i<=e_/\m=e_ - i/\∃G' M' ws,BW! H1/\uu_ Qb [] G' H' ac j0 M'/\Ez! ws/\bl!<=i/\Cf_ j0 nB! M' λr M2=>R (ws++r) M2,
  zZ!,?_⟩
 rintro i m ys ac H' ⟨hi,rfl,G',M',ws,x,d7,bf,hw,e2⟩;exact nB_;let lw:ck M':=by
  cases hd:Ez_ i with
  |nil=>rw[hd]at e2;exact e2.1
  |cons _ _=>rw[hd]at e2;exact e2.1
 show"!m"
 .right;let hd:ds[i]?=DG_ i:=by simp[ax]
  rw[GV ax]at e2;let#[_,e2]:=e2;let#[a9,e1,e2]:=cK e2;let#[go,yl]:=iq _ hd;exact nC!;let#[G2,x2,r2]:=Fn_ v;let ez:=d7.grow cX! zZ_;let z6:=x.trans cX! d7.mr;exact hg ez.or r2 e1 λbg kz m7=>Gi_ z0!;let jk:=Cx! KF z0!;let bc:=z6.trans x3 ez.mr;cases b with
  |true=>
   exact kN #[G3,a9,M3,_,jk,r3,λy M4 u G4 H4 r4 x4 m4 q4=>Ca! av!]
   .exact z2_
   .rw[FX,IG];omega
   .let e5:z3!=λr M2=>R (ws++y::r) M2:=by
     funext r M2;rw[LF];rfl
    rw[e5];exact r4
  |false=>
   exact BW_ av!
 .left;let fg:i=e_:=by omega
  show"!K"
def c5c
  (cn:aX!)(df:a7!)(ic:∀y∈aO!,y.2=.local->scope.names.lookup y.1=Ad! ψ)
  (gr:cx!)(cap:a6_)(gk:f0_)(calm:af_)(bq:eV_)
  (hg:en_)(ig:gd_)(hi:z3_)(he:z4!)
  (hs:aM_:=by intro _;rfl):
  ME X own dk_ ps!:=
 gL vP! λU hb H Q ρ M R st e k=>⟨hb,ρ,M,_,st,e,λds ck M1 J G1 H1 r1 x1 m1 d6=>by
  let#[G,r1]:=r1;let je:=DV_ x1;exact b1n G d6 ig z5! r1 λg7 ys M' G' H' r x m q _ p hp=>?_;exact Fd_ k⟩
def b0g:Ka X [] (Vz X.prog X.w X.K [] λρ M R=>R τ M):=by rintro Z s U H Q I ⟨hb,ρ,M,R,st,e,k⟩;exact Hi! a2p (k τ M hb H e jY_ st.mr)
def c7w(h:MT X [] c ft):Ka X [c] pr_:=a2o h.ok
abbrev WF:=μ D->Mh->o6!->ν
def Xp(P:xz!)(w:wY!)(KF:ye!)(n:δ)(g:WF):Sp:=λvs H Q _=>at!=n/\∃hb ds M R,By hb H/\Gu! M/\tT! hb/\g ds M R/\∀d M' v G' H',R d M'->A3_ M'->Gq_ M'->Bl! KF->Q v H'
def Xv(P:xz!)(w:wY!)(KF:ye!)(mg:o!)(base:Heap)(k:δ)(x:Str)(ps:l!)(g:WF):Prop:=
 ∃ag fd,Gn_ pt_/\AV_ KF/\mg x=ψ aC!/\G3_ KF=τ
nonrec def gl(g:bH!):WF:=λds M R=>Jk (g ds) λd=>R d M
def Ep(n:δ)(g:WF)(fs:WA):WE:=λρ M R=>fs ρ M λds M1=>e_=n/\g ds M1 R
def eZ(F:Gz! Xv)(hr:T!)(hg:x_)(ha:eT_)
  (al:s_:=by decide)(he:z_:=by rfl)(ao:W_:=by rfl):
  ME X own ah! (Ep ps.length g fs):=by
 show"!<";exact gL (sG O hr hg h3 h4 h2 .nil a2t ha.ok al he ao) λU hb H Q ρ M R st e' k=>CM! st pu_;rw[FY];exact#[kh_,G1,ds,M1,R,x1.sub,m1,q1,r1.2,z6_]
def Tc(P:xz!)(w:wY!)(KF:ye!)(mg:o!)(base:Heap)(k:δ)(C:uv!)(m:Str)(ps:l!)(g:WF):Prop:=
 Ud KF C/\∃ag fd,Vr KF C m ag/\Gn_ pt_/\AV_ KF
def Pc(C:uv!)(m:Str)(M:Mh)(d:D):Prop:=match d with
 |.fn p=>(match M p with|some (.obj C' fs)=>C'=C/\fs.lookup m=υ|_=>False)
 |_=>False
protected def c0b{KF:ye!}(mr:bK_)(r:b2!)(h:Pc C m M d):∃p dx vs,d=.fn p/\v=.ref p/\H p=ψ zi!/\vs.lookup m=none:=by
 delta Pc at h;show"!u"
 .show"#M";show"!u"
  .rename_i C' fs hM;let#[rfl,hl]:=h;let#[_,dx,vs,O,h2]:=mr.cell p _ hM;exact#[p,dx,vs,χ,χ,O,c0p h2 hl]
  .exact h.elim
 .exact h.elim
def Qd(C:uv!)(m:Str)(n:δ)(g:WF)(fo:WE)(fs:WA):WE:=λρ M R=>fo ρ M λd M1=>Pc C m M1 d/\fs ρ M1 λds M2=>e_+1=n/\g cy! M2 R
def zJ(F:qS_ Tc X.mg X.base k C m ps g)(hr:T!)(ho:dH!)(ha:eT_)
  (ai:z_:=by rfl)(ao:W_:=by rfl)
  (ht:eval h1_ X.env=(do
   let ov <-eval o X.env
   standAt fx_
   let(f,first) <-holding [ov] l7!
   callWith pos f first sU! hY!):=by rfl):Bd! h1_ (Qd C m ps.length g fo fs):=by
 let#[cl,ag,fd,O,h2,h3]:=F;exact gL (c3x ho.ok cl O h2 hr h3 .nil a2t ha.ok ai ao ht) λU hb H Q ρ M R st e' k=>CM! st z7!;let#[hi,r1]:=r1;let#[p,dx,vs,rfl,rfl,hH,hl]:=c0b m1 q1 hi;exact#[p,dx,vs,χ,hH,hl,G1,ρ,M1,_,o9!,r1,λds M2 us G2 H2 r2 x2 m2 q2=>?_];rw[FY];exact#[by rw[FN,<-aE q2];exact r2.1,G2,.fn p::ds,M2,R,x2.sub,m2,Am.cons Bc.fn q2,r2.2,λd M3 v G3 H3 r3 x3 m3 q3=>k d M3 v G3 H3 r3 zL! m3 q3]
def Yv(P:xz!)(w:wY!)(KF:ye!)(mg:o!)(base:Heap)(k:δ)(x:Str)(C:uv!)(ps:l!)(g:WF):Prop:=
 mg x=ψ m_/\∃ag fd,Mk KF C ag/\Gn_ pt_/\AV_ KF
def Qe(C:uv!)(n:δ)(g:WF)(fs:WA):WE:=λρ M R=>fs ρ M λds M1=>e_+1=n/\∀p,M1 p=υ->g (.fn p::ds) (mup M1 p (.obj C [])) λd M2=>d=.non/\R O! M2
def d0o{KF:ye!}{M1:Mh}(sub:By G1 H1)(m1:zj_)(hx:H1 x=υ)(j9:H1 dx=υ)(ne:dx≠x):
  XM M1 G1 H1 z8_ G1 mc!/\uu_ MR z8_ G1 mc!:=by
 let old:∀b o,H1 b=ψ o->upd qc_ x mb_ b=ψ o:=λb o e=>by rw[aH (aU e hx),aH (aU e j9)];exact e
 exact#[#[By.refl G1,λb o e=>old b o (sub b o e),dt_,λb o e _=>old b o e,bo!,bo!],#[λb q e=>?_]]
 .by_cases G:b=x
  .subst G;exact .inr hx
  .rw[bC G]at h;exact .inl h
 .by_cases G:b=x
  .subst G;rw[bL];simp
  .rw[bC G];exact h
 .by_cases G:b=x
  .show"#L";exact#[sub.free hx,dx,[],aV,.nil]
  .rw[bC G]at e;let#[O,h2]:=m1.cell b q e;exact#[O,h2.mono (By.refl G1) ?_];cases hq:H1 b with
   |none=>exact Ac_ hq h2.has
   |some o=>exact old b o hq
def c5b(F:qS_ Yv X.mg X.base k x C ps g)(hr:me!)(hg:x_)(ha:eT_)
  (al:s_:=by decide)(he:z_:=by rfl)(ao:W_:=by rfl):Bd! ah! (Qe C ps.length g fs):=by
 let#[hm,ag,fd,O,h2,h3]:=F;exact gL (c3y O h2 hr hg hm h3 .nil a2t ha.ok al he ao) λU hb H Q ρ M R st e' k=>#[hb,ρ,M,_,st,e',λds M1 vs G1 H1 r1 x1 m1 q1=>λy dx hy j9 ne=>?_];let#[z1,z2]:=d0o x1.sub m1 hy j9 ne;rw[FY];exact⟨by rw[FN,<-aE q1];exact r1.1,G1,.fn y::ds,_,_,z1.sub,z2,Dh! Bc.fn q1,r1.2 y (m1.nocell hy),λd M2 v G2 H2 r2 x2 m2 q2=>by
  let#[rfl,r2]:=r2;exact#[dU q2,k _ M2 _ G2 H2 r2 ((CC! z1).trans x2 z2) m2 Bc.fn]⟩
def Fz(N:l!)(n:δ)(q:WS):WF:=λds M R=>e_=n/\q ez_ M λr M'=>match r with|.rt d=>R d M'|.nx _=>EF! M'
end
def a0p{KF:ye!}{st:Stmt}
  (F:wf!)(S:bY!)
  (G:∀(ah:wX!) (A:w5!) (outer:C_) (s:x1!) (H:Hp) (E:XK),Ba k nM_->Ei! Uc nN!):
  He P w KF mg base Mt Q! ag fd ps (uu_ Xp ps.length ki!):=by
 exact wg!;let#[hl,hb,ds,M,R,sub,m,r,e,kk]:=h;exact#[_,(wh!).ok M hb H,?_];let er:=jJ (N:=N) sub r;exact#[hb,_,M,_,#[#[er,m,av!],.refl sub,av!],e.2,z9!,z9_]
section
variable{P:xz!}{w:wY!}{A:w5!}{E:Value->Shared->Prop}{s:x1!}{d it:uv!}{es:List DictEntry}{ep i:Nat}
def Qc.at(D:Qc h d es ep)(e:∀o,h.get? d=ψ o->Ab_ d=ψ o):Qc h' d es ep:=by let#[o,ho,r]:=D;exact#[o,e o ho,r]
def d1b(hd:Aa!)(D:px_)
  (h:Q c9! {s with heap:=s.heap.push {cls:=.type "dict_keyiterator",data:=.fields [.ref d,.int 0 0,.int es.length 0,.int ep 0].toArray}}):HW_ (.ref d):=by
 let hT:=D.typeIs;let#[o,ho,hc,TR]:=id D;exact wpAny_pyIter_slot hT PySem.F.slot_dict_iter (GQ PySem.F.slot_dict_iter hT PySem.F.entry_dict_iter ?_ (PySem.F.args_dict_iter_1 _));delta Builtin.«dict.__iter__» Builtin.Dict.dictSlotNone;exact ES zB!;show A4_ B! (Builtin.Dict.showsAll d>>=_);delta Builtin.Dict.showsAll;rw[GK! hd];exact CX! (ES (KJ ho TR (ES (IY ho TR (ES (GY (EV #[_,χ,"dict_keyiterator",_,nW_,HR.lookup,?_])))))));simpa[rawInt]using h
def b8q(bq:Ab!)(D:px_)(hx:es[i]?=ψ e)
  (h:∀h',h'.IsKeyIter it d u_ es.length ep->AL_ it->Q (ψ e.key) {s with heap:=h'}):qS! B! hz_:=by
 show"!g";let#[ax,rn]:=FO.mp hx;show"#;"
 first|exact Ek_ JS ki_|exact Ek_ KY ki_
 show"!E";exact ES Ae_;rw[aQ!];exact EV ?_;simp![Af_,HD,KA,JV,hx];exact ES ?_
 first|exact Ek_ JS Ag!|exact Ek_ KY Ag!
 show A4_ B! (setField by_ 1 (rawInt kj!)>>=_);let wz:(s.heap.update it (Obj.mapFields (·.setIfInBounds 1 (rawInt kj!)))).IsKeyIter it d u_ es.length ep:=
  #[_,GL _ ho (HS (HP hd _)),DN_ wZ_ hc,by rw[HP hd];simp[rawInt]]
 exact ES (IL ho hd c_ (ES (GE (Cl! OA wz.typeIs))));exact EV (EV (Hp_ (h _ wz cI_)))
def c6s(hh:bk_)(bq:Ab!)(D:px_)(hx:aE_<=i)
  (h:∀h',FK! it s.heap->Q υ {s with heap:=h'}):qS! B! hz_:=by
 show"!g";show"#;"
 first|exact Ek_ JS ki_|exact Ek_ KY ki_
 show"!E";exact ES Ae_;rw[aQ!];exact EV ?_;simp![Af_,HD,KA,JV,II hx];exact ES ?_
 first|exact Ek_ JS K_|exact Ek_ KY K_
 show A4_ B! (setField by_ 0 .none>>=_);exact ES (IL ho hd c_ ?_);exact ES ?_;dsimp only[newExc,newTuple];exact ES (GY (ES (wpAny_of_eq w0_ (GY ?_ i7!))) i7!);dsimp only[raiseNew];exact ES i7_;rw[w1!];exact CX! (OQ ?_);exact ES (wpAny_isInstance (show Shared.TypeIs _ _ _ from nW_) isSubtype_stop ?_);exact EV (h _ w1_)
def b1w(hh:bk_)(I d:uv!)(am:d≠I)(es:b9_)(ep:δ):Walks P w A I [I,d] [I] es.length pz_ (λi h=>h.IsKeyIter I d i es.length ep/\Qc h d es ep) where
 sub:=λb G=>by simp at G;simp[G]
 frame:=λ_ _ _ st hk=>#[st.1.at λo e=>hk I c_ o e,st.2.at λo e=>hk d c_ o e]
 item:=λi s Q E hi st hQ=>by
  exact b8q st.1 st.2 (GH hi) λh' wz fk=>?_;exact hQ _ h' s.toks #[_,GH hi,χ] #[wz,st.2.at λo e=>(fk.2 d am).trans e] λb o G e=>(fk.2 b hD!).trans e
 done:=λs Q E st hQ=>c6s hh st.1 st.2 p! λh' rc=>hQ h' s.toks λb o G e=>rc b o hD! e
 self:=λ_ _ _ _ st hQ=>wpAny_pyIter_keyiter st.1 hQ
end
section
variable{X:Cx}{Z:List (Addr×Obj)}{U:St}{H:Hp}{s:x1!}
def sC{wr:v!}(I:c!)(hf:∀b∈wr,DD_ H)(kp:∀c o,c∉wr->qY_ c=ψ o->h2.get? c=ψ o):m2! H {s with heap:=h2,toks:=t'}:=by
 exact xj!
 .let#[f0,f1,f2,f3,f4,f5]:=hf c hc;exact#[f3,f1,f4,f5]
 .show"#E";exact xj_
 .exact Fb_ c λ_ _ e'=>e';let hn:=(hf d hm).1;obtain rfl|hd:=hd
  .rw[hn]at e;rcases e
  .rw[hn]at hd;rcases hd
def c8n(I:m2! H s0)(I1:c!)(hT:Ah_<=T)(eT:BY_ T gi!)(rv:dL!)(hz:h!<=sizeLine):m2! (upd H T aI!) s:=by
 let ul:=Cb_ hT;let ne:∀c o,H c=ψ o->c≠T:=λc o e=>aU e ul;exact Inv.step (ch:=[T]) I1 n2_ xm_ xn! xn_ xo!
  (xo_) xp! xp_ mS! n3! I1.bare
 .let e:c=T:=by simpa using hc
  subst e;let#[_,g1,_,g3,g4,g5]:=I.fpOk hT ul;exact#[g3,g1,g4,g5]
 .rw[mS_];exact n
 .by_cases G:c=T
  .show"!x";exact#[hz,us,rv,eT]
  .rw[aH G]at e;exact(xq!).stay mT! xq_ λd xs q=>by rw[n6_];exact q
end
end DL
namespace HT
open PySem PySem.Spec PyProof.Rows
section
variable{prog:xz!}{w:wY!}{A:w5!}{E:Value->Shared->Prop}{s:x1!}
end
end HT
namespace DL
open PySem PySem.Spec PyProof.Rows L2
nonrec def rk(r:pB_)(xs:kj_)(i:δ):Int:=(xs[i]?.map r).getD 0
def b6w(hs:c<xs.size)(hd:d<=c)(k:δ):EG! (bubble xs c d)=if k=c - d then Dt! c else if c - d<k/\k<=c then Dt! (k - 1) else EG! xs:=by
 delta rk;rw[getElem?_bubble hs d hd k];split
 .rfl
 .split<;>rfl
def a6c(hj:j<=xs.size)(k:δ):EG! Ai!=if i<=k/\k<j then Dt! (i+j - 1 - k) else EG! xs:=by delta rk;rw[getElem?_mirror_all hj k];split<;>rfl
def nA(hj:j<=xs.size)(he:∀k,i<=k->k<j->Dt! k=Dt! dJ_)(k:δ):EG! Ai!=EG! xs:=by
 rw[a6c hj];by_cases h:i<=k/\k<j
 .rw[FE h,he _ a! a!,he k h.1 h.2]
 .rw[FC h]
def Up(r:pB_)(xs:kj_)(n:δ):Prop:=∀i j,i<=j->j<n->Dt! i<=Dt! j
def Dn(r:pB_)(xs:kj_)(n:δ):Prop:=∀i j,i<=j->j<n->Dt! j<=Dt! i
structure SB(kd:SortKind)(a0:kj_)(st:SortSt):Prop where
 pm:(A!).Perm a0
 kn:kindOf st=kd
 fl:El! st=υ
 pd:EG_ st=#[]
def SB.sz{st:SortSt}(h:bM_):(A!).size=a0.size:=h.pm.size_eq
def SB.put{st:SortSt}(h:bM_)(hp:xs.Perm A!):DJ_ (setArr st xs):=#[hp.trans h.pm,h.kn,h.fl,h.pd]
section
variable{prog:xz!}{w:wY!}{A:w5!}{E:Value->Shared->Prop}{s:x1!}{a0:Array Keyed}{kd:SortKind}{r:Keyed->Int}
variable (prog w A s a0 kd r)in
def Si:Prop:=∀(x y:Keyed) (F:i!) (Q:pC!),x∈g0!->y∈g0!->Fc! (r x<r y) s->Ac! (keyLt' kd x.1 y.1) Q F s
def b6t{st:SortSt}(hl:cZ!)(b:bM_)(hi:i<a0.size)(hj:j<a0.size)(h:Q (ψ (decide (rk r A! i<rk r A! j))) st):Bf_ (ltAt' i j):=by
 let at_:∀k,k<a0.size->∃p,A![k]?=ψ p/\p∈g0!/\EG! A!=r p:=λk hk=>by
  let gq:k<(A!).size:=by rw[b.sz];exact hk
  exact#[A![k],Aj!,(Ec! b.pm).mem_iff.mp c_,?_];delta rk;rw[Aj!];rfl
 let#[x,ex,mx,rx]:=at_ i hi;let#[y,ey,my,ry]:=at_ j hj;rw[rx,ry]at h;rw[ltAt'_eq];exact HF eX!;show Bf_ (elem' A! i>>=λx=>elem' A! j>>=λy=>lt' x y);rw[elem'_eq,elem'_eq,ex,ey];exact HF (IT (HF (IT ?_)));rw[lt'_eq];exact HF eX!;rw[b.kn];exact HF (wpS_lift (NM (hl x y _ _ mx my #[χ,IT h])))
def c7p{st:SortSt}(hl:cZ!)(hn:eX_)(ha:1<=a)(l8:a<=n)(b:bM_)(hu:Up r A! a)
  (h:∀m,a<=m->m<=n->Up r A! m->(m=n\/rk r A! m<rk r A! kk_)->Q (υ,m) st):Bf_ (ascLoop a n):=by
 delta ascLoop;exact NS (I:=λx c af=>af=st/\c=(υ,x)/\Up r A! x) ?_ ?_ (Fv_ hu)
 .rintro x c af O h2 ⟨rfl,rfl,u⟩;exact HF (b6t hl b (FM h2 hn) a! ?_);by_cases q:BX! x<BX! g1!
  .rw[FH q];exact IT (h x O (JH h2) u (.inr q))
  .rw[FA q];exact IT (Fv_ Ak_);obtain h5|h5:=JA j x
   .exact u i j h3 h5
   .let:j=x:=by omega
    subst this;obtain h6|h6:=JA i j
    .let:=EH! u;omega
    .let:i=j:=by omega
     rw[this];exact HE _
 .rintro c af ⟨rfl,rfl,u⟩;rw[show max a n=n by omega]at u ⊢;exact h n l8 p! u q_
def b6r{st:SortSt}(hl:cZ!)(hn:eX_)(O:1<=m)(hm:m<=n)(b:bM_)(hd:Dn r A! m)
  (h:pD!):Bf_ (tail3 m n):=by
 delta tail3;let b':DJ_ (setArr st (mirror A! 0 m ((m - 0) / 2))):=b.put km_;let hz:m<=(A!).size:=by rw[b.sz];omega
 exact CM_ (HF (c7p hl hn O hm b' (λi j h3 h4=>?_) λk h3 h4 u _=>IT (h k _ b' a! h4 u)));rw[a6c hz,a6c hz,aS!,aS!];exact hd _ _ a! a!
def c8s{st:SortSt}(hl:cZ!)(hn:eX_)(O:1<=m)(hm:m<=n)(b:bM_)(hd:Dn r A! m)
  (h:∀k q af,DJ_ af->m<=k->k<=n->Dn r w! k->q+1<=k->(∀i,k - (q+1)<=i->i<k->rk r w! i=rk r w! (k - 1))->Q (υ,k,q) af):Bf_ (descLoop m n):=by
 delta descLoop;exact NS (I:=λx c af=>∃q,c=(υ,x,q)/\DJ_ af/\Dn r w! x/\q+1<=x/\∀i,x - (q+1)<=i->i<x->BX! i=BX! g1!) ?_ ?_ #[0,χ,b,hd,n!,λi h2 h3=>by rw[show i=m - 1 by omega]]
 .rintro x c af h2 h3 ⟨q,rfl,b',d,hq,he⟩;let hz:x<=(w!).size:=by rw[b'.sz];omega
  exact El_ (FM h3 hn) Al_;by_cases p:BX! x<BX! g1!
  .rw[FH p];let qm:∀xs:Array Keyed,(∀k,rk r xs k=rk r w! k)->Dn r xs (x+1):=λxs hk i j h4 h5=>by
    rw[hk,hk];obtain h6|h6:=JA j x
    .exact d i j h4 h6
    .let:j=x:=by omega
     subst this;obtain h7|h7:=JA i j
     .let:=EH! d;omega
     .show"#D"
   by_cases u7:q>0
   .simp only[IB,u7];exact CM_ (IT #[0,χ,b'.put km_,qm _ (nA hz he),n!,Am_])
   .simp only[IB,u7,HD];exact IT #[0,χ,b',qm _ λ_=>χ,n!,Am_]
  .rw[FA p];dsimp only[Bool.false_eq_true,if_false];exact El_ Al_ (FM h3 hn);by_cases p2:BX! g1!<BX! x
   .rw[FH p2];exact IT (h x q af b' h2 (JH h3) d hq he)
   .rw[FA p2];let ex:BX! x=rk r w! g1!:=by omega
    exact IT #[q+1,χ,b',λi j h4 h5=>?_,n!,λi h4 h5=>?_]
    .obtain h6|h6:=JA j x
     .exact d i j h4 h6
     .let:j=x:=by omega
      subst this;obtain h7|h7:=JA i j
      .rw[ex];exact EH! d
      .show"#D"
    .rw[show x+1 - 1=x by omega];obtain h6|h6:=JA i x
     .rw[ex];exact he i a! h6
     .rw[show i=x by omega]
 .rintro c af ⟨q,rfl,b',d,hq,he⟩;rw[show max m n=n by omega]at d hq he ⊢;exact h n q af b' hm p! d hq he
def b6s{st:SortSt}(hl:cZ!)(hn:eX_)(hm:m+1<=n)(b:bM_)(hd:Dn r A! (m+1))
  (h:pD!):Bf_ (descPart m n):=by
 delta descPart;exact Em! (c8s hl hn a! hm b hd λk q af b' O h2 d hq he=>?_);by_cases u7:q>0
 .simp only[IB,u7];exact CM_ (b6r hl hn a! h2 (b'.put km_) (λi j h4 h5=>?_) h);let hz:k<=(w!).size:=by rw[b'.sz];omega
  rw[nA hz he,nA hz he];exact d i j h4 h5
 .simp only[u7,HD];exact b6r hl hn a! h2 b' d h
def c3e{st:SortSt}(hl:cZ!)(hn:eX_)(O:1<=n)(b:bM_)(h:pD!):
  wpS b_ A E s (countRun' 0 n) Q st:=by
 rw[countRun0_eq];exact HF (c7p hl hn (FF 1) O b (λi j h3 h4=>by rw[eY_];exact HE _) λm h3 h4 u XD=>?_);by_cases e:m=n
 .simp only[GS,e,IB];rw[<-e];exact IT Aq!
 .let ax:=XD.resolve_left e;simp![GS,e,HD];by_cases hg:m>1
  .simp only[hg,IB];exact HF (b6t hl b a! a! ?_);by_cases p:rk r A! 0<rk r A! kk_
   .rw[FH p];exact IT Aq!
   .rw[FA p];let u8:∀k,0<=k->k<m->EG! A!=rk r A! kk_:=λk _ hk=>by
     let a1:=u 0 k a! hk;let a2:=u k kk_ a! a!;omega
    let hz:m<=(A!).size:=by rw[b.sz];omega
    exact CM_ (b6s hl hn a! (b.put km_) Aq_ h);rw[nA hz u8,nA hz u8];obtain h7|h7:=JA j m
    .rw[u8 i a! a!,u8 j a! h7];exact HE _
    .let:j=m:=by omega
     subst this;obtain h8|h8:=JA i j
     .rw[u8 i a! h8];omega
     .show"#D"
  .simp only[hg,HD];let:m=1:=by omega
   subst this;exact b6s hl hn a! b Aq_ h;obtain h8|h8:=JA i j
   .rw[show i=0 by omega,show j=1 by omega];exact Int.le_of_lt ax
   .show"#D"
def d0l{lo hi k x n:δ}(h:¬lo>=hi)(g2:hi<=k)(g3:hi - lo<=k - x)(hk:k<n):lo<=be! / 2/\be! / 2<hi/\be! / 2<k/\be! / 2<n/\be! / 2 - lo<=k - (x+1)/\hi - (be! / 2+1)<=k - (x+1):=by
 let e1:lo<=be! / 2:=by omega
 let e2:be! / 2<hi:=by omega
 generalize be! / 2=m at *;let e3:=FM e2 g2;exact#[e1,e2,e3,OP e3 hk,Nat.le_sub_one_of_lt (FM (Nat.sub_lt_sub_right e1 e2) g3),Nat.le_sub_one_of_lt (FM (Nat.sub_lt_sub_left (Nat.not_le.mp h) (Nat.lt_succ_of_le e1)) g3)]
def d2p{st:SortSt}(hl:cZ!)(hn:eX_)(hk:k0<=n)(b:bM_)(hu:Up r A! k0)(h:∀af,DJ_ af->Up r w! n->Q τ af):
  wpS b_ A E s (binarySort' 0 n k0) Q st:=by
 rw[binarySort'_eq];simp![OO];exact HF (wpS_mono (NS (I:=λk c af=>c=gJ_/\SB kd a0 af/\Up r w! (min k n)) (Q:=λc af=>c=gJ_/\SB kd a0 af/\Up r w! n) ?_ ?_ #[χ,b,Ak_]) ?_)
 .rintro k c af h2 h3 ⟨rfl,b',u⟩;rw[show min k n=k by omega]at u;let z7:k<a0.size:=by omega
  exact HF (wpS_mono (NS (I:=λx c cz=>cz=af/\∃lo hi,c=(υ,lo,hi)/\lo<=hi/\hi<=k/\hi - lo<=k - x/\As!/\∀i,hi<=i->i<k->BX! k<BX! i)
   (Q:=λc cz=>cz=af/\∃lo hi,c=(υ,lo,hi)/\lo<=k/\As!/\∀i,lo<=i->i<k->BX! k<BX! i) ?_ ?_ #[χ,0,k,χ,n!,n!,n!,λi hi=>by omega,λi h4 h5=>by omega]) ?_)
  .rintro x c cz h4 h5 ⟨rfl,lo,hi,rfl,g1,g2,g3,g4,g5⟩;show"#-";by_cases z8:lo>=hi
   .rw[FE z8];let:lo=hi:=by omega
    subst this;exact IT As_
   .rw[FC z8];let#[m1,m2,m3,m4,m5,m6]:=d0l z8 g2 g3 z7;exact El_ z7 m4;by_cases p:EG! pF_<rk r pF_ pG!
    .rw[FH p];exact IT #[χ,lo,be! / 2,χ,m1,JH m3,m5,g4,λi h6 h7=>Int.lt_of_lt_of_le p (u pG! i h6 h7)]
    .rw[FA p];exact IT #[χ,be! / 2+1,hi,χ,m2,g2,m6,λi h6=>Int.le_trans (u i pG! (Nat.le_of_lt_succ h6) m3) (Int.not_lt.mp p),g5]
  .rintro c cz ⟨rfl,lo,hi,rfl,g1,g2,g3,g4,g5⟩;let:lo=hi:=by omega
   subst this;exact As_
  .rintro c cz ⟨rfl,lo,hi,rfl,g1,g4,g5⟩;rw[moveDown'_eq];exact HF (wpS_modify (IT #[χ,b'.put (bubble_perm _ _ _),λi j h6 h7=>?_]));rw[show min Q! n=k+1 by omega]at h7;let ux:k<(pF_).size:=by rw[b'.sz];exact z7
   rw[b6w ux a!,b6w ux a!,show k - (k - lo)=lo by omega];let n1:=g4;let n2:=g5;by_cases ei:i=lo
   .rw[FE ei];by_cases ej:j=lo
    .rw[FE ej];exact HE _
    .rw[FC ej];by_cases fj:lo<j/\j<=k
     .rw[FE fj];exact Int.le_of_lt (n2 dJ_ a! a!)
     .omega
   .rw[FC ei];by_cases fi:lo<i/\i<=k
    .rw[FE fi,a5_,aS!];exact u (i - 1) dJ_ a! a!
    .rw[FC fi];by_cases ej:j=lo
     .rw[FE ej];exact n1 i a!
     .rw[FC ej];by_cases fj:lo<j/\j<=k
      .rw[FE fj];exact EH! u
      .rw[FC fj];exact u i j h6 a!
 .rintro c af ⟨e,b',u⟩;rw[show min (max (max k0 1) n) n=n by omega]at u;exact#[e,b',u]
 .by_cases h0:k0=0
  .show"#D"
  .exact hu i j h3 a!
 .rintro c af ⟨rfl,b',u⟩;exact IT (h af b' u)
def c8r{st:SortSt}(hl:cZ!)(b:bM_)(h2:2<=a0.size)(z9:a0.size<64)
  (h:∀af,(w!).Perm a0->El! af=υ->D6_ w!->Q () af):Bf_ sortRuns':=by
 rw[sortRuns'_eq];exact HF eX!;let XG:minRun' a0.size a0.size 0=a0.size:=by
  let:∀f,minRun' (f+1) a0.size 0=a0.size:=λf=>by rw[minRun'_succ,FE z9];rfl
  let q:=this (a0.size - 1);rwa[show a0.size - 1+1=a0.size by omega]at q
 dsimp only;simp![b.sz,XG];let ak:∀{af:SortSt},DJ_ af->D6_ w!->(arrOf ko!).Perm a0/\El! ko!=υ/\EG_ ko!=[kn_].toArray/\D6_ (arrOf ko!):=
  λ{af} b' u=>#[b'.pm,b'.fl,by show(Au!).push _=_;rw[b'.pd];rfl,u]
 exact HF (wpS_mono (NS (I:=λx c af=>(x=0/\c=(υ,0)/\SB kd a0 af)\/(1<=x/\c=Au_/\(w!).Perm a0/\failedOf af=υ/\pendingOf af=[kn_].toArray/\Up r w! a0.size))
  (Q:=λc af=>c=Au_/\(w!).Perm a0/\El! af=υ/\EG_ af=[kn_].toArray/\D6_ w!) ?_ ?_ (.inl (Fv_ b))) ?_)
 .rintro x c af _ hx (⟨rfl,rfl,b'⟩|⟨_,rfl,d⟩)
  .show"#-";rw[a5_];simp![Nat.sub_zero,Nat.min_self,OO];exact HF (c3e hl p! a! b' λm cz b2 g1 g2 u2=>?_);by_cases ax:m<a0.size
   .simp only[ax,IB];exact Em! (d2p hl p! g2 b2 u2 λom b3 u3=>?_);simp![NA,GC,HD];exact HF eX!;rw[show(EG_ om).back?=υ by rw[b3.pd];rfl];exact C1_ b3 u3
   .simp only[ax,HD];let:m=a0.size:=by omega
    subst this;exact HF eX!;rw[show(EG_ cz).back?=υ by rw[b2.pd];rfl];exact C1_ b2 u2
  .show"#-";rw[FE p!];exact IT #[χ,d]
 .rintro c af (⟨hx,_⟩|⟨_,e,d⟩)
  .omega
  .exact#[e,d]
 .rintro c af ⟨rfl,d1,d2,d3,d4⟩;exact HF (wpS_mono (NS (I:=λ_ c cz=>cz=af/\c=gJ_) ?_ Aw_ aa_) ?_)
  .rintro x c cz _ _ ⟨rfl,rfl⟩;exact HF eX!;rw[FE (by rw[d3];exact FF 1)];exact IT aa_
  .rintro c cz ⟨rfl,rfl⟩;exact IT (h _ d1 d2 d4)
end
abbrev Xz:Bool->SortKind:=sortPriv%PySem.Builtin.KeyKind.tuples
section
variable{prog:xz!}{w:wY!}{A:w5!}{E:Value->Shared->Prop}{s:x1!}
def Hf(h:Heap)(v:wX!)(a b:Int):Prop:=∃(p:uv!) (o:Obj) (n:δ) (t u:Tok),v=.ref p/\h.get? p=ψ o/\o.cls=.type "tuple"/\o.data=.seq [.int a t,.int b u].toArray n
def AM(a b c d:Int):Bool:=if a=c then decide (b<d)else decide (a<c)
def wK(h:Fc! (a<b) s):Gy_ (oneLt' f (.int a t) (.int b u)):=by
 cases f with
 |true=>exact oneLt_int h
 |false=>
  rw[oneLt'_eq];rw[FC FZ];exact ES (show wpAny b_ A (compareOp .Lt (.int a t) (.int b u)) _ E s from PyProof.Rows.lt_int ?_);exact GP h
def a7k(hx:Br! Hf x a b)(hy:Br! Hf y c d)(h:Q (AM a b c d) s):Gy_ (keyLt' (Xz f) x y):=by
 let#[p,o,n,t,u,rfl,O,_,h2]:=hx;let#[p',o',n',t',u',rfl,ko,_,j8]:=hy;exact ES (listItems_at O h2 (ES (listItems_at ko j8 d4!)));show Ac! (forIn [((Value.int a t,Value.int c t'),0),((Value.int b u,Value.int d u'),1)] _ _) _ E s;rw[KR];exact GS! (PD a t c t' _ _ _ _ ?_);delta AM at h;by_cases e:a=c
 .rw[FE e]at h;let e1:(a==c)=true:=by simpa using e
  rw[e1];dsimp only[Bool.not_true,Bool.false_eq_true,if_false];exact EV ?_;show"#-";rw[KR];exact GS! (PD b u d u' _ _ _ _ ?_);by_cases e2:b=d
  .let e3:(b==d)=true:=by simpa using e2
   rw[e3];dsimp only[Bool.not_true,Bool.false_eq_true,if_false];exact EV ?_;dsimp only;rw[List.forIn_nil];exact EV K_;let e4:decide (b<d)=false:=by rw[e2];simp
   rw[e4]at h;simpa using h
  .let e3:(b==d)=false:=by simpa using e2
   rw[e3];show"!o"
 .rw[FC e]at h;let e1:(a==c)=false:=by simpa using e
  rw[e1];show"!o"
def a8g:∀(xs:A_),Ay_->(Gj! Q ys.toArray)->Gy_ (xs.toArray.mapM f):=by
 intro xs hf hq;rw[Array.mapM_eq_mapM_toList];let lu:∀(xs:A_) (R:μ β->Shared->ν),Ay_->(Gj! R ys)->Ac! (xs.mapM f) R E s:=by
  intro xs
  induction xs with
  |nil=>
   intro R _ h;rw[List.mapM_nil];exact EV (h [] .nil)
  |cons x xs ih=>
   intro R O h2;rw[List.mapM_cons];exact ES (O x EY _ λy hy=>ES (ih _ (λz hz=>O z kq!) λys rp=>EV (h2 _ (.cons hy rp))))
 let:(List.toArray<$>xs.toArray.toList.mapM f:Sem (Array β))=(xs.toArray.toList.mapM f>>=λl=>pure l.toArray):=by rw[map_eq_pure_bind]
 rw[this];exact ES (lu _ _ (AM! hf) λys rp=>EV (hq ys (AM! rp)))
def b9u(h:∀v∈vs,∃a b,Br! Hf v a b)(h0:vs≠[])(hq:Q (Xz τ) s):Gy_ (keyKind' bC_):=by
 exact ES (a8g (F:=λ_ y=>∃a t,y=ψ kq_) vs Az_ λys rp=>?_)
 .let#[a,b,p,o,n,t,u,rfl,O,h2,h3]:=h v hv;exact Cl! wpAny_typeOf nv!;rw[bD!];exact ES (listItems_at O h3 (EV (hR _ #[a,t,χ])))
 .let jw:∀y∈ys,∃a t,y=ψ kq_:=by
   let lu:∀{l:k_} {m:μ t0_},B7! (λ_ y=>∃a t,y=ψ kq_) l m->∀y∈m,∃a t,y=ψ kq_:=by
    intro l m hp
    induction hp with
    |nil=>intro y hy;exact(FU hy).elim
    |cons q _ ih=>
     intro y hy;obtain rfl|hy:=FD.mp hy
     .exact q
     .exact ih y hy
   exact lu rp
  let am:ys≠[]:=λz=>by subst z;cases rp;exact h0 χ
  rw[FE (by rw[List.all_toArray,IM];intro y hy;let#[a,t,rfl]:=jw y hy;rfl)];exact ES jd!;let hints:∀v∈(AA_).toList,∃a t,v=Value.int a t:=λv hv=>by
   simp![List.filterMap_toArray,JQ,id]at hv;let#[y,hy,e]:=hv;let#[a,t,e2]:=jw y hy;rw[e2]at e;exact#[a,t,(GN e).symm]
  let hz:(AA_).toList≠[]:=λz=>by
   cases ys with
   |nil=>exact am χ
   |cons y r=>
    let#[a,t,rfl]:=jw y EY;simp at z
  generalize hZ:ys.toArray.filterMap id=XH at hints hz ⊢;let#[zs]:=XH;exact ES ?_;exact ES (a8g (F:=λ_ y=>y=Value.type "int") zs Az_ λts TU=>?_)
  .let#[a,t,rfl]:=hints v h9_;exact wpAny_typeOf (typeIs_int s a t) (hR _ χ)
  .let TV:∀t∈ts,t=DR! "int":=by
    let lu:∀{l m:k_},B7! (λ_ y=>y=Value.type "int") l m->∀y∈m,y=DR! "int":=by
     intro l m hp
     induction hp with
     |nil=>intro y hy;exact(FU hy).elim
     |cons q _ ih=>
      intro y hy;obtain rfl|hy:=FD.mp hy
      .exact q
      .exact ih y hy
    exact lu TU
   cases ts with
   |nil=>cases TU;exact AS! hz
   |cons t r=>
    let ht:=TV t EY;subst ht;let e1:((AB!).toArray)[0]?=ψ (DR! "int"):=χ;rw[e1];let e2:((AB!).toArray.all λx=>x==Value.type "int")=true:=by
     rw[List.all_toArray,IM];intro y hy;rw[TV y hy];rfl
    show"#-";rw[FE e2];exact EV (EV hq)
end
def Lw(p q:Int×Int):Bool:=AM p.1 p.2 q.1 q.2
def zM:Lw p q=τ↔(p.1<q.1\/(p.1=q.1/\p.2<q.2)):=by
 delta Lw AM;split
 .rename_i h;rw[FV];omega
 .rename_i h;rw[FV];omega
def b0l(p:Int×Int):Lw p p=false:=by
 cases h:Lw p p with
 |false=>rfl
 |true=>let:=zM.mp h;omega
def lK(O:Lw p q=τ)(h2:Lw q r=τ):Lw p r=true:=by rw[zM]at O h2 ⊢;omega
def zL(h:p≠q)(O:Lw p q=θ):Lw q p=true:=by
 let ko:¬Lw p q=true:=by rw[O];decide
 rw[zM]at ko ⊢;let:¬(p.1=q.1/\p.2=q.2):=λz=>h (Prod.ext z.1 z.2);omega
section
variable{α:Type}(kf:α->Int×Int)
def Rb(x:α):μ α->μ α
 |[]=>[x]
 |y::r=>if Fw! kf then x::y::r else y::Rb x r
def Jf:μ α->μ α
 |[]=>[]
 |x::r=>Rb kf x (Jf r)
def Sz(l:A_):Prop:=l.Pairwise λx y=>Fw! kf=τ
variable {kf}
def qB(x:α):∀l:List α,(Rb kf x l).Perm (x::l)
 |[]=>MF _
 |y::r=>by
  delta Rb;split
  .exact MF _
  .exact((qB x r).cons y).trans (List.Perm.swap x y r)
def gD:∀l:List α,(Jf kf l).Perm l
 |[]=>MF _
 |x::r=>(qB x _).trans ((gD r).cons x)
def a4g:∀{l:A_},Sz kf l->(∀y∈l,kf x≠kf y)->Sz kf (Rb kf x l)
 |[],_,_=>List.pairwise_singleton _ _
 |y::r,h,hn=>by
  delta Rb;delta Sz at h;rw[HL]at h;split
  .rename_i ax;exact HL.mpr #[ks!,HL.mpr h];obtain rfl|hz:=FD.mp hz
   .exact ax
   .exact lK ax (h.1 z hz)
  .rename_i ax;exact HL.mpr #[ks!,a4g h.2 λz hz=>hn z kq!];obtain rfl|hz:=FD.mp ((qB x r).mem_iff.mp hz)
   .exact zL (hn y EY) AC_
   .exact h.1 z hz
def sO:∀{l:A_},(l.map kf).Nodup->Sz kf (Jf kf l)
 |[],_=>oJ_
 |x::r,h=>by
  rw[FI,GZ]at h;exact a4g (sO h.2) λy hy e=>h.1 ?_;rw[e];exact GU ((gD r).mem_iff.mp hy)
def a1t:∀{l m:A_},Sz kf l->Sz kf m->l.Perm m->l=m
 |[],m,_,_,h=>(List.Perm.nil_eq h)
 |x::l,m,O,h2,h=>by
  cases m with
  |nil=>exact Ac_ h.length_eq nofun
  |cons y m=>
   let e:x=y:=by
    obtain e|hx:=FD.mp (h.mem_iff.mp EY)
    .exact e
    .obtain e|hy:=FD.mp (h.symm.mem_iff.mp EY)
     .exact e.symm
     .let a1:=(HL.mp O).1 y hy;let a2:=(HL.mp h2).1 x hx;let:=lK a1 a2;rw[b0l]at this;exact AN_ this
   subst e;rw[a1t (HL.mp O).2 (HL.mp h2).2 ((List.perm_cons x).mp h)]
def b7u(h:l.Perm m):∀{L:A_},m=L.map f->∃L':List α,L'.Perm L/\L'.map f=l:=by
 induction h with
 |nil=>intro L e;exact#[[],by rw[List.map_eq_nil_iff.mp e.symm],χ]
 |cons x _ ih=>
  intro L e;cases L with
  |nil=>cases e
  |cons y L=>
   injection e with e1 e2
   let#[L',O,h2]:=ih e2;exact#[y::L',O.cons y,by rw[FI,h2,e1]]
 |swap x y l=>
  intro L e
  match L,e with
  |a::b::L,e=>
   injection e with e1 e2
   injection e2 with e3 e4
   exact#[b::a::L,List.Perm.swap a b L,by rw[FI,FI,<-e1,<-e3,<-e4]]
 |trans _ _ XI XJ=>
  intro L e;let#[L2,O,h2]:=XJ e;let#[L1,h3,h4]:=XI h2.symm;exact#[L1,h3.trans O,h4]
def Kq(ks:μ kt!)(k:Int×Int):Int:=((ks.filter λx=>Lw x k).length:δ)
def pL(hp:p∈ks)(h:Lw p q=τ):Kq ks p<Kq ks q:=by
 delta Kq;let lu:∀l:List kt!,(AF!).length<=(AF_).length:=by
  intro l
  induction l with
  |nil=>simp
  |cons x l ih=>
   simp![OT];by_cases hx:Lw x p=τ
   .simp only[hx,lK hx h,IB,FN];omega
   .by_cases hy:Lw x q=τ
    .show"#Q"
    .simp only[hx,hy];simp![GC,HD];exact ih
 let XO:∀l:List kt!,p∈l->(AF!).length<(AF_).length:=by
  intro l hl
  induction l with
  |nil=>cases hl
  |cons x l ih=>
   obtain e|hl:=FD.mp hl
   .subst e;let:=lu l;simp![OT,b0l,h,IB,FN,GC,HD];omega
   .let:=ih hl;simp![OT];by_cases hx:Lw x p=τ
    .simp only[hx,lK hx h,IB,FN];omega
    .by_cases hy:Lw x q=τ
     .show"#Q"
     .simp only[hx,hy];simp![GC,HD];exact this
 let:=XO ks hp;omega
def c3k(hp:p∈ks)(hq:q∈ks):decide (Kq ks p<Kq ks q)=Lw p q:=by
 cases h:Lw p q with
 |true=>exact FH (pL hp h)
 |false=>
  exact FA λz=>?_;by_cases e:p=q
  .subst e;omega
  .let:=pL hq (zL e h);omega
end
section
open Classical
variable{h:Heap}
def Hf.inj(x:Hf h v a b)(y:Hf h v c d):(a,b)=(c,d):=by
 let#[p,o,n,t,u,rfl,O,_,h2]:=x;let#[p',o',n',t',u',e,ko,_,j8]:=y;cases e;rw[O]at ko;rcases ko;rw[h2]at j8;injection j8 with h3 _
 let:=GA_ h3;simp at this;rw[this.1.1,this.2.1]
def Pa(h:Heap)(v:wX!):Int×Int:=if x:∃a b,Hf h v a b then(x.choose,x.choose_spec.choose)else(0,0)
def a0a(x:Hf h v a b):Pa h v=(a,b):=by let z:∃a b,Hf h v a b:=#[a,b,x];delta Pa;rw[dif_pos z];exact z.choose_spec.choose_spec.inj x
def a1v(ha:g0!=L.map q!)(hk:∀q∈L,Hf h q.1.1 (kf q.2).1 (kf q.2).2)(nd:(pK!).Nodup)(hp:u9.Perm a0)
  (hu:Up AH! u9 a0.size):∃L':List pK_,L'.Perm L/\u9.toList=L'.map q!/\L'.map an_=Jf kf pJ_:=by
 let cr:u9.toList.Perm g0!:=Ec! hp;let#[L',O,h2]:=b7u cr ha;exact#[L',O,h2.symm,a1t ?_ (sO nd) ((O.map _).trans (gD _).symm)];let B3:((L'.map an_).map kf).Nodup:=(((O.map _).map _).nodup_iff).mpr nd;delta Sz;rw[List.pairwise_iff_getElem];intro i j hi hj XQ;let ip:i<g4_:=by simpa using hi
 let w4:j<g4_:=by simpa using hj
 let da:a0.size=g4_:=by rw[<-IE,ha,EX,O.length_eq]
 let TW:∀k (gq:k<g4_),rk AH! u9 k=Kq pK! (Em_ k):=λk gq=>by
  delta rk;let e:u9[k]?=ψ L'[k].1:=by
   rw[<-LM,<-h2,GF,GH gq];rfl
  rw[e];show Kq _ (Pa h L'[k].1.1)=_;rw[a0a (hk L'[k] AI_)]
 let ng:=hu i j (JH XQ) a!;rw[TW i ip,TW j w4]at ng;simp![List.getElem_map];let mem:∀k (gq:k<g4_),Em_ k∈(pJ_).map kf:=λk gq=>GU (GU AI_);let ne:Em_ i≠Em_ j:=λe=>by
  let q:=(List.getElem_inj (i:=i) (j:=j) (h₀:=by simpa using ip) (h₁:=by simpa using w4) B3).mp cf!;omega
 cases ax:Lw (Em_ i) (Em_ j)with
 |true=>rfl
 |false=>
  let:=pL (mem j w4) (zL ne ax);omega
end
section
variable{X:Cx}{Z:List (Addr×Obj)}{U:St}{hb H:Hp}{s:x1!}{A:w5!}{E:Value->Shared->Prop}
def Ra:D->wY_ kt!
 |.tup [.int a,.int b]=>ψ (a,b)
 |_=>υ
def b8b(I:c!)(sub:M!)(r:bK!)(e:Ra d=ψ (a,b)):Br! Hf u a b:=by
 delta Ra at e;show"!6"
 .cases e;let#[v,r,ru]:=r;show"!f";subst ru;show"!8";obtain rfl:=aW r1;obtain rfl:=aW r2;show"#>";let#[x,y,rfl,#[t,rfl],#[u,rfl]]:=qJ rv;exact#[p,o,n,t,u,χ,O,h2,h3]
 .rcases e
def b9i{P:Value->D->ν}{R:D->Value->ν}(O:Paired P ku ds):∀{us:k_},Paired R ds us->∀q∈(ku.zip us).zip ds,P q.1.1 q.2/\R q.2 q.1.2:=by
 induction O with
 |nil=>intro _ _ q h;simp at h
 |cons p t ih=>
  intro _ h2 q h;cases h2 with
  |cons r u=>
   rw[List.zip_cons_cons,List.zip_cons_cons]at h;obtain rfl|h:=FD.mp h
   .exact#[p,r]
   .exact ih u q h
def lR:∀{l:μ γ},(∀q∈l,R (f q) (h q))->Paired R kt_ (l.map h)
 |[],_=>.nil
 |q::r,hh=>.cons (hh q (EY ..)) (lR λz hz=>hh z kq!)
def tJ(h:Paired R l m):bt_=m.length:=by
 induction h with
 |nil=>rfl
 |cons _ _ ih=>rw[FN,FN,ih]
def qL{KF:ye!}:∀{ds:e!} {vs:l_} {us:k_},tT! hb->Bp vs us->HA_ e0!
 |[],vs,us,r,p=>by obtain rfl:=cJ r;cases p;exact .nil
 |d::ds,vs,us,r,p=>by
  let#[v,t,rfl,r1,r2]:=bK r;cases p with
  |cons a b=>exact .cons #[v,r1,a] (qL r2 b)
def qM{KF:ye!}(h:HA_ e0!):∃vs,tT! hb/\Bp vs us:=by
 induction h with
 |nil=>exact#[[],Am.nil,.nil]
 |cons p _ ih=>
  let#[v,r,p]:=p;let#[vs,r2,p2]:=ih;exact#[v::vs,Am.cons r r2,.cons p p2]
def c2u(I0:m2! H0 s0)(I:c!)(sub:M!)(hs:Ah_<=a)(pu:B7! ku! ds bi)(hz:e_<=sizeLine)(ho:qY_ a=ψ AK_)(hn:e7_)
  (hQ:∀v G' H',Bm! hb H->CS_ G' bm_->Q v H'):Hk_ u!:=by
 let#[vs,r,p]:=qM pu;let f:=I0.fpOk hs hn;exact#[H!,upd H a dn_,I.track ho p (by rw[<-aE r];exact hz) hn ?_ f.2.1 f.2.2.2.2.1 f.2.2.2.2.2,χ,hQ _ _ _ (Cq.laid sub hn) ?_]
 .exact GB I0.sz hs
 .exact Bc.lst (Er.of aV) (r.mono (λb u e=>by rw[aH (λz=>by rw[z]at e;rw[sub _ _ e]at hn;rcases hn)];exact e))
def b5j:AS_ "sorted"=ψ AL!:=by decide+kernel
variable{own:List Nat}{fa:Ac->Option D}{e:Expr}{pos p p2 kp:Pos}{x:Str}
end
def c2t(hd:Aa!):W.KdlSrc P w "dict" d d es.length pz_ (λh=>Qc h d es ep) where
 type:=λ_ hm=>hm.typeIs
 there:=λ_ hm=>by let#[_,ho,_]:=hm;exact#[FK ho,FK ho]
 keep:=λ_ _ hm hk=>hm.at λo e=>hk d q_ o e
 notList:=by decide
 notTuple:=by decide
 hint:=λ_ _ _ _ hm hq=>W.kdl_hint_dict hm.typeIs hq
 iter:=λ_ _ hh hm=>#[_,_,(λ_ _ hq=>d1b hd hm hq),b1w hh _ d (by let#[_,ho,_]:=hm;exact FW e8_) es ep,#[dY!,hm.at λo e=>EU _ e]]
section
variable{X:Cx}{Z:List (Addr×Obj)}{U:St}{hb H:Hp}{s:x1!}{A:w5!}{E:Value->Shared->Prop}
def d0s{KF:ye!}(ok:gO!)(hi:pM!):B7! e0! gN_ ku_:=by
 let ea:ku_=es.map jR!:=by
  apply pM_;intro i;rw[GF];by_cases h:i<aE_
  .let O:i<av.size:=by rw[hi.1];exact h
   show"!s"
  .rw[pN!,II a!];rfl
 rw[ea];let:∀{h1:U_} {es:b9_},B7! pO! h1 es->B7! e0! gN_ e0_:=λ{h1 es} h=>by
  induction h with
  |nil=>exact .nil
  |cons a _ ih=>exact DB_ a
 exact this pN_
def La(d:D):Int×Int:=(Ra d).getD (0,0)
def Uz(ds:e!):ι aB_:=if kv!=τ/\(kx!).Nodup/\e_<64 then ψ kx_ else υ
def d2l(I:c!)(sub:M!)(pu:HA_ ku!)(ha:qY_ a=ψ (seqObj "list" us.toArray n))(l9:e7_)
  (nu:Iy X Z H a)(ek:kv!=τ)(nd:(kx!).Nodup)(z9:e_<64)
  (hP:∀s' bi n',m2! H s'->B7! ku! kx_ bi->Cl_ a=ψ AK_->P ky_ s'):
  wpAny d_ A (Builtin.«list.sort» oF_) P E s:=by
 let l1:=(tJ pu).symm;obtain⟨e1,TY⟩:∃e1,(GE! a).get? a=ψ (seqObj "list" #[] e1):=#[_,get?_update_seq ha λ_=>#[]];rw[list_sort_plain];exact Fb! listItems_at ha;exact ES (listUpdate_at ha χ ?_ (by rw[FG,HG];omega) b6!);exact Fb! seqEpoch_at TY;exact ES (wpAny_newTuple ?_ (by show am_<=_;rw[HG];omega));exact F3! b6!;exact GE ?_;let I1:m2! H {s with heap:=(kA!).push kA_}:=
  sC I pQ! λb o G q=>CB! ((pQ_).trans q)
 let rq:((kA!).push kA_).get? a=some (seqObj "list" #[] e1):=EU _ (EU _ TY);generalize (kA!).push kA_=h3 at I1 rq ⊢;let pk:∀d∈ds,Ra d=some (La d):=λd hd=>by
  let:=IM.mp ek d hd;delta La;cases q:Ra d with
  |none=>rw[q]at this;exact AN_ this
  |some z=>rfl
 let z:B7! pR! us ds:=by
  let gen:∀{ds:e!} {us:k_},HA_ ku!->(∀d∈ds,Ra d=ψ (La d))->B7! pR! us ds:=λ{ds us} h=>by
   induction h with
   |nil=>exact λ_=>.nil
   |cons r _ ih=>exact λhk=>.cons (b8b I1 sub r (hk _ (EY ..))) (ih λd hd=>hk d (EW _ hd))
  exact gen pu pk
 let mem:=b9i z pu;let va:(e2!).toList=Cy_ e2_:=by
  rw[ksk_zip,List.map_fst_zip qJ!]
 let hd:FR! e2_=ds:=List.map_snd_zip qJ!;let ak:∀{L':μ pK_} {st:SortSt},L'.Perm e2_->(A!).toList=L'.map q!->L'.map an_=Jf La ds->El! st=υ->
   P ky_ {s with heap:=h3.update a (Obj.mapSeq λ_=>(A!).map an_)}:=λ{L' st} b1 b2 b3 b4=>by
  let XT:FR! A!=(pS!).toArray:=by
   apply ND.mp;rw[Array.toList_map,b2,HU];rfl
  rw[XT];exact hP _ _ _ (sC (s:={s with heap:=h3}) (wr:=[a]) (t':=s.toks) I1 pQ! λb o G q=>(pQ_).trans q) ?_ (get?_update_seq rq λ_=>(pS!).toArray);rw[<-b3];exact lR λq hq=>(mem q (b1.mem_iff.mp hq)).2
 let TZ:∀{L':μ pK_} {st:SortSt},L'.Perm e2_->(A!).toList=L'.map q!->(FR! A!).size<=sizeLine+1:=λ{L' st} b1 b2=>by
  rw[Array.size_map,<-IE,b2,EX,b1.length_eq,KP,KP,HG];omega
 by_cases h2:nP_<2
 .rw[FE h2,FE h2];exact ES K_;show"#-";rw[StateT.run_pure];exact ES K_;show"#-";exact ES pT!;exact DP! (TZ (L':=(fd_).zip ds) (MF _) va);simp![failedOf,bne_self_eq_false,GC,HD];exact EV (ak (L':=(fd_).zip ds) (st:=SortSt.mk' general' e2! #[] 7 υ) (MF _) va ?_ χ);rw[hd];rw[FG,l1]at h2
  match ds,h2 with
  |[],_=>rfl
  |[x],_=>rfl
  |_::_::r,h2=>simp at h2;omega
 .rw[FC h2,FC h2];rw[FG]at h2;exact ES (b9u (vs:=us) (λv hv=>?_) (λz=>by rw[z]at h2;simp at h2) ?_)
  .let#[i,hi]:=Fc_ hv;let#[d,_,p]:=iP z hi;exact#[_,_,p]
  .let hsz:(e2!).size=e_:=by rw[<-IE,va,EX,KP,KP];omega
   let hk:∀q∈(fd_).zip ds,Hf h3 q.1.1 (La q.2).1 (La q.2).2:=λq hq=>(mem q hq).1;let B3:(e4_).Nodup:=by rw[hd];exact nd
   exact ES (GK (c8r (kd:=Xz τ) (a0:=us.toArray.zip gi!) (r:=λp=>Kq e4_ (Pa h3 p.1)) (Q:=λ_ af=>(w!).Perm e2!/\El! af=υ/\Up (λp=>Kq e4_ (Pa h3 p.1)) w! (e2!).size)
    (λx y F Q hx hy hq=>?_) #[Array.Perm.refl _,χ,χ,χ] (CY_ hsz) (w4_ hsz z9) λaf a1 a2 a3=>#[a1,a2,a3]) ?_ λ_ _ e=>e)
   .rw[va]at hx hy;let#[p,hp,rfl]:=GJ.mp hx;let#[q,i8,rfl]:=GJ.mp hy;exact a7k (hk p hp) (hk q i8) ?_;let mm:∀p∈(fd_).zip ds,La p.2∈(pU_).map La:=λp hp=>GU (GU hp);let hh:decide pW_=Lw (La p.2) (La q.2):=by
     rw[a0a (hk p hp),a0a (hk q i8)];exact c3k (mm p hp) (mm q i8)
    let w5:Fc! pW_ {s with heap:=h3}:=hq;rw[hh]at w5;exact w5
   .rintro⟨⟨⟩,af⟩ s' ⟨rfl,a1,a2,a3⟩;show"#-";let#[L',b1,b2,b3]:=a1v va hk B3 a1 a3;exact ES pT!;exact DP! (TZ b1 b2);rw[a2];simp![bne_self_eq_false,GC,HD];exact EV (ak b1 b2 (by rw[b3,hd]) a2)
def a3z{es:b9_}(hi:pM!):ku_=es.map jR!:=by
 apply pM_;intro i;rw[GF];by_cases h:i<aE_
 .let O:i<av.size:=by rw[hi.1];exact h
  show"!s"
 .rw[pN!,II a!];rfl
def CP(M:Mh):μ D->ι D
 |[d]=>(Gr M d).map λq=>.lst kF!
 |_=>υ
def b4f{KF:ye!}(ok:gO!):∃ys,Am KF hb gN_ ys/\Bp ys e0_:=by
 let:∀{h1:U_} {es:b9_},B7! pO! h1 es->B7! e0! gN_ e0_:=λ{h1 es} h=>by
  induction h with
  |nil=>exact .nil
  |cons a _ ih=>exact DB_ a
 exact qM (this pN_)
def Vc(KF:ye!):μ V->Hp->VK->Prop:=λxs H Q=>∃hb ds,By hb H/\(∃d es ep,xs=[.ref d]/\H d=ψ (dE d es ep)/\Paired e0! ds e0_)/\kv!=τ/\(kx!).Nodup/\e_<64/\∀v G' H',Bm! hb H->Bc KF G' (.lst kx_) v->Q v H'
def vT(hc:af_):Ft X AL! (Vc X.K):=by
 rintro Z s U H xs us Q I r ⟨hb,ds,sub,⟨d,es,ep,e1,e2,hv⟩,q1,q2,q3,k⟩;subst e1;cases r with
 |cons ra rb=>
  cases rb;subst ra;let#[#[h3,h4,h5],_]:=(show Dv X.prog X.w H s.heap d (dE d es ep)from I.hok d _ e2);let lz:aE_=e_:=by rw[tJ hv,EX]
  exact Calls.call_function_entry kind_sorted plain_sorted entry_sorted (args_sorted1 _) ?_;delta Builtin.«sorted»;exact ES K_;exact ES (W.kdu_collect (c2t h4) by! h3 j4_ λh' tk av hk hi=>?_);let ia:=a3z hi;exact F3! (by rw[ia,EX,HG];omega);rw[ia];let I1:=I.kept (t':=tk) hk;let v6:(h'.push kF_).get? fK_=ψ kF_:=FP _ χ;let I2:m2! H {s with heap:=h'.push kF_,toks:=tk}:=I1.kept λb u q=>EU _ q;let hn:=Ck_ p!;exact Fk_ (GQ slot_list_sort (HF! v6) entry_list_sort ?body (args_list_sort _))
  case body=>
   exact d2l I2 sub hv v6 hn (I1.fpOk p! hn) q1 q2 q3 λs3 us3 n3 I3 p3 XU=>Hp_ xe!;exact c2u I1 I3 sub p! p3 (by rw[(gD _).length_eq,HG];omega) XU hn k
def Qu(M:Mh):μ D->ι D
 |[d]=>(Gr M d).bind λq=>(Uz kF!).map D.lst
 |_=>υ
def c1w{KF:ye!}:uu_ Sk (Vc KF) Qu:=by
 intro vs ds d M hb H Q sub m r e k;delta Qu at e;show"!6"
 .let#[q,e1,e]:=ET.mp e;let#[l,e2,rfl]:=EZ.mp e;delta Uz at e2;split at e2
  .rename_i hz;rcases e2;let#[v,rfl,r1]:=dD r;let#[rfl,rfl,hM]:=cW r1 e1;let#[es,O,h2]:=(m.cell q.1 _ hM).2;let#[ys,g1,g2]:=b4f h2;exact#[hb,_,sub,#[q.1,es,q.2.2,χ,O,qL g1 g2],hz.1,hz.2.1,hz.2.2,k]
  .rcases e2
 .rcases e
end
def Ri(KF:ye!)(C:uv!)(m qual:Str)(st:Stmt)(ps:l!):Prop:=∃ag fd,FK_ m qual/\AV_ KF/\Vr KF C m ag
def Vv(KF:ye!)(mg:o!)(x:Str)(C:uv!)(qual:Str)(st:Stmt)(ps:l!):Prop:=mg x=ψ m_/\∃ag fd,CN! KF ag/\AV_ KF/\Mk KF C ag
section
variable{P:xz!}{w:wY!}{KF:ye!}{mg:Str->Option Value}{base h:Heap}{x qual:Str}{st:Stmt}{N ps:List Str}{k:Nat}{bx:List Nat}{q:WS}{C:uv!}
def pP(d:n7_)(S:bY!)
  (G:∀{ag:uv!} {ah:wX!} {A:w5!} {outer:C_} {s:x1!} {H:Hp} {E:XK},Ba k eE!->N.Nodup->Ej! Uc xy_):
  Xv P w KF mg base Q! x ps ki!:=by
 show"##";exact#[ag,fd,kG_,B,m,F.kp]
def b3p(c:Ud KF C)(d:Ri KF C x qual st ps)(S:bY!)
  (G:pY!):
  Tc P w KF mg base Q! C x ps ki!:=by
 show"##";exact#[c,ag,fd,m,kG_,B]
def c4j(d:F3_ x)(S:bY!)
  (G:pY!):
  Yv P w KF mg base Q! x C ps ki!:=by
 let#[m,ag,fd,F,B,mk]:=d;exact#[m,ag,fd,mk,kG_,B]
def c5a{kV:wX!}
  (a:W.findIn KF m_ x=ψ dc!)(i:pY_)(l:FZ! f=ψ t2_)
  (c:pZ_)(k:jl_)
  (b:t2!):Ri KF C x qual st ps:=
 #[f,_,jm_,n8_,#[a,i,k]]
def d3l{kV:wX!}(m:kH!)
  (a:W.findIn KF m_ "__init__"=ψ dc!)(i:pY_)(l:FZ! f=ψ p0_)
  (c:pZ_)(k:jl_)(mm:W.makesIn KF C=τ)(kc:Bt_ KF m_=τ)
  (b:p1_):F3_ x:=
 #[m,f,_,jm_,n8_,#[mm,a,i,kc]]
def usS{p:dM!}(h:∀a us,am_=n->p (a::us))(us:A_)(e:am_=n+1):p us:=by
 cases us with
 |nil=>cases e
 |cons a us=>exact h a us (Nat.succ.inj e)
def pF{p:dM!}(h:∀a,p [a]):∀us:List α,am_=1->p us:=usS λa us e=>by cases us with|nil=>exact h a|cons=>cases e
def uZ{p:dM!}(h:∀a b,p ac_):∀us:List α,am_=2->p us:=usS λa=>pF (h a)
def us3{p:dM!}(h:∀a b c,p dM_):∀us:List α,am_=3->p us:=usS λa=>uZ (h a)
def us4{p:dM!}(h:∀a b c d,p kI_):∀us:List α,am_=4->p us:=usS λa=>us3 (h a)
def us5{p:dM!}(h:∀a b c d e,p kJ!):∀us:List α,am_=5->p us:=usS λa=>us4 (h a)
def M0:Mh:=λ_=>υ
def c5j{ns:B_}(hS:DU_ KF)(hg:g kJ_ M0 λd _=>d=.bl τ):uu_ Xp 1 g [H!] H jI_ λ_ _ _=>False:=
 #[χ,H,kJ_,M0,_,By.refl H,#[λa c e=>by rcases e],BB_ (Bc.lst hS (xB ns)),hg,λd M' v G' H' r _ _ q=>by subst r;exact cP q]
end
end DL
namespace L2
open PySem PySem.Spec PyProof.Rows
def a9e
  (hN:V!)(ip:Z_)(hx:aT_)
  (cn:aX!)(df:a7!)(ic:∀y∈aO!,y.2=.local->scope.names.lookup y.1=Ad! ψ)
  (gr:cx!)(cap:a6_)(calm:af_)(bq:fp!)
  (hg:en_)(hi:uE!)(he:uE_)
  (hs:aM_:=by intro _;rfl)
  (ii:Hg_ hb_ lj_=pure true:=by rfl)
  (hf:X.fn x=τ\/qg! x=Ad! some:=by first|exact .inl χ|exact .inr χ|assumption):
  PS X (Ck! lk_ hb_) (Wn m4_ c6_):=by
 show"#:";show"#9"
 rw[exec_Assign_Name_used x pos' _ pos ii];exact ES (HX d4!);delta evalThenUse;exact ES (Cv_ hs);let#[it,fp,tn,J,H2,e,I2,T,cz,f2,hw]:=h2;subst e;exact BU_ T;rintro D' C us n ys H' s' I' eD rv az nD hD hC gw nC ⟨m,hn⟩ ak;let dw:∀b,b<t_->b≠C/\b≠D':=λb G=>m6!;let jy:∀x c,ro_ x=ψ c->c<t_:=λx c h=>by let#[_,_,ho,_]:=Dp! h;exact FK ho
 let mz:∀p∈X.pn++Z,p.1<t_:=λp hp=>FK (fS!).1;let ID:=I'.track eD rv az nD m8! na_ m8_ λp hp=>(eo!).2;exact ES e8!;exact wpAny_bindName (vX ID hN ip hx (v:=.ref D') χ (?_) hf);rintro s3 I3 ⟨a,sb,ha⟩;let XV:a≠C:=by
  obtain rfl|ha:=ha
  .exact(io!).1
  .exact(dw _ (jy _ _ ha)).1
 exact#[m,hn.sameBut sb (GI XV),λh' fk=>?_];let XW:upd H' D' ap_ C=none:=by rw[aH (GI gw)];exact nC
 let IC:Inv X Z (U.set i (AZ! D')) (upd H' D' ap_) {s3 with heap:=h',toks:=s3.toks}:=I3.turned m6_ XW m7! io_ m7_ λp hp=>(eo!).1;exact EV (EV #[_,_,IC,ak D' nD])
end L2
namespace DL
open PySem PySem.Spec PyProof.Rows L2
section
variable{X:Cx}{own:List Nat}{tg:Expr}{fi:WI}{ft:WT}
def b0c{pos:Pos}
  (hN:V!)(ip:Z_)(hx:aT_)
  (cn:aX!)(df:a7!)(ic:∀y∈aO!,y.2=.local->scope.names.lookup y.1=Ad! ψ)
  (gr:cx!)(cap:a6_)(gk:f0_)(calm:af_)(bq:eV_)
  (hg:en_)(ig:gd_)(hi:z3_)(he:z4!)
  (dr:al!:=by decide)(hs:aM_:=by intro _;rfl)
  (ii:p3_:=by rfl)
  (hf:X.fn x=τ\/qg! x=Ad! some:=by first|exact .inl χ|exact .inr χ|assumption):
  MS X own own p4! (Ce i ps!):=
 wS p4_ λM0 G0 F0 E U hb H ρ M R sr e k1 k2=>⟨hb,ρ,M,_,sr.st,e,λds ck M1 J G1 H1 r1 x1 m1 d6=>by
  let#[G,r1]:=r1;let je:=CD! x1;exact b1n G d6 ig z5! r1 λg7 ys M' G' H' r x m q _ p hp=>?_;exact k1 _ M' _ _ _ r ((((zP!).grow x m).grow pt! kg_).set dr kh!)⟩
end
section
variable{X:Cx}{own:List Nat}{e a b o tg:Expr}{pos p2 p be aj:Pos}{f fa fb fo:WE}
nonrec def lstM(M:Mh)(d:D):ι aB_:=match d with
 |.lst xs=>ψ xs
 |.fn p=>(match M p with|some (.lst xs)=>ψ xs|_=>υ)
 |_=>υ
def zO{KF:ye!}{M:Mh}{hb H:Hp}(sub:M!)(m:bK_)(r:b2!)(e:lstM M d=ψ xs):∃p vs,v=.ref p/\Er KF H p vs/\Am KF hb xs vs:=by
 cases d<;>first|(cases e;done)|skip
 .cases e;let#[p,vs,rfl,q,rr]:=bM r;exact#[p,vs,χ,f8_,rr]
 .rename_i p;cases eX r;simp![lstM]at e;show"!6"
  .rename_i xs hM;cases e;let#[_,vs,O,h2]:=EE_ p;exact#[p,vs,χ,j9!,h2]
  .cases e
def Ro(fa fb:WE):WE:=λρ M R=>fa ρ M λx M1=>fb ρ M1 λy M2=>Jk (lstM M2 x) λxs=>Jk (lstM M2 y) λys=>h!+H_<=big/\∀p,M2 p=υ->R O! (mup M2 p iG!)
def c5d(ha:bd_)(G:dG_):Bd! (.BinOp a .Add b pos) (Ro fa fb):=
 gL (b7v a9o ha.ok G.ok) λU hb H Q ρ M R st e k=>⟨hb,ρ,M,_,st,e,λx M1 v G1 H1 r1 x1 m1 q1=>⟨G1,ρ,M1,_,DV_ x1,r1,λy M2 u G2 H2 r2 x2 m2 q2=>by
  let#[xs,e1,r2]:=cK r2;let#[ys,e2,hl,r2]:=cK r2;let#[p1,z0,rfl,s1,T0]:=zO x2.sub m2 cb! e1;let#[p2,jm,rfl,s2,T1]:=zO x2.sub m2 q2 e2;exact#[p1,p2,z0,jm,χ,χ,s1,s2,by rw[<-aE T0,<-aE T1];exact cD hl,ci!];exact BT_ k _ (r2 p (m2.nocell hp)) ((bt!).trans (.laid x2.sub hp) m2) (m2.laid hp x2.sub #[_,aV,cR T0 T1]) Bc.fn⟩⟩
end
section
variable{X:Cx}{own:List Nat}{a b:Expr}{pos q1 q2 q3 q4 q5:Pos}{s1 s2 s3:Str}{j1 j2 j3:Nat}{fa fb:Ac->Option D}
def c6m{Z:j_}{U:St}{hb H:Hp}{ρ:Ac}{i:Int}{Q:i!}(h:F_)(I:c!)(er:u4_)(e:fa ρ=ψ ae!)(hi:cp!<1920)
  (hQ:∀G' H' s' t,Bm! hb H->GI_ H'->Q (.str bV_ t) s'):Gp! (eval (.FormattedValue a (-1) υ pos) X.env) Q:=by
 exact Ca_ (h.ok Z s U H (λv H'=>v=.int i/\∃G',Cq hb H G' H') I #[hb,ρ,_,er,e,λv G' H' x r=>#[aW r,G',x]]);rintro u s' ⟨x,H',I',r,rfl,G',xx⟩;show"#,";exact C2! hi (hQ G' H' _ _ xx p7!)
end
end DL
namespace XS
open PySem PySem.Spec PyProof.Rows PySem.W L2
abbrev Ky(X:Cx)(pn:j_)(f:i!):Cx:={X with pn:=pn,xe:=f}
abbrev Hm(X:Cx)(e:uv!)(pn:j_):Cx:={X with A:=X.A.mark dP!,calm:=θ,pn:=pn,xe:=λ_ _=>False}
section
variable{X:Cx}{Z fq pn:List (Addr×Obj)}{U ac:L2.St}{H:Hp}{s:x1!}{f:Value->Shared->Prop}{e a:uv!}{oe:Obj}
def cV{Y:Cx}(I:c!)(ok:Y.Ok)(hY:Y={X with A:=Y.A,calm:=Y.calm,pn:=Y.pn,xe:=Y.xe})(hp:∀p∈Y.pn++fq,s.heap.get? p.1=ψ p.2/\H p.1=υ/\p.1≠X.env.locals/\p.1∉X.fs/\∀v,p.2.data≠.cell v)
  (hl:ac.length=dP_)(hs:∀(i:δ) (v:V),ac[i]?=ψ an!->U[i]?=ψ an!):Inv Y fq ac H s:=by
 let#[m,hn,h]:=I.loc;let:=I.len;rw[hY];exact#[hY▸ok,I.os,I.bare,I.base,#[m,hn,λi x v e1 e2 e3=>h i x v e1 (hs i v e2) e3],I.cell,I.free,I.freeC,hp,I.hok,hl.trans I.len]
def c4i(ok:X.Ok):(ch!).Ok:=fk!
def tK(ok:(ch!).Ok):X.Ok:=fk!
def a3a(ok:X.Ok):(Hm X e pn).Ok:=AU! p8!
def b8g(ok:(Hm X e pn).Ok)(hd:a3!):X.Ok:=AU! hd
def b4n{h':Heap}{t:δ}{m':o!}(I:c!)(qo:Bq_ h'.Ns m')(hs:AL_ X.env.locals)
  (hl:∀(j:δ) (y:Str) (v:V),X.N[j]?=ψ y->ac[j]?=ψ an!->Px X.env.scope y->∃u,Cf v u/\BD X.env h' m' y u)(len:ac.length=X.N.length):Cy! ac H {s with heap:=h',toks:=t}:=by
 let ne:∀b o,A9! b=ψ o->b≠X.env.locals:=λb o e=>FW kO!;exact#[I.ok,I.os,I.bare,#[λb o e n G hx=>(kN!).trans hh!,e9_,I.base.free,kP_,I.base.tups,I.base.frzs,I.base.tbls],#[_,qo,hl],λy c e=>?_,I.free,I.freeC,ci!,λb ob e=>?_,len]
 .show"!H";exact Ch_ sl kN!
 .show"!?";exact Ch_ o' kN!
 .let#[w',z]:=C5! y e;exact#[w',z.sameBut hs (I.cne y c e)]
 .show"!]";exact qz_
 .exact(qu!).stay qu_ e5_ λ_ _ q=>q;rintro rfl;obtain rfl|hc:=hc
  .rw[I.free]at e;cases e
  .rw[I.free]at hc;cases hc
end
structure Mj(K:ye!)(C0:uv!):Prop where
 tup:W.instIn K a3_ aN_=ψ θ
 cls:∃cd,W.clsIn K C0=ψ cd
 exc:BD_ a3_ bv!=ψ τ
def c1x{K:ye!}{cd:ClassData}(ta:W.instIn K a3_ aN_=ψ θ)(tb:W.clsIn K C0=ψ cd)(tc:BD_ a3_ bv!=ψ τ):Mj K C0:=#[ta,#[_,tb],tc]
def mI{M:Model}{E:i!}{K:ye!}{a:uv!}{oe:Obj}{s:x1!}{Q:pC!}(X:db_)(C:Mj K C0)(he:p9_)(hc:oe.cls=.ref c)(hs:BD_ bJ_ a3_=ψ τ)
  (h:Q τ s):qS! M (excMatches u! a3_):=by
 let#[hh,g,d,tk,os]:=s;let#[O,h2,h3]:=C;let L1:=W.looks_instIn (M:=M) X O;let L2:=W.looks_subIn (M:=M) X h3;let L3:=W.looks_subIn (M:=M) X hs;let Lt:F4! isType:=by
  let#[cd,h2]:=h2;delta W.clsIn at h2;split at h2
  .rename_i ho;intro A' Q' E' s' k q;delta isType loadHead;exact ES (NG (k _ _ (X _ _ ho)) (EV q))
  .cases h2
 let Le:F4! isExcClass:=Lt.andThen L2;let Ly:Looks M hh (typeOf u!) bJ_:=λA' Q' E' s' k q=>ES qb!;delta excMatches;exact ES hf_;rw[bD!];exact ES K_;show"#-";rw[KR];exact GS! (Do_ Le.at);simp![NA,GC,HD];exact EV ?_;show"#-";rw[List.forIn_nil];exact EV (Do_ Ly.at);rw[KR];exact GS! (ES kQ!);simp![IB];exact EV jP!
section
variable{X:Cx}{Z:List (Addr×Obj)}{D:Ends}{xC en xn:Str}{cp xp ap hp:Pos}{he:Expr}{C0 L:uv!}{ie ix:Nat}{hv:Addr->Option V}
nonrec def xT(X:Cx)(Z:j_)(D:Ends)(h0:ExceptHandler):Value->Shared->Prop:=λe σ=>rr_ (noteFrame e X.env) (λ_ ae=>wpAny d_ X.A qc! (λ_ bp=>wpAny d_ X.A (handleBy e X.env [h0]) dS_ X.xe bp) X.xe ae) X.xe σ
end
end XS
namespace DL
open PySem PySem.Spec PyProof.Rows L2 XS
abbrev EK:=Addr->wY_ Int->Mh->ν
def CN(H:Hp)(d:ak!):wY_ Int->ν
 |none=>d=υ
 |some k=>∃dx,d=ψ dx/\H dx=ψ dQ_
abbrev Mr:=μ D->Mh->o6!->EK->ν
def XR(P:xz!)(w:wY!)(K:ye!)(M0:Mh)(G0 F0:Hp)(E:EK):Tk->Hp->Prop:=λcls H'=>∃c ln M' G',(cls.1=.ref c/\CN H' cls.2.1 ln/\(ln=υ->AU H' cls.2.2))/\E c ln M'/\Ds! M' G' H'/\C0_ K
def Zx(P:xz!)(w:wY!)(K:ye!)(n:δ)(g:Mr):Sp:=λvs H Q E=>at!=n/\∃hb ds M R EM,By hb H/\MR P w K M hb H/\Dp_ K hb/\g ds M R EM/\(∀d M' v G' H',R d M'->XM M hb H M' G' H'->MR P w K M' G' H'->Bc K G' d v->Q v H')/\∀(cls:Tk) H',XR P w K M hb H EM cls H'->Dj_ E
def Xf(P:xz!)(w:wY!)(K:ye!)(mg:o!)(base:Heap)(k:δ)(x:Str)(ps:l!)(g:Mr):Prop:=
 ∃ag fd,kV! He eI! k ag fd ps (Zx P w K ps.length g)/\AV_ K/\mg x=ψ aC!/\G3_ K=τ
section
variable{P:xz!}{w:wY!}{K:ye!}{mg:Str->Option Value}{base:Heap}{k:Nat}{x:Str}{N ps:List Str}{st:Stmt}
def yW{bx:b!}{q:hh_}(d:xz_ x st ps)(S:bY!)
  (G:∀{ag:uv!} {ah:wX!} {A:w5!} {outer:C_} {s:x1!} {H:Hp} {E:XK} {M0:Mh} {G0 F0:Hp} {EM:EK},Ba k eE!->Gj_ qd_ K->
   Jy qd_ aA_ (Fw_ (q EM))):
  Xf P w K mg base Q! x ps λds M R E=>E1! N:=by
 show"##";exact qf!;show"!0";exact c8c lk bj S iV_ λA outer s H vs Q E hr h=>?_;show"!Z"
end
section
variable{X:Cx}{own ay f8:List Nat}{st:Stmt}{rest body b1 b2:List Stmt}{e c:Expr}{es:List Expr}{pos p2:Pos}{f:WE}{fs:WA}{ft:WT}{q1 q2:WS}{M0:Mh}{G0 F0:Hp}{E:EK}
abbrev TX(X:Cx)(M0:Mh)(G0 F0:Hp)(own bx:b!)(q:WS):TS:=qS_ Wa M0 G0 F0 own bx q
def b8v(h:kb_):Fx! PS:=h.ok M0 G0 F0
def zC(h:qg_):E7! Jy bw!:=Jy.nox qi_
def gC(O:Fx! PS)(h2:E7! Jy qh!):Jy X bQ! qi!:=λZ s U H D I ⟨hb,ρ,M,R,sr,e,k1,k2⟩=>
 nE O h2 Z s U H D I pj_
def a3h(hc:pk_)(O:Jy X b1 bw!)(h2:Jy X b2 qj!):PS X iR_ qk!:=λZ s U H D I ⟨hb,ρ,M,R,sr,e,k1,k2⟩=>by
 exact Eh_ O h2 D I pl!;cases b with
 |true=>exact kN eV!
 |false=>exact kO eV!
def Gn(C:uv!)(E:EK)(f:WE):WS:=λρ M _=>f ρ M λ_ M1=>E C υ M1
def jW{x:Str}(hX:bg_)(hC:eJ!)(hh:cM!)(hg:x_)(hm:h2_)(he:a1_)
  (al:s_:=by decide)(ai:qk_:=by rfl):
  PS X ql_ (Bz! ay (Gn C E f)):=λZ s U H D I ⟨hb,ρ,M,R,sr,e',k1,k2⟩=>
 b2x hX hC hh hg hm he.ok al ai Z s U H D I #[hb,ρ,M,_,sr.st,e',λd M' v G' H' r x m q=>#[C,υ,M',G',#[χ,χ,λ_=>.inl χ],r,sr.x.trans x sr.st.mr,m]]
def Hy(P:xz!)(w:wY!)(K:ye!)(M0:Mh)(G0 F0:Hp)(own:b!)(f:WE):TE:=λU H Q=>∃hb ρ M R,DW_ K/\f ρ M R/\∀d M' v G' H',R d M'->A3_ M'->C0_ K->Bl! K->Q v H'
def Cz(n:δ)(g:Mr)(E:EK)(fs:WA):WE:=λρ M R=>fs ρ M λds M1=>e_=n/\g ds M1 R E
def b0a{k:δ}{ps:l!}{g:Mr}{x:Str}(hX:bg_)(F:qm_)(hr:T!)(hg:x_)(ha:eT_)
  (al:s_:=by decide)(he:z_:=by rfl)(ao:W_:=by rfl):
  PE X ah! kT!:=by
 show"!<";intro Z s U H Q I ⟨hb,ρ,M,R,sr,e',k⟩;exact CL! sG .nil qn! ha.ok al he ao Z s U H Q I hj_;show"!;"
def a9z(h:PE X e fb!)(hs:hv_:=by rfl):PS X fl! qo!:=λZ s U H D I ⟨hb,ρ,M,R,sr,e',k1,k2⟩=>
 sF h hs Z s U H D I qo_
end
def No(P:xz!)(w:wY!)(KF:ye!)(mg:o!)(base:Heap)(k:δ)(x:Str)(ps:l!)(g:Mr):Prop:=
 ∃ag fd,uu_ Fq mg base eI! k ag fd ps (Zx P w KF ps.length g)/\AV_ KF/\mg x=ψ aC!/\G3_ KF=τ
theorem Xf.R{KF:ye!}(h:HG! Xf):HG! No:=by let#[ag,fd,O,h2]:=h;exact#[ag,fd,O.R,h2]
def lG{KF:ye!}{mg:o!}{k:δ}{ps:l!}{st:Stmt}{bx:b!}{q:hh_}(d:n7_)(S:bY!)
  (G:∀{ag:uv!} {ah:wX!} {A:w5!} {outer:C_} {s:x1!} {H:Hp} {E:XK} {M0:Mh} {G0 F0:Hp} {EM:EK},Ba k eE!->Gj_ qp_ KF->
   Hc qp_ aA_ (uu_ Wa M0 G0 F0 [] bx (q EM))):
  No P w KF mg base Q! x ps λds M R E=>E1! N:=by
 show"##";exact qf!;show"!}";show"!Z"
section
variable{X:Cx}{own ay f8:List Nat}{st:Stmt}{rest body b1 b2:List Stmt}{e c:Expr}{es:List Expr}{pos p2:Pos}{f:WE}{fs:WA}{ft:WT}{q1 q2:WS}{M0:Mh}{G0 F0:Hp}{E:EK}
def dW(O:Fx! Qa)(h2:E7! Hc qh!):Hc X bQ! qi!:=λZ s U H D I ⟨hb,ρ,M,R,sr,e,k1,k2⟩=>
 b2u O h2 Z s U H D I pj_
def b0d(hc:pk_)(O:Hc X b1 bw!)(h2:Hc X b2 qj!):Qa X iR_ qk!:=by
 rintro Z s U H D I ⟨hb,ρ,M,R,sr,e,k1,k2⟩;exact c9c hc.ok O h2 Z s U H D I pl!;cases b with
 |true=>exact kN eV!
 |false=>exact kO eV!
def iU{k:δ}{ps:l!}{g:Mr}{x:Str}(hX:bg_)(F:Gz! No)(hr:T!)(hg:x_)(ha:eT_)
  (al:s_:=by decide)(he:z_:=by rfl)(ao:W_:=by rfl):
  Nk X ah! kT!:=by
 show"!<";show"!h";exact CL! b8a .nil qn! (PA.R ha.ok) al he ao Z s U H Q I hj_;show"!;"
def b9c{i:δ}(hN:V!)(hi:Z_)(hx:aT_)(h:hk!)(dr:al!:=by decide)(hs:nH_:=by rfl)
  (hf:X.fn x=τ\/qg! x=Ad! some:=by first|exact .inl rfl|exact .inr rfl|assumption):Qa X (.Assign [.Name x p2] e pos) (TX X M0 G0 F0 own own (Ce i f)):=λZ s U H D I ⟨hb,ρ,M,R,sr,e',k1,k2⟩=>
 a9d hN hi hx h hs hf Z s U H D I (CM! sr zN!)
def a7c(h:hk!):Qa X dU! (Bz! ay (Ei f)):=λZ s U H D I ⟨hb,ρ,M,R,sr,e',k1,k2⟩=>
 c3r h Z s U H D I (CM! sr zM_)
def d3k(h:a1_):Nk X e fb!:=λZ s U H Q I ⟨hb,ρ,M,R,sr,e',k⟩=>Ae! (h.ok Z s U H Q I #[hb,ρ,M,R,sr.st,e',k])
def c9j{op:Operator}{r:R2}{ta tb:TE}(ho:fr_)(ha:Nk X a ta)(G:Nk X b tb):Nk X fs! fs_:=by intro Z s U H Q I h;exact WR.BinOp_R (Dy! v);exact fF dT! λu s2 ⟨y,H2,I2,r2,q2⟩=>?_;exact Ae! (ho Z s2 U H2 x y v u Q I2 r1 r2 q2)
protected def b9e{op:Operator}{r:R2}{gm:jZ_}{fa fb:WE}(ho:fr_)(hg:eQ!)(ha:HG_ a fa)(G:HG_ b fb):
  Nk X fs! (GL_ gR!):=by
 show"!h";exact c9j ho ha G Z s U H Q I #[hb,ρ,M,_,sr,e',λx M1 u G1 H1 r1 x1 m1 q1=>#[G1,ρ,M1,_,sr.grow x1 m1,r1,λy M2 v G2 H2 r2 x2 m2 q2=>?_]];let r2:=r2;split at r2
 .show"!T"
 .exact r2.elim
end
end DL
namespace WR
open PySem
def d2i{E:i!}{pos:Pos}{Q:i!}
  (h:BM_ (GR_ (backTo pos (starEach lr env))) (λvs σ=>at!<=sizeLine/\Q (.ref σ.heap.objs.size) {σ with heap:=σ.heap.push {cls:=.type "list",data:=.seq bC_}}) E s):
  wpR b_ A (Cz! (.List lr pos)) Q E s:=by
 rw[arm_eval_List];exact eV (bind (mono h (λvs σ h₁=>of_any (wpAny_newList h₁.2 h₁.1)) λ_ _ e=>e))
end WR
namespace L2
open PySem PySem.Spec PyProof.Rows WR
section
variable{X:Cx}{e:Expr}{es:List Expr}{te:TE}{t:TA}{pos p:Pos}{x:Str}
def b8c(ha:oL_)(hr:Uu X es t)(hs:z_:=by rfl):Uu X J_ (Xn te t):=by intro pos Z s U H Q I h;rw[hs];show Dt_ sF_ s;exact vB (Dy! u);exact fF sG! λus s2 ⟨xs,H2,I2,r2,q2⟩=>sG_
def c3z(h:Uu X es t):Nk X d8! (Zr t):=by intro Z s U H Q I hq;exact d2i (fF sI! λus s1 ⟨xs,H1,I1,r,z,q⟩=>sI_);let hf:H1 F!=none:=Ck_ p!;exact sL!;exact sL_
def a6l{T:String}{r:co!}(hc:hP_)(hg:x_)(hm:bx!)(hv:fE_)(ha:oN_)(hn:bx_:=by decide)(al:s_:=by decide)
  (he:z_:=by rfl)(ao:W_:=by rfl):EV_ Nk:=by
 show"!D";exact Call_R (BH_ mp_);exact callWith_typeR (fF d0! λus s1 ⟨vs,H1,I1,r1,q1⟩=>of_any (EH_ Z)) he ao
end
end L2
namespace DL
open PySem PySem.Spec PyProof.Rows L2 XS
section
variable{X:Cx}{own:List Nat}{e:Expr}{es:List Expr}{pos p:Pos}{x:Str}{f:WE}{fs:WA}{M0:Mh}{G0 F0:Hp}
def Sq(P:xz!)(w:wY!)(K:ye!)(M0:Mh)(G0 F0:Hp)(own:b!)(fs:WA):TA:=λU H Q=>∃hb ρ M R,DW_ K/\F1! fs/\∀ds M' vs G' H',R ds M'->A3_ M'->C0_ K->Dp_ K G'->Q vs H'
def b0e(h:hk!)(hs:v4!:=by rfl):Uu X [e] (A6_ Sq (Af f Av)):=λpos Z s U H Q I ⟨hb,ρ,M,R,sr,e',k⟩=>
 b8c h (PA.R eB) hs pos Z s U H Q I #[hb,ρ,M,_,sr,e',λd M' v G' H' r x m q=>k [d] M' [v] G' H' r x m (Cs_ q)]
def d0i(h:Uu X es fb_):HG_ d8! (Pm fs):=λZ s U H Q I ⟨hb,ρ,M,R,sr,e',k⟩=>
 c3z h Z s U H Q I #[hb,ρ,M,_,sr,e',λds M' vs G' H' r x m q=>#[by rw[<-aE q];exact GB r.1 a_,λp hp=>k _ M' _ _ _ r.2 (x.trans pt! m) kg_ kh!]]
def pS{T:String}{r:co!}{g:pf!}(hc:hP_)(hd:zE_)(hg:x_)(hm:bx!)(hv:fE_)(ha:Uu X J_ fb_)(hn:bx_:=by decide)
  (al:s_:=by decide)(he:z_:=by rfl)(ao:W_:=by rfl):
  Nk X ah! (GL_ (w1 g fs)):=λZ s U H Q I ⟨hb,ρ,M,R,sr,e',k⟩=>
 a6l hc hg hm hv ha hn al he ao Z s U H Q I ⟨hb,ρ,M,_,sr,e',λds M1 vs G1 H1 r1 x1 m1 q1=>by
  let#[d,O,h2]:=cK r1;exact hd x1.sub m1 q1 O λv G2 H2 x2 q2=>Dx_ k⟩
end
end DL
namespace WR
open PySem
section
variable{α:Type}{M:Model}{A:w5!}{E:Value->Shared->Prop}{s:x1!}{env:Env}
def b8l{m:bc!}{Q:aP!}(h:qx_):wpR M A (m.onRaise λx=>do noteFrame x env;theTreesLotGoes x) Q E s:=
 onRaise (Gt_ (λ_ _ e=>of_any (wpAny_theTreesLotGoes e)))
def b8m{m:bc!}{Q:aP!}(h:qx_):wpR M A (m.onRaise λx=>do noteFrame x env;standAt pos) Q E s:=
 onRaise (Gt_ (λ_ _ e=>gF e))
def b6e{c:ν} [Decidable c]{k:PUnit->Sem α}{Q:aP!}(h:yQ!):rs_ (if c then(standAt pos>>=k)else k ()):=by
 split
 .exact eV h
 .exact h
def comprehension_R{scope:Scope}{T2 first:ci_}{g:Comprehension}{gs:μ Comprehension}{cl:aB!}{Q:i!}
  (b9:clausesOf e=g::gs)(hs:∀x,DP_ g.iter env=pure x)(XX:closureFor scope env=pure cl)
  (cn:aX!)(ic:∀x∈aO!,x.2=.local->scope.names.lookup x.1=Ad! ψ)
  (h:wpR M A first (λx σ=>Bf! (pyIter x) (λit ae=>Bf! T2 (λav bp=>Bf! (newFunctionEnv scope env.globals cl [] env.qual υ .none (ψ env)) (λcenv jx=>
    codeR M A (.compStart e 0 it av {cenv with scope:=DK! env}) (compPost M A E υ Q av cenv.locals) jx) E bp) E ae) E σ) E s):
  wpR M A (comprehension e scope env pos T2 θ first none) Q E s:=by
 delta comprehension;rw[XX,b9];exact bind (En! h (λx σ h₁=>eV (bind ?_)));rw[hs x];exact pure' (Gz_ (HW! (λit ae dh=>b6e (bind (mono dh (λav bp gb=>bind (pure' (bind (En! gb (λcenv jx ua=>?_))))) λ_ _ h'=>h')))));dsimp only;let hv:∀x∈(scope.names.filter λx=>(x.2==.local||x.2==.cell)&&x.1 != (".0":Str)).reverse,x.2=.local->
   Env.kindOf {cenv with scope:=DK! env} x.1=Ad! some:=λx hx hl=>lookup_relabel_local (ic x (LU.mp (List.mem_reverse.mp hx)).1 hl)
 exact dP (bind (attempt (dP (d2q (code_mono ua λr s' hr=>?_)))));cases r with
 |ok f=>
  let#[m,hn,hr]:=hr;exact Gz_ (BH_ (wpAny_comp_letGo (cenv:=qB!) cn _ s' m hv hn λh' m' _ fk=>pure' (hr h' fk)))
 |error x=>
  let#[m,hn,hr]:=hr;exact Gz_ (of_any (wpAny_comp_letGo (cenv:=qB!) cn _ s' m hv hn λh' m' _ fk=>mono (BH_ (hr h' fk _ χ)) (λ_ _ f=>f.elim) λ_ _ y=>y))
end
section
variable{prog:xz!}{w:wY!}{A:w5!}{s:x1!}{env:Env}{R:Result->Shared->Prop}
def compStart_R {c7 gu iter cu rest scope pos it av}(h0:Bn! b_ (Hv! it))
  (h:BM_ (pyIter it) (λB4 s'=>codeR b_ A (Hv! B4) R s') (notedBy b_ A env λx s'=>R (.error x) s') s):
  codeR b_ A (.compStart hm_ 0 it av env) R s:=by
 exact gW ?_;show wpR _ _ ((compStart hm_ 0 it av env).onRaise (λx=>do noteFrame x env;standAt theWindowsPlace)) _ _ s;exact b8m ?_;delta compStart;show wpR _ _ (ask>>=_) _ _ s;exact bind (of_any (wpAny_askSetting ?_));split
 .first|exact FN! pure' qC_|exact pure' qC_
 .first
   |exact bind (a8y (eV (bind (mono h (λB4 s' h'=>pure' qD_) λ_ _ x=>x))))
   |(exact HA! a8y;show Dt_ (standAt iter.pos>>=_) s;exact eV (GY_ (λB4 s' h'=>pure' qD_)))
def compLoop_R{E:i!}(I:fP_)
  (hE:ud_)
  (g9:∀n s,I n s->BM_ mV_ (λr σ=>match r with
   |none=>R fQ! σ
   |some v=>BM_ mW! (λ_ mw=>BM_ mW_ (λ_ ae=>
     wpR b_ A ue_ (λok bp=>
      if ok=τ then BM_ (GN! c7) (λx jx=>wpR b_ A uf! uf_ E jx) E bp
      else∃m,m<n/\I m bp) E ae) E mw) E σ) E s)
  (n:δ) (h:I n s):Bn! b_ ug_:=by
 exact loop χ I mX! n h;exact b8l ?_;rw[compTurn_list];exact eV (bind (mono mX_ mY! hE));cases r with
 |none=>exact pure' h₁
 |some v=>
  exact bind (mono h₁ mY_ hE);exact bind (mono t9 (λ_ ae dh=>bind (mono dh ui! hE)) hE);cases ok with
  |false=>exact pure' mZ!
  |true=>exact bind (bind (mono gb (λx jx ua=>bind (mono ua (Eh! pure') hE)) hE))
end
end WR
namespace XS
open PySem PySem.Spec PyProof.Rows L2
def a7z{XE:yk_}{X:Cx}{scope:Scope}{NL:l!}{ix:b!}{cl:aB!}{g:TG}{tt:TT}{te:TE}{E:i!}
  {Z:j_}{U:L2.St}{H2:Hp}{s2:x1!}{fp:v!}{tn:fn!}{J:It}{Fin:bh!}{RR:ui_}
  (cn:aX!)(df:a7!)(b9:fO_)(cap:a6_)(calm:af_)
  (hg:∀C ae au fp,PG k1! tg g)(hi:∀C ae au fp,Ka k1! cu tt)(he:∀C ae au fp,Nk k1! c7 te)
  (I2:ek_)(T:uj!)(cz:E7_ 0)(f2:el!)(hw:uj_)
  (ym:∀(D C:uv!) (us:k_) (n:δ) (ys:l_) (H':Hp) (s':x1!),GI_ H'->Cl_ D=ψ (Kv us n)->Bp ys us->H_<=sizeLine->H' D=υ->t_<=D->t_<=C->D≠C->H' C=υ->
   uk!->Fin ys H'->RR im_ C fQ! s')
  (XY:∀(D C:uv!) (e:wX!) (s':x1!),t_<=D->t_<=C->D≠C->XE C s2 H2 fp e s'->Fs_ (λe s'=>RR im_ C cw! s')):
  WR.wpR d_ X.A (newList []) (λav bp=>WR.wpR d_ X.A uk_ (λcenv jx=>
   WR.codeR d_ X.A ul_ (RR av cenv.locals) jx) E bp) E s2:=by
 let#[W,#[m0,w0],g9]:=hw;let flt:∀b∈fp,b<t_:=λb G=>let⟨o,e,_⟩:=T.obj _ _ cz b G;FK e;exact WR.of_any (GY (WR.of_any um!));dsimp only at o8 ll ⊢;generalize pc:s2.heap.push {cls:=.type "list",dict:=none,data:=.seq (mZ_).toArray}=G2 at o8 ll ⊢;let hC:bZ!=t_+1:=by rw[<-pc,IN]
 let gw:t_≠bZ!:=by rw[hC];exact FW (NC _)
 let qu:t_<=bZ!:=by rw[hC];exact KL _
 let below:∀b,b<t_->b≠bZ!:=λb G=>by rw[hC];exact FW (OJ G)
 let old:∀b o,CZ_ b=ψ o->Ex_ b=ψ o:=λb o e=>D9_ b;let yn:Ex_ t_=ψ (Kv [] 0):=ll.extBut _ _ gw uo!;let je:tn 0 h₁:=FU! cz λb _ o e=>old b o e;let I1:=c0c (F4_ XE) (a4e (NL:=NL) (t:=up_) cn df b9 cap I2 f2 flt qu p! gw old o8 yn up!);let iw:∀{H':Hp} {oD:Obj},bT_->∀b∈fp,Gg_ c4_:=λ{H' oD} hn b G=>by
  let#[_,f1,f3,f4,f5,f6]:=f2 b G;exact uq!;let cr:p∈ab!++[en!]:=by simpa[Hn,Hx]using hp
  obtain cr|cr:=FL.mp cr
  .exact f6 p cr
  .let e:p=en!:=by simpa using cr
   subst e;exact IZ fP!
 let loop:∀bp:Shared,bp={s2 with heap:=h₁,toks:=s2.toks+(m0_).length}->
   WR.codeR d_ X.A uq_ ur! bp:=by
  rintro bp rfl;exact WR.compLoop_R (E:=F4_ XE) (Gq! c4_)
   (λe s' z=>XY _ _ e s' p! qu gw z) ?_ m0 us_
  rintro k s' ⟨i,ys,us,n,ac,H',I',af,lm,rv,w'⟩;let#[az,lp]:=D4_ g9 w';obtain⟨stop,ak⟩|⟨go,step⟩:=lp
  .exact fF (Gw! T.done stop) λr s4 ⟨hr,I4⟩=>?_;subst hr;let ub:=I4.pin fQ_ (by simp[Hn,Hx]);let IX:m2! H' s4:=I2.call' (ch:=fp) I4.os I4.base I4.hok I4.bare λb G=>by
    show"!b"
   show"!O"
  .exact fF (Gw! T.item go) λr s4 ⟨u,hr,h4⟩=>?_;subst hr;exact fF (Ae! h4) λ_ s5 ⟨x,H5,I5,r5,y5,iz,oo⟩=>?_;let oq:=DE_ jB_;exact fF (Ae! ut!) λ_ s6 ⟨im,H6,I6,q6⟩=>?_;exact fF (Ae! ut_) λok s7 ⟨H7,I7,q7⟩=>?_;let uc:∀{ud:L2.St} {H8:Hp} {s8:x1!},Inv c4_ uu! ud H8 s8->tn u_ s8.heap/\∀b∈fp,H8 b=none:=λ{ud H8 s8} I8=>by
    show"#%"
   cases ok with
   |false=>
    show"!`"
   |true=>
    simp![IB]at q7 ⊢;exact fF uv_ λyv s8 ⟨y,H8,I8,r8,m',hm,w8⟩=>?_;let#[t8,n8]:=uc I8;let pD:=I8.pin fQ_ uw!;let SK:am_=H_:=uw_;exact Ae! (wpAny_list_append_plain (items:=gi!) (hsz:=by simpa[SK]using az) #[n,pD.1] λh9 yp ue=>?_);let#[n9,e9]:=yp;let yq:Fm! c4_ s8:=I8.pins_of λp hp=>I8.pin p ux!;let I9:Fm! c4_ {s8 with heap:=h9,toks:=s8.toks}:=by
     exact yq.turned (it:=t_) ux_ pD.2.1 gw (.inr p!) uy! λp hp=>?_
     .show"#@"
     .let cr:p∈X.pn++Z:=by simpa[Hn,Hx]using hp
      exact uy_
    let yr:h9.get? t_=ψ (Kv m3! n9):=by
     rw[e9,List.push_toArray]
    exact uA!;obtain hp|hp:=FL.mp hp
    .exact uB!
    .let e:p=uB_:=by simpa using hp
     subst e;exact uC_
 exact WR.compStart_R m4! (Ae! uD!)
def b7y{X:Cx}{scope:Scope}{NL:l!}{ix:b!}{wi:TI}{g:TG}{tt:TT}{te:TE}{R:bJ!}
  (hX:b8!)(ai:aw_)(hf:ax!)
  (cn:aX!)(df:a7!)(ic:∀y∈aO!,y.2=.local->scope.names.lookup y.1=Ad! ψ)
  (gr:cx!)(cap:a6_)(calm:af_)(bq:fp!)
  (hg:∀cl C ae au fp,PG k3! tg g)(hi:∀cl C ae au fp,Ka k3! cu tt)(he:∀cl C ae au fp,Nk k3! c7 te)
  (hs:aM_:=by intro _;rfl):
  Nk X dk_ m4_:=by
 show"!D";let#[cl,b9]:=a0z (X:=X) (scope:=scope) λp hp hf=>I.ok.has p.1 m5!
 rw[eval_ListComp];exact WR.comprehension_R χ hs b9.eq cn ic (fF (Ae! uF!) λv s1 O=>fF (Ae! O) λqq s2 h2=>?_);let#[it,fp,tn,J,H2,e,I2,T,cz,f2,hw]:=h2;subst e;exact a7z (XE:=CU! a7_ R) (RR:=λav C=>compPost d_ X.A X.xe υ ad_ av C) cn df b9 cap calm (hg cl) (hi cl) (he cl) I2 T cz f2 hw (λD C us n ys H' s' I' eD rv az nD hD hC gw nC ⟨m,hn⟩ ak=>?_)
  λD C e s' _ hC _ hx=>c1v hX ai hf b9 I2 f2 hC hx
 exact uG!;let dw:∀b,b<t_->b≠C/\b≠D:=λb G=>m6!;let jy:∀x c,ro_ x=ψ c->c<t_:=λx c h=>let⟨_,_,ho,_⟩:=Dp! h;FK ho;let mz:∀p∈X.pn++Z,p.1<t_:=λp hp=>FK (fS!).1;let IC:m2! H' {s' with heap:=h',toks:=s'.toks}:=I'.turned (it:=C) m6_ nC m7! io_ m7_ λp hp=>(eo!).1;let ID:=IC.track (D:=D) (us:=us) (n:=n) uI_ rv az nD m8! na_ m8_ λp hp=>(eo!).2;exact uJ!
end XS
namespace DL
open PySem PySem.Spec PyProof.Rows L2 XS
def c7i{K:ye!}{J:It}{ds:e!}{ck:gY!}{M1:Mh}{G1 H1:Hp}{g:TG}{bnd:ac!}{fe:WE}{j0:Ac}{qw:St}{Fin:bh!}{R:jY!}{ft:WT}{M0:Mh}{G0 F0:Hp}(x0:Ds! M1 G1 H1)
  (G:iO!)(d6:BF P w K J ds ck G1)(hg:GD K g bnd)(er:Qb P w K [] G1 H1 qw j0 M1)(e:zY_)(k:∀g7 ys M' G' H',R g7 M'->BW! H1->C0_ K->Am K G' g7 ys->g7.length<=e_->Fin ys H'):
  Qr J g (Vz P w K [] ft) (Hy P w K M0 G0 F0 [] fe) Fin qw H1:=by
 exact⟨λi m ys ac H'=>i<=e_/\m=e_ - i/\∃G' M' ws,BW! H1/\Qb P w K [] G' H' ac j0 M'/\Am K G' ws ys/\bl!<=i/\Cf_ j0 nB! M' λr M2=>R (ws++r) M2,
  zZ!,?_⟩
 rintro i m ys ac H' ⟨hi,rfl,G',M',ws,x,d7,bf,hw,e2⟩;exact nB_;let lw:ck M':=by
  cases hd:Ez_ i with
  |nil=>rw[hd]at e2;exact e2.1
  |cons _ _=>rw[hd]at e2;exact e2.1
 show"!m"
 .right;let hd:ds[i]?=DG_ i:=by simp[ax]
  rw[GV ax]at e2;let#[_,e2]:=e2;let#[a9,e1,e2]:=cK e2;let#[go,yl]:=iq _ hd;exact nC!;let#[G2,x2,r2]:=Fn_ v;let ez:=d7.grow cX! zZ_;let z6:XM M1 G1 H1 M' G2 H2:=x.trans cX! d7.mr;exact hg ez.or r2 e1 λbg kz m7=>Gi_ qL!;let jk:=Cx! K qL!;let bc:=z6.trans x3 ez.mr;cases b with
  |true=>
   exact kN #[G3,a9,M3,_,#[jk,x0.trans bc er.mr,c2_],r3,λy M4 u G4 H4 r4 x4 m4 q4=>Ca! c2_]
   .exact z2_
   .rw[FX,IG];omega
   .let e5:z3!=λr M2=>R (ws++y::r) M2:=by
     funext r M2;rw[LF];rfl
    rw[e5];exact r4
  |false=>
   exact BW_ c2_
 .left;let fg:i=e_:=by omega
  show"!K"
def zG{X:Cx}{own:b!}{scope:Scope}{NL:l!}{ix:b!}{g:TG}{bnd:ac!}{fi:WI}{ft:WT}{fe:WE}{M0:Mh}{G0 F0:Hp}{E:EK}
  (hX:bg_)(ai:aw_)(hf:ax!)
  (cn:aX!)(df:a7!)(ic:∀y∈aO!,y.2=.local->scope.names.lookup y.1=Ad! ψ)
  (gr:cx!)(cap:a6_)(gk:f0_)(calm:af_)(bq:eV_)
  (hg:∀cl C ae au fp,PG hp! tg g)(ig:gd_)
  (hi:∀cl C ae au fp,Ka hp! cu pr_)
  (he:∀cl C ae au fp,Lv hp! hi!->
   Nk hp! c7 (qS_ Hy M0 G0 F0 [] fe))
  (hs:aM_:=by intro _;rfl):
  Nk X dk_ (GL_ ps!):=λZ s U H Q I ⟨hb,ρ,M,R,sr,e,k⟩=>
 b7y hX ai hf cn df ic gr cap calm bq.ok hg hi (λcl C ae au fp=>he cl C ae au fp c5h) hs Z s U H Q I ⟨hb,ρ,M,_,sr.st,e,λds ck M1 J G1 H1 r1 x1 m1 d6=>by
  let#[G,r1]:=r1;let je:=CD! x1;exact c7i kU_ G d6 ig #[z4_,m1,c2_] r1 λg7 ys M' G' H' r x m q _ p hp=>?_;exact Fd_ k⟩
end DL
namespace WR
open PySem
section
variable{prog:xz!}{w:wY!}{A:w5!}{E:Value->Shared->Prop}{env:Env}
variable{nm q:Str}{C N:uv!}{bs bm:List Value}{hdct:Bool}{sn:List Str}{sub:List Value}{ab:Bool}{col:Option Bool}{dd:Option Addr}{k0 k1 k2 k3 k5:Option Value}{newId:String}{gc:Option Addr}
def unchain{s:x1!}{oh:Obj}{vs:Z!}{Q:i!}(ha:qN!)(hd:qN_)(h2:jA_)(h:Q .none s):
  wpAny b_ A (HM! qO!) Q E s:=by
 exact qO_;show Gr_ qO!;delta Builtin.«proto.unchain»;show wX_ qP! s;exact ES (GM ha hd h2 ?_);rw[cv_];exact λ_ _ _=>h
def a2m{s:x1!}{oh oe:Obj}{vs es:Z!}{Q:ax_}(hh:fe!)(am:a≠e)(ha:qN!)(hd:qN_)(h2:jA_)
  (he:gs_)(C8:qQ!)(hi:2<es.size)(h:qQ_):qS! b_ qR_:=by
 show"#2";exact Fk_ (unchain ha hd h2 ?_);show"!R"
def a0k{s:x1!}{vs:Z!}{XZ:String}{Q:i!}(ma:Cp! bv!=τ)(hC:k7_)
  (he:k7!)(h:Q z! s):Gy_ (excFromValue z! XZ):=by
 show"!y";delta excFromValue
 repeat (first|with_reducible exact HN he ?_|with_reducible exact HN hC ?_|(with_reducible exact OS hC ?_;rw[ma])|wp_step)
 exact h
def isT{s:x1!}{vs:Z!}{Q:pC!}(hC:k7_)
  (he:k7!)(h:Q θ s):Gy_ (isType z!):=by
 show"!y";delta isType
 repeat (first|with_reducible exact HN he ?_|with_reducible exact HN hC ?_|wp_step)
 exact h
def yK{s:x1!}{vs:Z!}{Q:i!}(hC:k7_)
  (he:k7!)(h:Q z! s):Gy_ (raisedInstance z!):=by
 show"!y";delta raisedInstance
 repeat (first|with_reducible exact HN he ?_|with_reducible exact HN hC ?_|wp_step)
 exact h
def c3b{s:x1!}{vs:Z!}{i:δ}{Q:cN!}(he:qY_ e=ψ {cls:=cls,dict:=gc,data:=Bw_ vs})(hi:i<vs.size)
  (k:∀h',Ab_ e=ψ {cls:=cls,dict:=gc,data:=Bw_ (Ha_ i x)}->AL_ e->Q () {s with heap:=h'}):Gy_ (setField z! i x):=
 IL he χ hi (k _ (GL _ he χ) cI_)
def a0i{s:x1!}{Q:cN!}(he:qY_ e=ψ {cls:=cls,dict:=gc,data:=.fields [.ref t,.none,.none,x,y,.none].toArray})(h:dW_):qS! b_ qV!:=by delta setFlight;exact ES (GM he χ χ ?_);rw[aQ!];exact EV h
def tF{x c:ci_}{Q:ax_}(f7:hr!)(hh:fe!)(hc:qV_)
  (h:Ac! x (λv σ=>∃e t gc oh vs,v=.ref e/\Bs_ C=ψ cl_/\
   σ.heap.get? e=ψ {cls:=.ref C,dict:=gc,data:=k9! t}/\a≠e/\Bs_ a=ψ oh/\oh.data=Bw_ vs/\vs[2]?=ψ .none/\
   ∀h',Ab_ e=ψ {cls:=.ref C,dict:=gc,data:=AW_ t}->DX! σ.heap->E z! {σ with heap:=h'}) E s):
  wpAny b_ A qW! Q E s:=by
 let ma:Cp! bv!=true:=by rw[OE,f7,MB]
 delta raiseStmt;exact ES k8_;let#[e,t,gc,oh,vs,rfl,hC,he,am,ha,hd,h2,hE]:=h₁;let vb:C≠e:=λz=>by subst z;rw[hC]at he;cases he
 show"#-";exact ES qW_;show"!w";show"!S";let X1:j8.get? a=ψ oh:=(b2.2 a am).trans ((b1.2 a am).trans ha);show"!V";exact a2m hh am X1 hd h2 e2 χ c_ (hE _ ?_ ?_)
 .exact GL _ e2 χ
 .exact qZ_
end
section
variable{prog:xz!}{w:wY!}{A:w5!}{E:Value->Shared->Prop}{s:x1!}{env:Env}
theorem Try_R{body j7:ai_}{h₀:ExceptHandler}{hs:q0!}{Q:ax_}
  (h:BM_ gG! (λf σ=>match f with|.next=>wpR b_ A oK! Q E σ|f=>Q f σ)
   (λe σ=>Ac! (noteFrame e env) (λ_ ae=>wpAny b_ A qc! (λ_ bp=>wpAny b_ A (handleBy e env (h₀::hs)) Q E bp) E ae) E σ) s):
  wpR b_ A (GF! (.Try body (h₀::hs) j7 [] pos)) Q E s:=by
 rw[arm_exec_Try];exact eV ?_;delta tryStmt;simp![List.isEmpty_nil,IB,List.isEmpty_cons,NR,GC,HD];exact bind (attempt (mono h q1_ λe σ h₁=>?_))
 .cases f<;>first|exact h₁|exact pure' h₁
 .exact BH_ (ES (GY! h₁ (λ_ _ dh=>ES dh)))
def handle_VE{T3:ai_}{rest:q0!}{Q:ax_}(hT:Eg! z! "ValueError")
  (ht:HB! (Cz! t) (λc σ=>c=.type "ValueError"/\σ=s) ow_ s)
  (h:HB! qV! (λ_ σ=>HB! (execs (X2::T3) env) Q
   (notedBy b_ ht! env λx ae=>DK_ b_ x ae) σ) ow_ s):
  wpAny b_ A (handleBy z! env (.ExceptHandler (ψ t) υ (X2::T3) pos::rest)) Q E s:=by
 exact ML (LQ (GK ht (λc σ z=>?_) λ_ _ z=>z.elim)) (by intro z;cases z);let#[rfl,rfl]:=z;exact wpAny_excMatches_type (b:=τ) hT hu_ hu_ hu_ ?_;exact NT (GK h (λ_ σ z=>z) λ_ _ z=>z.elim)
end
section
variable{prog:xz!}{w:wY!}{A:w5!}{E:Value->Shared->Prop}{s:x1!}{env:Env}
variable{nm q:Str}{C N:uv!}{bs bm jp:List Value}{hdct:Bool}{sn:List Str}{sub:List Value}{ab:Bool}{col:Option Bool}{dd:Option Addr}{k0 k1 k2 k3 k5:Option Value}{B Bn newId r9 pz w6:String}{w9:List Value}
structure Yw(h h':Heap)(e C a:uv!):Prop where
 keeps:∀b o,h.get? b=ψ o->Ab_ b=ψ o
 new:h.get? e=υ
 there:∃t,Ab_ e=ψ {cls:=.ref C,data:=AW_ t}
theorem Raise_from(Fn:lc_)(sd:ld!)(F:hv!){mN:o!}{x:Str} {kk}{Q:ax_}
  (f7:hr!)(hh:fe!)(eu:(q2_).any q!=θ)(uu:mN "__init__"=υ)
  (h:Ac! (GN! jA!) (λf σ=>f=.ref C/\Ac! (GD_ m_ q2_)
   (λar ae=>ar.kw=[]/\ar.pos.length<=sizeLine/\ae.heap.get? C=ψ cl_/\ae.heap.Ns N mN/\OwnTail ae.heap jp bm/\
    (∃oh vs,ae.heap.get? a=ψ oh/\oh.data=Bw_ vs/\vs[2]?=ψ .none)/\∀h' e,Yw ae.heap h' e C a->E z! {ae with heap:=h'}) E σ) E s):
  wpAny b_ A (GF! (.Raise (ψ (DO! jA! args)) (ψ (.Constant .none kk kp)) pos)) Q E s:=by
 rw[arm_exec_Raise];exact ES e8!;exact tF (C:=C) (nm:=nm) (q:=q) (N:=N) (bs:=bs) (bm:=bm) (hdct:=hdct) (sn:=sn) (sub:=sub) (ab:=ab) (col:=col) (dd:=dd) (k0:=k0) (k1:=k1) (k2:=k2) (k3:=k3) (k5:=k5) (newId:=newId) f7 hh q4_
  (ES (GY! (wpAny_Call_ofName (Ew_ q1_)) le!))
 let#[rfl,h₁]:=h₁;delta callWith;exact Fk_ (GY! h₁ (λar ae dh=>ES e8!));let#[be,X3]:=ar;let#[C9,az,hC,hn,T,#[oh,vs,ha,hd,h2],dh]:=dh;obtain rfl:X3=[]:=C9;let#[hp,g,d,tk,os]:=ae;simp![eu];exact Hv_ hC;exact ES (wpAny_call_exc_subU (hrest:=az) Fn sd F T hC hn uu λh' e hm=>ES (GE (NK K_)));let#[t,ht,_,_]:=hm.there;let am:a≠e:=λz=>by subst z;rw[hm.new]at ha;cases ha
 exact#[e,t,_,oh,vs,χ,hm.keeps _ _ hC,ht,am,hm.keeps _ _ ha,hd,h2,λX4 X5 b=>?_];exact dh X4 e #[λb' o z=>(b.2 b' (DX_ hm.new)).trans (hm.keeps _ _ z),hm.new,t,X5]
end
end WR
namespace XS
open PySem PySem.Spec PyProof.Rows L2
section
variable{M:Model}{A:w5!}{E:Value->Shared->Prop}{s:x1!}{base:Heap}{env:Env}{outer:List Env}{L e:uv!}{n:Heap}{cls:Tk}{fl:wX!}{Q:Unit->Shared->Prop}
def d1k{oe:Obj}{vs:Z!}{zm:Bool}(dc:dx_)(hl:cK!)(hf:cL!)(hn:cK_)(ce:dy!)
  (am:jt_)(he:gs_)(hc:lQ_)(hd:ju!)(hsz:1<vs.size)
  (k:q8_):
  wpAny M A xT! Q E s:=by
 let pj:=c0n (s:=s) hl hn am;exact ES xT_;exact ES xU!;delta EntryCells.newEntry newFields;exact ES xU_;let e1:O.get? e=some oe:=(so.2.1 e pj).trans he;let eT:e<dy_:=FK e1;generalize zn:xV!=ob;let ut:ob.data=.fields (oi_).toArray:=by rw[<-zn]
 let zo:ob.isFreed=false:=HS ut;let e2:(oj!).get? e=ψ oe:=EU _ e1;exact IL e2 hd hsz ?_;let d3:=HP hd oj_;let e3:=GL ok! e2 (HS d3);let db:∀b o,b≠e->O.get? b=ψ o->DC_ ju_=ψ o:=λb o G eb=>by
  rw[ok_];exact EU _ eb
 let tT:(ju_).get? dy_=ψ ob:=by
  rw[xW!];exact FP _ zo
 let s1:h_=dy_:=so.1.symm;exact Fr_ #[_,e3,d3] xX_ xY!
 .obtain rfl|⟨_,_,_,_,_,_,_,rfl⟩:=ao<;>simp
 .show"#R"
 .show"!B";exact xY_
 .show"!B";by_cases g8:b=e
  .subst g8;exact#[_,e3]
  .exact x0!
 .show"!B";exact x0_
def b3t{oe:Obj}{vs:Z!}(dc:dx_)(hl:cK!)(hf:cL!)(hn:cK_)(ce:dy!)
  (am:jt_)(he:gs_)(hc:lQ_)(hd:ju!)(O:q9!)
  (k:q8_):qS! M gt_:=by
 show"#5";exact GU_ d1k
end
open PySem.W
section
variable{X:Cx}{Z:List (Addr×Obj)}{U:L2.St}{H:Hp}{D:Ends}{xC:Str}{p6 p7 p8 p9 dm qc:Pos} {kk}{fs:Expr}{C L a:uv!}{s:x1!}{n:Heap}{R:Tk->Hp->Prop}{tf:TE}{oe:Obj}{vs:Array Value}
def b5t(hX:b8!)(ai:aw_)(hf:ax!)(fm:a3!)(vd:hw_)(ve:hx!)(hg:aK_)(hm:lg!)(hC:eJ!)
  (vf:ra_)(al:aL!)(ka:lg_)
  (I:c!)(Nn:jw_)(i:In n s.heap)(xn:n.get? a=υ)(xe:p9_)(xc:oe.cls=.type "ValueError")(X6:oe.dict=υ)(xd:ju!)(x1:q9!)(x2:jA_)
  (l8:e7_)(ht:tf U H λ_ H1=>∀a,H1 a=υ->Gk! H1):
  wpAny d_ X.A (noteFrame u! X.env) (λ_ ae=>rr_ (setFlight u! υ) (λ_ bp=>
   wpAny d_ X.A (handleBy u! X.env rc_) dS_ X.xe bp) X.xe ae) X.xe s:=by
 let dc:dO_=ψ Y!:=by rw[<-ai];exact fz!
 let ce:∀b∈frA Y!,∃o,n.get? b=ψ o:=by rw[<-ai];exact Nn.frm
 let hl:B5_ X.base Y!:=by rw[<-ai];exact I.stack
 let md:a∉frA Y!:=λz=>by let#[o,w]:=ce a z;rw[xn]at w;cases w
 exact b3t (cls:=(Value.type "ValueError",υ,.none)) dc hl hf ce i xn xe #[xc,X6,_,xd,x2] xd x1 λO T a0 a1 ⟨jq,y1,F'⟩ a2 a3=>?_;let k8:H T=none:=Cb_ a0;let qe:n.get? T=none:=let⟨_,_,_,_,_,_,_,_,_,z,_⟩:=a1;z;let T4:a≠T:=let⟨_,_,_,_,_,_,_,_,_,_,z,_⟩:=a1;GI z;let z2:(Ha_ 1 (Er_ T))[2]?=ψ .none:=by rw[OM a_];exact x2
 let k1:=a2;rw[<-ai]at a2;let J1:=Fs! a2 λb h=>by simp at h;subst h;exact#[l8,xn]
 let tk:∀b∈[T],H b=υ/\n.get? b=none:=λb h=>by simp at h;subst h;exact hy!
 exact fB (s:=on!) (fo:=υ) a3 ce a1 λh2 b1 b2 b3 b4=>?_;let y2:h2.get? a=ψ jq:=b2.old a jq (BE! T4) md y1;rw[<-ai]at b2;let J2:=Du! J1 b2;let#[_,PL,jm,PM,PQ,e2,c2,d2,r2]:=id b1;let I2:E8_ dV! U H {s with heap:=h2}:=cV (ok:=a3a J2.ok) J2 χ (CN_ J2.pin fm!) χ λ_ _ z=>z;exact WR.handle_VE #[_,e2,c2.1] (iV (X:=fm_) I2 vd ve d! aa_) ?_;exact fB (s:={s with heap:=h2}) (fo:=υ) b3 ce b1 λh3 vg kb c3 c4=>?_;let y3:h3.get? a=ψ jq:=kb.old a jq (BE! T4) md y2;rw[<-ai]at kb;let J3:=Du! J2 kb;let kr:a≠X.env.locals:=λz=>by subst z;let#[o,w]:=Nn.loc;rw[show Bq_ n.get?=ψ o from w]at xn;cases xn
 let X7:a∉X.fs:=λz=>md (by
  show li_;rw[IS,hf];exact EW _ z)
 let I3:E8_ (Hm X a lj!) U H {s with heap:=h3}:=cV (ok:=a3a J3.ok) J3 χ (λp hp=>by
  rw[FY]at hp;obtain hp|hp:=FL.mp hp
  .exact J3.pin p hp
  .simp at hp;subst hp;exact#[y3,l8,kr,X7,λv z=>by rw[F']at z;cases z]) χ λ_ _ z=>z
 exact NO ?_;let#[bm,N,nm,q,bs,hdct,sn,sub,ab,col,dd,k0,k1,k2,k3,k5,mN,g1,g2,uu,g3]:=c0u I.ok.mod.kin hC;exact WR.Raise_from (C:=C) (a:=a) (mN:=mN) (nm:=nm) (q:=q) (N:=N) (bs:=bs) (bm:=bm) (hdct:=hdct) (sn:=sn) (sub:=sub) (ab:=ab) (col:=col) (dd:=dd) (k0:=k0) (k1:=k1) (k2:=k2) (k3:=k3) (k5:=k5) HH a_ HH (g3.hasType a_) χ (by rw[ka];rfl) uu (dX (X:=Hm X a lj!) I3 hg hm I_ al);rw[ka];show wX_ (GD_ m_ ra!) _;exact IA (HZ (GK (vf a lj! [] _ U H _ I3 ht) (λu s4 ⟨v,H4,I4,r4,q4⟩=>?_) λ_ _ z=>z.elim));exact JM ?_;let pa:=(rf!).1;exact#[χ,yk!,I4.bk _ _ g1,g2.keeps I4.bk,g3.keeps I4.bk,#[jq,_,pa,F',z2],λh5 e m=>?_];let J4:m2! H4 s4:=cV (ok:=b8g I4.ok fm) I4 χ (CN_ I4.pin hz!) χ λ_ _ z=>z;let J5:m2! H4 {s4 with heap:=h5}:=J4.un (t':=s4.toks) os! (J4.hok.kept m.keeps);let qf:H4 e=none:=Fx_ J4.hok;let N4:=DU! J4;let i4:In s4.heap h5:=(ot_).in;let x5:XN s4.heap h5 e hx_:=by
  let#[t,w]:=m.there;exact En_ m.new w
 let xa:h5.FunFrames X.base Y!:=by rw[<-ai];exact J5.stack
 let T5:∀b∈frA Y!,∃o,s4.heap.get? b=ψ o:=by rw[<-ai];exact N4.frm
 delta notedBy;exact nM (s:={s4 with heap:=h5}) dc xa hf T5 i4 x5 λh6 T6 t0 t1 t2 t3=>?_;rw[<-ai]at t2;let J6:=dF J5 N4 t2 λb h=>by simp at h;subst h;exact#[qf,m.new]
 let vh:H4 T6=none:=J5.hok.fresh t0;let#[_,X8,X9,YA,YB,f6,YC,PR,PU,xb,r6]:=id t1;delta cameBackBy;exact ES rh_;rw[aQ!];exact fB (s:={s4 with heap:=h6}) (fo:=hd!) t3 T5 t1 λh7 u1 u2 u3 u4=>?_;rw[<-ai]at u2;let J7:=dF J6 N4 u2 λb h=>by simp at h;subst h;exact#[vh,xb]
 let T7:e≠a:=λz=>by subst z;rw[m.new]at pa;cases pa
 let T8:T6≠a:=λz=>by subst z;rw[xb]at pa;cases pa
 let T9:H4 a=none:=(rf!).2.1;let YD:h7.get? a=ψ jq:=u2.old a jq (by simp[GI T8]) ri! (t2.old a jq (by simp[GI T7]) ri! (m.keeps _ _ pa));let J8:=b4m (o:=Xj a) J7 Nn xn T9 (c8g YD F' z2);exact hX Z U _ _ s4.heap e hx_ [e,T6] J8 N4 (i4.on ri_) (.on u1) (λb G=>by
  simp at G;obtain rfl|rfl:=G
  .rw[aH T7];exact qf
  .rw[aH T8];exact vh) (q4 a T9)
end
end XS
namespace WR
open PySem
def vA(x:wX!):∃K:Value->Sem Fin,Builtin.«type.__call__» ll_=lm!:=by let ft:=F.called_int;let#[c,tl,UA]:=ft.mro;let e:∀y,Builtin.«type.__call__» ll_=y->(F5! lm!)->∃K:Value->Sem Fin,Builtin.«type.__call__» ll_=lm!:=λy h ⟨K,k⟩=>rm!;exact e _ χ ?_;delta Builtin.«type.__call__»;simp![ft.notType,GC,HD,ft.canCreate,F.typeCall_int_1 x,pure_bind,UA,List.isEmpty_cons,ft.made];exact P!
def c4q(v:wX!):∃K:Value->Sem Fin,Builtin.«int.__new__» lm_=ln!:=by let e:∀y,Builtin.«int.__new__» lm_=y->(F5! ln!)->∃K:Value->Sem Fin,Builtin.«int.__new__» lm_=ln!:=λy h ⟨K,k⟩=>rm!;exact e _ χ ?_;let O:isType aD!=pure true:=χ;delta Builtin.«int.__new__»;simp![O,F.conv_sub_int,F.madeHere_int,pure_bind,NA,GC,HD];exact P!
def b4s(x:PySem.Str)(u:Tok):∃(hb G2 G3:wY_ Value->Sem Value) (G4:wY_ aL_->Sem Value),(rm_) aM!=(callSpecial? aM! "__int__">>=hb)/\hb υ=(specialOf aM! "__index__">>=G2)/\
  G2 υ=(specialOf aM! "__trunc__">>=G3)/\G3 υ=((rn_) aM!>>=G4)/\∀k9,G4 (ψ k9)=(ro!) aM! k9 10:=
 #[_,_,_,_,χ,χ,χ,χ,bj_]
section
variable{prog:xz!}{w:wY!}{A:w5!}{E:Value->Shared->Prop}{s:x1!}{Q:Value->Shared->Prop}{x:PySem.Str}{u:Tok}{k9:List Nat}
def tail{tk:δ}(hh:bk_)(hE:hB!):
  wpR b_ A (newExc dX! [m]>>=λUB=>markTheRefusal ["int.__new__"] UB>>=λ_=>raiseNew UB) Q E {s with toks:=tk}:=by
 exact bind (BH_ (wpAny_newExc_plain (hargs:=by show 1<=2 ^ 24;omega) plainExc_ValueError λh' e m=>?_));exact HA! a7h;exact BH_ (Hw! (hE _ _ _ _ m))
def a5e:(int_private%"bytesOf?") (Value.str x u)=pure none:=χ
def xU(hh:bk_)(hs:(fn_).length<=640)(hx:lq!)
  (hr:(rq_) 0 10 fn_=(int_private%"Numeral.invalid")\/∃i,(rq_) 0 10 fn_=(int_private%"Numeral.value") i/\¬((fn_).length==k9.length)=τ)
  (hE:hB!):BM_ ((ro!) aM! k9 10) Q E s:=by
 let hf:∀(p y:PySem.Str),p.length<=100->(p++(#[y.cps.extract 0 200]:PySem.Str)).length<=sizeLine:=λp y hp=>by
  show(p.cps++y.cps.extract 0 200).size<=2 ^ 24;let cr:p.cps.size<=100:=hp;rw[Array.size_append,Array.size_extract];omega
 show Dt_ (@ite _ ((fn_).length<=640) _ _ _) _;rw[FE hs];show Dt_ (_>>=_) _;exact HA! pure';dsimp only;obtain hr|⟨i,hr,hi⟩:=hr
 .rw[hr];show"#-";simp![a5e,pure_bind,Option.isSome_none,NR,GC,HD];show"!r"
 .rw[hr];show"#-";rw[FC hi];simp![a5e,pure_bind];show"!r"
end
section
variable{prog:xz!}{w:wY!}{A:w5!}{E:Value->Shared->Prop}{s:x1!}{Q:Value->Shared->Prop}{x:PySem.Str}{u:Tok}
def a3f{QF:PySem.Fin->Shared->ν}(hh:bk_)(hl:ap!<=640)(hn:rt!)(hx:lq!)
  (hE:hB!):BM_ (Builtin.«int.__new__» #[[hA_,.str x u],[]]) QF E s:=by
 let#[K,hK]:=c4q aM!;let#[hb,G2,G3,G4,e1,e2,e3,e4,e5]:=b4s x u;let t1:Fy! "__int__"=pure none:=W.KIN.str_int;let t2:Fy! "__index__"=pure none:=W.KIN.str_idx;let t3:Fy! "__trunc__"=pure none:=W.KIN.str_trunc;let t0:callSpecial? aM! "__int__"=pure none:=by delta callSpecial?;rw[t1];rfl
 let tn:(rn_) aM!=pure (Hr! numTextOf):=χ;rw[hK,e1,t0,pure_bind,e2,t2,pure_bind,e3,t3,pure_bind,e4,tn,pure_bind,e5];let hs:(numSeenOf x).length<=640:=GB (seen_length x) hl;exact bind (HU! (xU (Q:=ur_) hh hs hx ?_ hE) us!);obtain⟨m,O,_⟩|⟨_,h⟩:=read0 x hs
 .rw[hn]at O;cases O
 .exact h
def oZ{R:bc_}{id:String}{args:Args}{b:Builtin}(G:rv!)
  (h:rw!):
  codeR b_ A ls! R s:=by
 exact gW ?_;show wpR _ _ (match entryFor table id with|some b=>b args|none=>unsupported ((withoutEnding? id "#data").getD id)) _ _ s;rw[G];exact h
def oY{R:bc_}{id:String}{args:Args}{b:Builtin}(hq:(Code.builtin id args).quiet=τ)(G:rv!)(hc:Ec_ id args=pure ())
  (h:rw!):
  codeR b_ A (.call dg! args) R s:=by
 exact gW ?_;show wpR _ A.in1 (do checkBuiltinCall id args;again ls!) _ _ s;rw[hc,pure_bind];exact pure' #[hq,oZ G h]
def uR{R:bc_}{T:String}(h:Bn! b_ (.builtin "type.__call__" #[.type T::args,[]])):Bn! b_ (.call aA! #[args,[]]):=by exact gW ?_;show Dt_ (callAny aA! _) _;exact pure' #[KH _ d!,h]
def int_refused(hh:bk_)(hl:ap!<=640)(hn:rt!)(hx:lq!)
  (hE:hB!):BM_ (call aD! [.str x u]) Q E s:=by
 exact call' (uR (oZ F.entry_type_call ?_));let#[K,hK]:=vA aM!;rw[hK];exact Gz_ (call' (oY (KH _ d!) F.entry_int_new (F.newCall_int_1 _) (a3f hh hl hn hx hE)))
end
end WR
namespace XS
open PySem PySem.Spec PyProof.Rows PySem.W L2
section
variable{X:Cx}{e:Expr}{te:TE}{p2 p4:Pos}
def c4c{Rf:L2.St->Hp->ν}(hh:cM!)(hg:lt_)(hm:lu!)(he:bQ_)
  (hE:∀Z U H s h' a tk args,m2! H s->GI! a->Rf U H->X.xe u! {s with heap:=h',toks:=tk})
  (ai:lu_:=by rfl):
  Nk X lv! (λU H Q=>te U H λv H1=>∃x,[v]=hD_/\ap!<=640/\(c7_).length<=sizeLine/\rz!):=by
 intro Z s U H Q I h;let G:AS_ "int"=ψ aD!:=by decide+kernel
 exact WR.Call_R (Ae! (iV I hg hm G ?_ a_ a_));exact WR.callWith_typeR (fF (Ae! (cE he eB ai p4 Z s U H (λvs H1=>∃x,vs=hD_/\ap!<=640/\(c7_).length<=sizeLine/\rz!) I ?_)) λus s1 z=>?_) ai χ
 .exact h
 .let#[vs,H1,I1,r1,x,rfl,hl,hr,hc]:=z;let#[u,rfl,t,rfl]:=iC r1;obtain⟨n,hn,q⟩|⟨hn,q⟩:=hc
  .exact Ae! (W.KIN.call_text hn hl #[a4_,H1,i2_,P!,q])
  .exact WR.int_refused hh hl hn hr λh' a tk args m=>hE Z U H1 s1 h' a tk args I1 m q
def b2v{xn xC:Str}{i:δ}{p5:Pos} {kk}{R:bJ!}{tf:TE}(hX:b8!)(ai:aw_)(hf:ax!)(hh:cM!)
  (hN:V!)(hi:rz_)(hk:qg! xn=Ad! ψ)(PV:lt_)(PX:lu!)(vd:hw_)(ve:hx!)(hg:aK_)(hm:lg!)(hC:eJ!)
  (he:∀pn f,PE ch! e te)(vf:ra_)(al:aL!:=by decide)(ka:lg_:=by rfl)
  (jr:lu_:=by rfl)(hs:rA!:=by rfl):
  Qa X rB!
   (λD U H=>te U H λv H1=>∃x,[v]=hD_/\ap!<=640/\(c7_).length<=sizeLine/\((∃n,PySem.intText? x=ψ n/\D.nx (U.set i (ψ cp_)) H1)\/rD_)):=by
 intro Z s U H D I h;exact WR.Try_R ?_;let back:∀{f:i!} {bg H1 s1},E8_ lv_ bg H1 s1->Cy! bg H1 s1:=λJ=>cV (ok:=fr!) J χ fq_ χ λ_ _ z=>z;exact WR.execs_consR (fF (a9d (X:=oC!) (te:=λU H Q=>te U H λv H1=>∃x,[v]=hD_/\ap!<=640/\(c7_).length<=sizeLine/\(ry_\/rD_)) hN hi fc!
  (c4c (X:=oC!) hh PV PX (he _ _) (λfq ac H' s' h' a tk args J m q=>?_) jr) hs (.inr hk) [] s U H {D with} rG_ h) λf s1 z=>?_)
 .let JX:AX_ X Z:=cV (ok:=fr!) J χ (CN_ J.pin cn_) χ λ_ _ z=>z;let YE:Cy! ac H' {s' with heap:=h',toks:=tk}:=JX.un (t':=tk) os! (JX.hok.kept m.keeps);let#[t,ht,_]:=m.there;exact b5t hX ai hf (λ_=>hh) vd ve hg hm hC vf al ka YE (DU! JX) (ot_).in m.new ht χ χ χ χ χ (Fx_ JX.hok) q
 .cases f with
  |next=>let#[bg,H1,J,q]:=z;exact Gx! bU!
  |brk=>let#[bg,H1,J,q]:=z;exact bU!
  |cont=>let#[bg,H1,J,q]:=z;exact bU!
  |ret u=>let#[v,bg,H1,J,r,q]:=z;exact lx!
end
end XS
namespace DL
open PySem PySem.Spec PyProof.Rows L2 XS
def Xk(i:δ)(fw ff:WE)(C:uv!)(E:EK):WS:=λρ M R=>fw ρ M λd M1=>∃x,d=.str x/\ap!<=640/\(c7_).length<=sizeLine/\((∃n,PySem.intText? x=ψ n/\R (.nx (ρ.set i (ψ cp_))) M1)\/(PySem.intText? x=υ/\ff ρ M1 λ_ M2=>E C υ M2))
def b3z{X:Cx}{own:b!}{fw ff:WE}{M0:Mh}{G0 F0:Hp}{E:EK}{xn xC:Str}{i:δ}{p5:Pos} {kk}(hX:bg_)(ai:aw_)(hf:ax!)(hh:cM!)
  (hN:V!)(hi:rz_)(hk:qg! xn=Ad! ψ)(PV:lt_)(PX:lu!)(vd:hw_)(ve:hx!)(hg:aK_)(hm:lg!)(hC:eJ!)
  (he:∀pn f,ME ch! own e fw)(vf:∀a pn,ME cn! own fs ff)(dr:al!:=by decide)(al:aL!:=by decide)(ka:lg_:=by rfl)
  (jr:lu_:=by rfl)(hs:rA!:=by rfl):
  Qa X rB!
   (Bz! own (Xk i fw ff C E)):=by
 rintro Z s U H D I ⟨hb,ρ,M,R,sr,e',k1,k2⟩;exact b2v (te:=qS_ Yb own fw) (tf:=qS_ Yb own ff) hX ai hf hh hN hi hk PV PX vd ve hg hm hC (λpn f=>(he pn f).ok) (λa pn=>(vf a pn).ok) al ka jr hs Z s U H D I #[hb,ρ,M,_,sr.st,e',λd M' v G' H' r x m q=>?_];let#[z,rfl,hl,hr,hc]:=r;exact#[z,by rw[bB q],hl,hr,?_];obtain⟨n,hn,hR⟩|⟨hn,YF⟩:=hc
 .exact .inl #[n,hn,k1 _ M' G' _ H' hR ((ke!).set dr Bc.int)]
 .exact .inr #[hn,G',ρ,M',_,(ke!).st,YF,λd M2 v G2 H2 r2 x2 m2 q2=>λa ha=>#[C,υ,M2,_,#[χ,χ,λ_=>.inr #[a,χ,aV]],r2,((pk!).trans x2 m).trans (.ext rO_) m2,m2.ext rO_]]
def Uw(i n:δ):WE:=λρ M R=>∃x,ρ[i]?=AY_ bP_/\n+(c7_).length<=sizeLine/\∀y,R (.str y) M
def b0j{X:Cx}{own:b!}{i:δ}{x s1:Str}{j:δ}(hN:Z_)(hv:cj!)(hi:al!)(hd:s_:=by decide)(bj:ck!:=by decide):
  ME X own (HB_ [.Constant (.str s1) j p3,.FormattedValue (.Name x p1) 114 υ p2] pos) (Uw i s1.length):=⟨λZ s U H Q I ⟨hb,ρ,M,R,st,⟨z,e1,e3,e2⟩,k⟩=>by
 let#[v,f1,f2]:=st.or.at_ i _ e1 hi;cases bB f2;exact JoinedStr_many ly_;rw[KU];exact JP (wpAny_FormattedValue_repr (cO (eL hN hv hd bj Z _ U H (λv H'=>v=.str z/\H'=H) bA_ rS!) ?_));rintro u s' ⟨x',H',I',r,rfl,rfl⟩;let#[t,rfl]:=r;exact wpAny_pyReprObj_str ?_ a!;let ak:∀tk:Nat,(rS_).length<=sizeLine/\rr_ (joinParts rS_ []) ad_ X.xe {s' with toks:=tk}:=λtk=>#[lA_,joinParts_nil #[gU!,_,(I'.tok tk).tok _,P!,k _ M _ hb _ (e2 _) jY_ st.mr Bc.str] lB_];exact wpAny_formatField_str (ak _) (ak _) a!⟩
def Hc.nox{X:Cx}{st:ai_}{t:TS}(h:Hc X.nox st t):Hc X st t:=λZ s U H D I hw=>
 WR.mono q2! ld_ λ_ _ z=>ye_ z
def c5k{K:ye!}{mg:o!}{st:Stmt}{k:δ}{bx:b!}{q:WS}(hd:rT_)(S:Aq N [y] ak_)(nu:mg x=ψ dB_)
  (G:∀(base:Heap) (ag:uv!) (ah:wX!) (A:w5!) (outer:C_) (s:x1!) (H:Hp) (E:XK) (M0:Mh) (G0 F0:Hp),Ba k eE!->Hc (rU!).nox aA_ (Fw_ q)):
  ∃fd:FuncData,rU_/\∀base:Heap,K.In base->A2_ base.Ns->Hj_ y:=by
 let#[f,fd,F,B,m]:=hd;rw[nu]at m;cases m;exact#[fd,λs u=>.of_eq (B [u] χ),λbase _ _=>?_];show"!}";let#[hl,hb,ds,M,R,sub,m,r,e,kk]:=h;exact#[_,Hc.nox (G base _ ah A outer s H E M hb H hr),?_];let er:=jJ (N:=N) sub r;exact kS!
end DL
namespace WR
open PySem
theorem Expr_R{E:i!}{s:x1!}{e:Expr}{pos:Pos}{Q:ax_}(h:BM_ hX_ yL! E s)(hi:interactive env=θ)
  (hs:Bc! e υ env=pure θ):BM_ (GF! fl!) Q E s:=by
 rw[exec_Expr env e pos hi hs];exact H2! (GY_ (λv s' h'=>of_any (wpAny_dropValue h')))
end WR
namespace XS
open PySem PySem.Spec PyProof.Rows PySem.W L2
def Uk(U:L2.St)(ie ix:δ)(v:V):L2.St:=(U.set ix an!).set ie υ
section
variable{X:Cx}{Z:List (Addr×Obj)}{D:Ends}{xC en xn:Str}{cp xp ap hp:Pos}{he:Expr}{C0 L:uv!}{ie ix:Nat}{hv:Tk->Hp->V->Prop}
def c5e(ai:aw_)(hf:ax!)(fm:a3!)(hN:V!)(me:da!)(gk:hG_)(am:hH!)(mf:qg! en=Ad! ψ)(nw:qg! xn=Ad! ψ)
  (hg:aK_)(hm:hH_)(C:hI!)
  (qg:rW!)
  (ii:hI_)(al:aL!)
  {fq:j_}{ac:L2.St}{H':Hp}{s':x1!}{cls:Tk}{bad:v!}
  (I:AX_ lF_ fq)
  (Nn:Nw lF_ fq n)(i:oY!)(x:lH_)(G:lI!)
  (q:∃c v,cls.1=.ref c/\CE! a3_=ψ τ/\hv cls H' v/\D.nx zc_ H'):
  xT X Z D rX_ u! s':=by
 let#[c,v,b9,i9,YG,hD]:=q;let dc:dO_=ψ Y!:=by rw[<-ai];exact fz!
 let ce:∀b∈frA Y!,∃o,n.get? b=ψ o:=by rw[<-ai];exact Nn.frm
 let hl:BV_ X.base Y!:=by rw[<-ai];exact I.stack
 exact G6! ce λO T fl a0 a1 a2 a3=>?_;let k8:H' T=none:=by
  obtain z|z:=a0
  .exact G T z
  .exact jC_
 let qe:n.get? T=none:=let⟨_,_,_,_,_,_,_,_,_,z,_⟩:=a1;z;rw[<-ai]at a2;let J1:=Fs! a2 λb h=>gv!;let tk:∀b∈[T],H' b=υ/\n.get? b=none:=λb h=>by simp at h;subst h;exact hy!
 exact fB (s:=jD!) (fo:=υ) a3 ce a1 λh2 b1 b2 b3 b4=>?_;rw[<-ai]at b2;let J2:=Du! J1 b2;exact ML (LQ ?_) lI_;let I2:Br_ dV! {s' with heap:=h2}:=cV (ok:=lJ!) J2 χ lJ_ χ λ_ _ z=>z;exact dX (X:=fm_) I2 hg hm ?_ al;let#[l9,PL,jm,PM,PQ,e2,c2,d2,r2]:=id b1;exact CR_ C;dsimp only;exact codeAny_handlers_suite_as ?_;exact fB (s:=lK!) (fo:=υ) b3 ce b1 λh3 vg kb c3 c4=>?_;rw[<-ai]at kb;let J3:=Du! J2 kb;let#[_,oe,PY,YH,YI,e3,PZ,d3,r3]:=vg;let l8:H' a=none:=G _ x.mem;let kr:a≠X.env.locals:=λz=>by subst z;let#[o,w]:=Nn.loc;rw[show Bq_ n.get?=ψ o from w]at l9;cases l9
 let md:a∉X.fs:=λz=>by
  let#[o,w]:=ce a (by
   show li_;rw[IS,hf];exact EW _ z)
  rw[l9]at w;cases w
 let I3:Br_ lM! {s' with heap:=h3}:=cV (ok:=lL_) J3 χ (λp hp=>by
  rw[FY]at hp;obtain hp|hp:=FL.mp hp
  .exact J3.pin p cn_
  .simp at hp;subst hp;exact rZ_) χ λ_ _ z=>z
 exact jI (X:=hK_) (v:=H!) I3 hN me (.inl mf) χ (λs4 I4=>?_) (.inr mf);let YJ:lN_[ie]?=ψ iS!:=GW (by rw[I3.len];exact(FO.mp me).1);let P:=dL (yN (X:=hK_) (pos:=ap) (pos':=xp) hN gk (.inl nw) (qg a lK_ oe cls c_ PZ (by delta W.notCls;rw[d3])) ii (.inr nw));exact GK (P [] s4 _ H' {nx:=λYK H5=>YK=(lN_).set ix an!/\H5=H',rt:=λ_ _=>False} I4 #[YJ,v,YG,χ,χ]) r2_ λ_ _ z=>z.elim;cases f<;>first|(let#[_,_,_,z]:=z;exact z.elim)|(let#[_,_,_,_,_,z]:=z;exact z.elim)|skip
 let#[_,_,I5,rfl,rfl]:=z;dsimp only;let#[m,hn,YL]:=id I5.loc;exact wpAny_nameGoes_keeps mf hn (by rw[show X.env.scope.kind=.function from I5.ok.kind];rfl) λh6 w YM UC=>?_;let xa:=I5.len;let I6:E8_ lM! zc_ _ {s5 with heap:=h6,toks:=s5.toks+1}:=b4n I5 YM UC (λj y u e1 e2 e3=>by
  let hj:j≠ie:=λz=>by
   subst z;delta Uk at e2;rw[OK]at e2;split at e2
   .split at e2<;>cases e2
   .rename_i z;exact z χ
  let YN:((lN_).set ix an!)[j]?=AY_ u:=by
   delta Uk at e2;rw[hl!]at e2;rw[OK]at e2 ⊢;split
   .rename_i z;rw[FE z]at e2;rw[IH];exact e2
   .rename_i z;rw[FC z]at e2;rw[hl!];exact e2
  let hy:en≠y:=λz=>by
   subst z;exact hj (EC! hN (e1.trans me.symm))
  let#[u',r',lk]:=YL j y u e1 YN e3;exact kX_;obtain⟨k,e⟩|⟨k,c,e,z⟩:=lk
  .exact .inl #[k,by simp[GI hy,e]]
  .exact .inr #[k,c,e,z.sameBut UC (I5.cne _ c e)]) (by delta Uk;simp at xa ⊢;exact xa)
 exact#[_,_,cV (ok:=b8g I6.ok fm) I6 χ (CN_ I6.pin hz!) χ λ_ _ z=>z,hD]
end
section
variable{X:Cx}{CX:So}{k:Nat}{f C:uv!}{fd:FuncData}{ps:List Str}{sp:Sp}{E:XK}{x m:Str}{p pos:Pos}{e:Expr}{es:List Expr}{t:TA}{Z:List (Addr×Obj)}{U:L2.St}{H:Hp}{s:x1!}{Q:VK}
def c3f(F:jN!)(hr:T!)(G:f5!)(hx:∀e s',HE_ H s->X.xe e s')
  (I:c!)(r:c4!)(h:Bk_ H):WR.wpR d_ X.A md! ad_ X.xe s:=by
 let hl:am_=K!:=by rw[<-r.length];exact Hy! h
 let ij:=G s us I.kIn (w4_ FY hl);rw[FY]at ij;exact WR.call' (ES! (F.run X.A X.stack s H ct! us vs Q E hr I.env0 ij r h));cases r with
 |error e=>exact hx e s' hq
 |ok fl=>
  cases fl with
  |ret u=>exact I.after hq
  |next=>exact ye_ hq
  |brk=>exact ye_ hq
  |cont=>exact ye_ hq
def a2s(F:jN!)(hr:T!)(hg:x_)(hm:md_)(hk:fB!)(G:f5!)
  (hx:∀H1 s1 e s',m2! H1 s1->HE_ H1 s1->X.xe e s')(ha:oN_)(I:c!)(h:t U H λvs H1=>Bk_ H1)
  (al:s_:=by decide)(he:z_:=by rfl)(ao:W_:=by rfl):
  WR.wpR d_ X.A (AV! ah!) ad_ X.xe s:=by
 exact WR.Call_R (Ae! d9_);exact WR.callWith_KR hk yU_ he ao;exact c3f F hr G (λe s'=>hx H1 s1 e s' I1) I1 r q
end
section
variable{X:Cx}{xC en xn xi xf:Str}{cp xp ap hp tp p1 p2 p3 p4:Pos}{he e:Expr}{es:List Expr}{C0 L f:uv!}{i ie ix k:Nat}{hv:Tk->Hp->V->Prop}{fd:FuncData}{ps:List Str}{sp:Sp}{t:TA}
def c3q(ai:aw_)(hf:ax!)(fm:a3!)(hN:V!)(me:da!)(gk:hG_)(am:hH!)(mf:qg! en=Ad! ψ)(nw:qg! xn=Ad! ψ)
  (hg:aK_)(hm:hH_)(C:hI!)
  (qg:rW!)
  (F:r3!)(hr:T!)(mh:fv_)(P':zx!)(QA:fB!)(G:f5!)
  (ha:r3_)
  (ii:hI_:=by rfl)(al:aL!:=by decide)(ja:fw!:=by decide)
  (jr:z_:=by rfl)(ao:fw_:=by rfl)(hs:lP_:=by rfl):
  Qa X lR!
   λD U H=>t U H λvs H1=>sp vs H1 (λ_ H2=>D.nx U H2) λc0 d H'=>∃c v,c0=.ref c/\CE! a3_=ψ τ/\hv (c0,d) H' v/\D.nx (Uk U ie ix v) H':=by
 show"!>";let I0:E8_ lF_ U H s:=cV (ok:=c4i I.ok) I χ lw! χ λ_ _ z=>z;exact He_ (WR.Expr_R (Bh! za!) I0.quiet hs)
 .let#[a,T,cls,H',rfl,os,bare,un,hok,QB,QC,hT,ff,q]:=z;let#[hh,g,d,t',ou]:=s';obtain rfl:ou=s1.os:=os;let J':=J.call (h':=hh) (g':=g) (d':=d) (t':=t') (ch:=[]) un hok bare fz_;exact Db_ c5e ii al J' (DU! J) (ow!).in (.on QB) dR! q;simp at G;obtain rfl|rfl:=G
  .exact QC
  .exact hT
 .let#[y,H1,I1,r1,q1]:=z;exact Gx! #[_,H1,back I1,q1]
end
end XS
namespace WR
open PySem PySem.W
section
variable{prog:xz!}{w:wY!}{A:w5!}{E:Value->Shared->Prop}{h:Heap}{g:Array GenState}{d:Drawn}{t:Nat}{os:OsState}{K:Frag}{x C:uv!}{ox:Obj}{od:Option Obj}{name:Str}{v:wX!}
def c0l{Q:hO_}(X:bb_)(I:hP!)(hf:lR_)(hq:Q (.done jc_) au!):Ac! (Builtin.«object.__getattribute__» r7_) Q E au!:=by let L0:=I.type (M:=cl!);let L1:=looks_find (M:=cl!) X I hf;delta Builtin.«object.__getattribute__»;exact CX! (ES (EV r8_));exact EV hq
def c0m{M:Model}{Q:cN!}(X:bb_)(I:hP!)(G:lS_)(hq:Q () au!):Cc! (checkBuiltinCall "BaseException.__getattribute__" #[[d3_,QD],[]]) Q E au!:=by
 let hk:BP_ builtinKind=ψ .slot:=by decide+kernel
 let YO:BP_ splitId=ψ ("BaseException","__getattribute__"):=by decide+kernel
 let ha:=F.args_bexc_ga bf_ QD;let L0:=I.type (M:=M);let L3:Looks M h (isInstance bf_ bv!) true:=L0.andThen (looks_subIn X G);simp![checkBuiltinCall,hk,YO];exact ES kQ!
 repeat (first|assumption|wp_step)
def c6i{R:bc_}(X:bb_)(I:hP!)(G:lS_)(hf:lR_)(hq:R oz! au!):
  codeAny b_ A (.call lT_ r7_) R au!:=
 KO F.attr_ValueError.ga.plain F.entry_bexc_ga (c0m X I G (c0l X I hf hq))
def ga_by{fill expr:Bool}{Q:i!}(X:bb_)(I:hP!)(G:lS_)(hf:lR_)(hh:handedIn v=τ)
  (YQ:Dy_ findIn m_=AY_ lT_)(YR:findIn K m_ "__getattr__"=ψ υ)(hq:Q v au!):
  wpAny b_ A (getAttrBy bf_ sb_ fill expr) Q E au!:=by
 let f3:=F.attr_ValueError.ga.bind bf_;let hx0:(expr&&onTheHeap (BP_ Value.builtin))=false:=by cases expr<;>rfl
 let YS:(Value.builtin "BaseException.__getattribute__"==Value.builtin "object.__getattribute__")=false:=by decide+kernel
 let YT:(onTheHeap (Er_ C)&&Value.builtin "BaseException.__getattribute__"==Value.builtin "object.__getattribute__")=false:=by rw[YS];rfl
 let L0:=I.type (M:=cl!);let L1:=looks_findIn (M:=cl!) X YQ;let L2:=looks_findIn (M:=cl!) X YR;let hho:=handedOut_of hh;delta getAttrBy;exact GE r8_;show"#-";rw[YT,bD!];delta getAttrByItsOwn hookBefore
 repeat (any_goals (first|assumption|(exact Do_ L2.at)|wp_step))
 exact c6i X I G hf ?_
 repeat (any_goals (first|assumption|wp_step))
end
end WR
namespace DL
open PySem PySem.Spec PyProof.Rows L2 XS
section
variable{X:Cx}{own:List Nat}{pos p1 p2 p3:Pos}
def b5e:Ft X ew! λxs H Q=>∃a C1 oe,xs=[H!,.ref C1]/\bz!∈X.pn/\oe.cls=.ref C1/\Q ae_ H:=by intro Z s U H xs us Q I r h;let#[a,C1,oe,rfl,hp,hc,q]:=h;let#[u,w',rfl,r1,r2]:=qJ r;cases sd!;cases (show w'=Value.ref C1 from r2);let he:=(I.pin _ cn_).1;exact W.isi_call I.kIn se! (BE! W.isIn) cG_ se_
def DV(C1:uv!)(c:uv!):ι V:=if c=C1 then ψ ae_ else υ
def c4b{en xC:Str}{ie:δ}(hN:da!)(hk:qg! en=Ad! ψ)(hg:nv_)(hm:nw!)(hv:nw_)(uf:aK_)(ug:sf!)
  (hd:aL!:=by decide)(gf:lX!:=by decide)(gg:lX_:=by decide)
  (he:sg!:=by rfl)(pe:sh!:=by rfl)
  (ao:sh_:=by rfl):
  ∀a pn oe c,bz!∈pn->oe.cls=.ref c->PE cn! (.Call sj! lY! [] pos) λU H Q=>U[ie]?=ψ eE_/\∃v,DV C1 c=ψ v/\Q v H:=λa pn oe c hp hc Z s U H Q I ⟨e1,v,e2,q⟩=>by
 delta DV at e2;split at e2
 .rename_i h;subst h;cases e2;exact jL (X:=dc_) b5e hg hm hv (cE si_ (cE (yP (X:=dc_) (v:=V.ref c) uf ug χ hd) eB pe) he) a_ a_ he ao Z s U H Q I #[H!,e1,a,c,oe,χ,hp,hc,q]
 .cases e2
end
section
variable{A:w5!}{E:Value->Shared->Prop}{s:x1!}{K:ye!}{v:wX!}{C:uv!}
def b4j{dep:Int}{Q:hO_}{M:Model}(X:db_)(ht:F5_ s.heap l0_ m_)(e:sl_)(h:Q (.done oH_) s):
  wpAny M A (Builtin.«isinstance.nested» #[[v,gv_,.int dep tk],[]]) Q E s:=by
 let#[hh,g,d,tt,os]:=s;let L1:F5_ hh (typeOf dX!) l1!:=W.Looks.of_pure hu_;let L3:F5_ hh (isInstance v dX!) true:=ht.andThen (W.looks_subIn X e);delta Builtin.«isinstance.nested»;exact Do_ ht.at;rw[FC (by intro q;cases (GS.mp q))];exact ES hf_;rw[FE a_]
 k_delta "plainIsInstance"
 exact GS! K_;simp![NA,GC,HD];exact ES kQ!;simp![IB];exact EV (EV h)
def b4k{Q:i!}(X:db_)(ht:∀M,F5_ s.heap l0_ m_)(e:sl_)(hx:v≠B9_ "__main__.__loader__#opaque")(h:Q ei_ s):
  wpAny B! A (call ew! [v,gv_]) Q E s:=
 PySem.call_isinstance (S:=λ_ R s=>(K.In s.heap/\∀M,W.Looks M s.heap l0_ m_)/\R (.ok oH_) s) (λ_ _ _ _ _ hs=>PySem.isinstance_outer (b4j hs.1.1 (hs.1.2 _) e hs.2) hx) #[#[X,ht],h]
end
section
variable{X:Cx}{own:List Nat}{pos xg YU p1 p2 p3 q1 q2 q3:Pos}
def b5f:Ft X ew! λxs H Q=>∃a C1 oe,xs=[H!,sm_]/\bz!∈X.pn/\oe.cls=.ref C1/\W.subIn X.K lW_ dX!=ψ τ/\Q ae_ H:=by intro Z s U H xs us Q I r h;let#[a,C1,oe,rfl,hp,hc,hs,q]:=h;let#[u,w',rfl,r1,r2]:=qJ r;cases sd!;cases (show w'=Value.type "ValueError" from r2);let he:=(I.pin _ cn_).1;exact b4k I.kIn se! hs cG_ se_
structure CY(K:ye!)(C:uv!):Prop where
 mk::
 hd:W.hasDictIn K C=τ
 ln:AR! "line"=ψ υ
 ga:AR! "__getattribute__"=AY_ lT_
 gt:AR! "__getattr__"=ψ υ
 sb:BD_ m_ bv!=ψ τ
 sv:BD_ m_ dX!=ψ τ
def CQ(C1:uv!):Tk->Hp->V->Prop:=λc H v=>∃dx k cv,c=sn!/\H dx=ψ dQ_/\v=.int k
def c4a{en:Str}{ie:δ}(hN:da!)(hk:qg! en=Ad! ψ)(L:CY X.K C1)(gf:lX!)(gg:lX_)
  {a:uv!}{pn:j_}{k:Int}(hp:bz!∈pn)(hc:EC oe sn!)(oy:Fy_ oe=τ):
  PE cn! (DY! (.Name en p1) "line" pos) λU H Q=>U[ie]?=ψ eE_/\H dx=ψ dQ_/\Q hU! H:=by
 rintro Z s U H Q I ⟨e1,hd,q⟩;exact b1r χ (cO (eL (X:=dc_) hN fc! gf gg Z s U H (λv H'=>v=.ref a/\H'=H) I l1_) ?_);rintro u s1 ⟨x,H1,I1,rx,rfl,rfl⟩;show"#F";let he:=(I1.pin _ cn_).1;let#[mA,n1,r]:=I1.hok dx _ hd;let#[od,ho,hl]:=wW n1;let J:W.InstAt s1.heap a oe C1 lU_:=#[he,hc.1,oy,by rw[show oe.dict=ψ dx from hc.2.1];exact ho];let#[u,hu,ru]:=Kz.some_of (v:=b7!) (o:=mA "line") (by let:=r "line";simpa using this);let hf:W.findObj X.K C1 lU_ "line"=ψ (.value u):=W.findObj_own L.hd L.ln χ (by rw[hl,hu]);delta getAttr;exact Do_ wpAny_mkText;exact WR.ga_by I1.kIn J L.sb hf (xE ru) L.ga L.gt #[b7!,H1,i2_,ru,q]
def b7w{en xC:Str}{ie:δ}(hN:da!)(hk:qg! en=Ad! ψ)(hg:nv_)(hm:nw!)(hv:nw_)(uf:aK_)(ug:sf!)
  (YV:hw_)(YW:hx!)(L:CY X.K C1)
  (hd:aL!:=by decide)(gf:lX!:=by decide)(gg:lX_:=by decide)
  (he:sg!:=by rfl)(pe:sh!:=by rfl)
  (ao:sh_:=by rfl)
  (ge:tS_ sp!=(θ,eval (Fz! q2) X.env)::tS_ [hV!]:=by rfl)(YX:tS_ [hV!]=(θ,eval (.Name "ValueError" q3) X.env)::Cm_ starEach:=by rfl)
  (YY:(G5! xg [hV!]).any q!=false:=by rfl):
  ∀a pn oe c,bz!∈pn->EC oe c->Fy_ oe=τ->PE cn! (.IfExp (.BoolOp .And [.Call sj! lY! [] pos,.Call (.Name "isinstance" q1) sp! [] xg] YU) (.Attribute (Fz! q4) "line" q5) els q6)
   λU H Q=>U[ie]?=ψ eE_/\∃v,CQ C1 c H v/\Q v H:=by
 rintro a pn oe c hp hc oy Z s U H Q I ⟨e1,v,⟨dx,k,cv,rfl,j9,rfl⟩,q⟩;let A1:=c4b (X:=X) (p1:=p1) (p2:=p2) (p3:=p3) (pos:=pos) hN hk hg hm hv uf ug hd gf gg he pe ao a pn oe C1 hp hc.1;let A2:=jL (X:=dc_) (p:=q1) (pos:=xg) b5f hg hm hv (cE si_ (cE (a9l (X:=dc_) (v:=sm_) YV YW d! χ) eB YX) ge) a_ a_ ge YY;exact a2r (X:=dc_) (PW.pt (a6h (yM A1) (yL (yM A2)))) (c4a (k:=k) hN hk L gf gg hp hc oy) (tb:=λ_ _ _=>False) (λ_ _ _ _ _ _ z=>z.elim) Z s U H Q I ?_;exact#[e1,_,S!,τ,χ,#[H!,e1,a,C1,oe,χ,hp,hc.1,L.sv,τ,χ,e1,j9,q]]
end
section
variable{X:Cx}{own ay f8:List Nat}{st:Stmt}{e a b o:Expr}{es:List Expr}{pos p2:Pos}{f fa fb fo:WE}{fs:WA}{q1:WS}{M0:Mh}{G0 F0:Hp}{E:EK}
def jZ(O:Fx! Qa):Hc X [st] bw!:=by
 intro Z s U H D I h;exact WR.execs_consR (Et! fF q3_);cases f with
 |next=>exact Ae! (HQ q)
 |ret v=>exact q
 |brk=>exact q
 |cont=>exact q
def b9d(h:MS X.nox own ay st q1):Fx! Qa:=λZ s U H D I z=>WR.mono (Ae! (h.ok M0 G0 F0 Z s U H D (I.wish _) z)) ld_ λ_ _ z=>ye_ z
def a7d{rest:ai_}(h:qg_):E7! Hc bw!:=Jy.R (zC h)
def c4u{K:ye!}{M:Mh}{hb H:Hp}{U:L2.St}{ρ:Ac}(h:EI! U ρ)(ie:δ):EI! (U.set ie υ) (ρ.set ie υ):=by
 exact#[#[#[h.st.or.sub,by simpa using h.st.or.len,λj d e _=>?_,hX!,hX!],h.st.mr,hX!],h.x,hX!];by_cases hj:ie=j
 .subst hj;rw[OK]at e;rw[S!]at e;split at e<;>cases e
 .rw[GA hj]at e ⊢;exact h.st.or.at_ j d e c_
def Oa(n ie ix:δ)(hv:Addr->wY_ Int->ι D)(g:Mr)(fs:WA):WS:=λρ M R=>fs ρ M λds M1=>e_=n/\g ds M1 (λ_ M2=>R ba! M2) λc ln M2=>Jk (hv c ln) λd=>R (.nx ((ρ.set ix bo_).set ie υ)) M2
def Wb(C1:uv!):Addr->wY_ Int->ι D:=λc ln=>if c=C1 then ln.map D.int else υ
def c4x{xC en xn xf:Str}{ap p2 p3 p4:Pos}{ie ix k:δ}{ps:l!}{g:Mr}
  (ai:aw_)(hf:ax!)(fm:a3!)(hN:V!)(me:da!)(gk:hG_)(am:hH!)(mf:qg! en=Ad! ψ)(nw:qg! xn=Ad! ψ)
  (hg:aK_)(hm:hH_)(C:hI!)
  (qg:sr_)
  (i9:ss!)
  (F:l4!)(hr:T!)(mh:fv_)
  (ha:ss_)
  (ii:hI_:=by rfl)(al:aL!:=by decide)(ja:fw!:=by decide)
  (jr:z_:=by rfl)(ao:fw_:=by rfl)(hs:lP_:=by rfl):
  Qa X lR! (TX X M0 G0 F0 [] [] st!):=by
 show"#.";exact c3q (t:=AX! BP X.K [] fs) ai hf fm hN me gk am mf nw hg hm C qg O hr mh h3 h4 h2 st_ ii al ja jr ao hs Z s U H D I hj_;exact Bb! _
 .exact k1 _ M2 G2 _ H2 r2 sv!
 .let#[d,hd,hR]:=cK h6;delta Wb at hd;split at hd
  .rename_i z;subst z;cases ln with
   |none=>cases hd
   |some n=>
    cases hd;let#[dx,YZ,Y0]:=UD;exact#[c,a4_,h5,i9,#[dx,n,cls.2.2,Prod.ext h5 (Prod.ext YZ χ),Y0,χ],k1 _ M' G' _ H' hR (c4u ((sr.grow (CC! h7) h8).set c_ Bc.int) ie)]
  .cases hd
end
section
variable{X:Cx}{own:List Nat}{e a b o:Expr}{pos p2 be aj:Pos}{f fa fb fo:WE}
def Rm(fa:WE)(ol oh:dr_):WE:=λρ M R=>fa ρ M λx M1=>Jk (ol ρ) λl=>Jk (oh ρ) λh=>Jk (lstM M1 x) λxs=>R (.lst (cutL xs l h)) M1
def wU{lo hi:my_}{ol oh:dr_}(ha:bd_)(hl:ns_)(hh:nt!):Bd! iI! (Rm fa ol oh):=
 gL vu_ λU hb H Q ρ M R st e k=>⟨hb,ρ,M,_,st,e,λx M1 v G1 H1 r1 x1 m1 q1=>by
  let#[l,e2,r1]:=cK r1;let#[h,e3,r1]:=cK r1;let#[xs,e4,r1]:=cK r1;let je:=DV_ x1;exact#[G1,ρ,l,je.or,e2,λG2 H2 s2=>#[G2,ρ,h,je.or.grow s2,e3,vv!]];let s4:=s2.trans s3;let#[p,vs,rfl,q,rr]:=zO s4.sub (m1.ext s4) ((q1.mono s2.g).mono s3.g) e4;exact .inr #[p,vs,χ,q,λp hp=>k _ _ _ _ _ r1 (CC! (.ext sx!)) (m1.ext sx!) (bW (s4.sub.free hp) nu!)]⟩
end
def c3v(l:b!)(a:δ):∀m:Nat,((BU! m).map λk=>a+k).filterMap (λk=>l[k]?)=(l.drop a).take m:=λm=>by
 induction m with
 |zero=>rfl
 |succ m ih=>
  rw[List.range_succ,GO,List.filterMap_append,ih,List.take_succ,List.getElem?_drop];cases e:l[a+m]?<;>simp[e]
def c5t{i j n:δ}(h:i<=j):A0_ aj_ dd_ n=(BU! (min j n - min i n)).map λk=>min i n+k:=by
 rw[<-StrLaws.strSliceIndices_plain (a:=min i n) (b:=min j n) (len:=n) a! a!];delta Builtin.Str.strSliceIndices;let e:∀k:Nat,max (0:Int) (min (if(k:Int)<0 then(k:Int)+n else k) n)=max 0 (min (if l5_<0 then l5_+n else l5_) n):=λk=>by
  rw[a5_,a5_];omega
 simp![fJ_,IB];rw[e i,e j]
def a1w{z:Str}{i j:δ}(h:i<=j):Cg! aj_ dd_=#[((l6!).take gZ_).toArray]:=by
 let hl:D!=mF_:=by simp[Str.length]
 let e:((z.cps.toList.drop (min i D!)).take (min j D! - min i D!))=(l6!).take gZ_:=by
  rw[hl];generalize z.cps.toList=l;obtain c|c:=Nat.le_total i bt_
  .rw[NJ c];obtain d|d:=Nat.le_total j bt_
   .rw[NJ d]
   .rw[Nat.min_eq_right d,LB l6_,LB l6_]
  .rw[Nat.min_eq_right c,JO p!,JO c,List.take_nil,List.take_nil]
 delta Txt.slice;rw[c5t h];split
 .rename_i c;simp![JJ,Bool.true_and,GS,EX,IQ]at c;let h0:min i D!=0:=by omega
  rw[<-e,c,h0,MD,hl,List.take_length]
 .rw[<-e,<-c3v];congr 2;exact congrArg (λf=>List.filterMap f _) (funext λk=>?_);simp
def c2w{z:Str}{i:δ}:Cg! aj_ υ=#[(l6!).toArray]:=by
 let hl:D!=mF_:=by simp[Str.length]
 let e:Cg! aj_ υ=Cg! aj_ sA_:=by
  delta Txt.slice;let e2:A0_ aj_ υ D!=A0_ aj_ sA_ D!:=by
   show"#&";rw[a5_];omega
  rw[e2]
 rw[e,a1w (Nat.le_max_left _ _),LB (by rw[HV,<-hl];omega)]
section
variable{X:Cx}{own:List Nat}{a:Expr}{te:TE}{tl th:TO}{pos p2:Pos}{fa:Ac->Option D}{ol oh:Ac->Option (Option Int)}{lo hi:Option Expr}
def Yg:V->wY_ Int->wY_ Int->Hp->VK->Prop:=λx lo hi H Q=>∃z i,x=.str z/\((lo=ψ i/\hi=υ)\/(lo=υ/\hi=ψ i))/\D!<=sizeLine/\Q (.str (Txt.slice z lo hi)) H
def b3a(he:PE X a te)(hl:PO X lo tl)(hu:PO X hi th):PE X iI! (DN Yg te tl th):=by
 intro Z s U H Q I h;exact Hh! (cO cm_ λv s1 ⟨x,H1,I1,r1,q1⟩=>?_);exact wpAny_Slice (cO tp! λvl s2 ⟨l,H2,I2,pl,q2⟩=>cO tp_ λvu s3 ⟨u,H3,I3,pu,q3⟩=>?_);rw[evalPart_none];exact EV ?_;let#[z,i,rfl,hc,hz,q]:=q3;let#[t,rfl]:=r1;let kp:KeptH λh=>m2! H3 {s3 with heap:=h}:=λh ob p=>p.kept (t':=s3.toks) λb u q=>EU _ q;obtain⟨rfl,rfl⟩|⟨rfl,rfl⟩:=hc
 .cases pl;cases pu;let#[T,id,hT,ht,hg]:=PySem.SBH.sliceItem_sn (s:=s3) (prog:=X.prog) (w:=X.w) (A:=X.A) (E:=X.xe) (t:=t) (Q:=BS_ EP) kp I3 sD! hz;exact tail_any (ops:=sD_) ht hT hg mA_
 .cases pl;cases pu;let#[T,id,hT,ht,hg]:=PySem.SBH.sliceItem_ns (s:=s3) (prog:=X.prog) (w:=X.w) (A:=X.A) (E:=X.xe) (t:=t) (Q:=BS_ EP) kp I3 sD! hz;exact tail_any (ops:=sD_) ht hT hg mA_
def c2v{z:Str}{j:δ}:Cg! υ dd_=#[(z.cps.toList.take j).toArray]:=by
 let e:Cg! υ dd_=Cg! (ψ dY_) dd_:=by
  delta Txt.slice;let e2:A0_ υ dd_ D!=A0_ (ψ dY_) dd_ D!:=by
   show"#&"
  rw[e2]
 rw[e,a1w b6!];simp
def Qv(d:D)(l h:T_):ι D:=match d,l,h with
 |.str z,some i,none=>if 0<=i/\D!<=big then Ce! sE! else υ
 |.str z,none,some j=>if 0<=j/\D!<=big then Ce! sE_ else υ
 |_,_,_=>υ
def b2g{l h:T_}(e:Qv x l h=ψ d):∃z i,x=.str z/\((l=ψ i/\h=υ)\/(l=υ/\h=ψ i))/\D!<=big/\d=.str (Txt.slice z l h):=by
 cases x with
 |str z=>
  obtain _|i:=l<;>obtain _|j:=h<;>first|(cases e;done)|skip
  .let e:(C9! j sE_)=ψ d:=e;show"!6"
   .rename_i c;obtain⟨n,hn⟩:∃n:Nat,(n:Int)=j:=#[j.toNat,n!];subst hn;exact#[z,_,χ,.inr aa_,c.2,by rw[c2v];exact(GN e).symm]
   .cases e
  .let e:(C9! i sE!)=ψ d:=e;show"!6"
   .rename_i c;obtain⟨n,hn⟩:∃n:Nat,(n:Int)=i:=#[i.toNat,n!];subst hn;exact#[z,_,χ,.inl aa_,c.2,by rw[c2w];exact(GN e).symm]
   .cases e
 |_=>cases e
def Yq(f:g_)(ol oh:dr_):Ac->ι D:=λρ=>(ah_).bind λd=>(ol ρ).bind λl=>(oh ρ).bind λh=>Qv d l h
def b5b(ha:F_)(hl:ns_)(hh:nt!):vv_ iI! (Yq fa ol oh):=
 dA (b3a ha.ok hl hh) λU hb H Q ρ d er e k=>by
  show"!X";let r3:CS_ G3 x:=(eq_).mono s3.g;let s4:Ey! G3 H3:=s1.trans er!;let#[z,i,rfl,hc,hz,rfl]:=b2g e;cases bB r3;exact#[_,i,χ,hc,GB hz d!,k _ _ _ s4 Bc.str]
end
end DL
namespace L2
open PySem
def Fq.imp{K:ye!}{mg:o!}{CX:So}{k:δ}{sp UE:Sp}(F:GB! Fq k)
  (h:∀vs H Q E,UE vs H Q E->Bk_ H):kV! Fq CX k f fd ps UE:=
 #[λvs H Q E q=>F.len vs H Q E (h _ _ _ _ q),λA outer s H args us vs Q E hr he G hv hs=>F.run A outer s H args us vs Q E hr he G hv (h _ _ _ _ hs)]
end L2
namespace DL
open PySem PySem.Spec PyProof.Rows L2
def d0d{K:ye!}{neg:Bool}:Gu K (Vd P w K neg) (Sb neg M0):=λ{x y dx dy d hb H Q} sub rx ry e k=>a6q (M:=M0) sub #[λa c e=>by cases e] rx ry e k
structure EA(X:Cx)(own bx:b!)(st:Stmt)(f:WS):Prop where
 ok:∀M0 G0 F0,Qa X st kb!
structure Zi(X:Cx)(own bx:b!)(st:ai_)(f:WS):Prop where
 ok:∀M0 G0 F0,Hc X st kb!
section
variable{X:Cx}{own ay f8:List Nat}{st:Stmt}{rest:List Stmt}{q1 q2:WS}
def jY(O:kb_)(h2:sK_):D5_ Zi kc!:=F6! (PS.R (b8v O))
def d3i(O:Bu! EA st q1)(h2:sK_):D5_ Zi kc!:=F6! kc_
def d3j(h:Bu! Uc rest q1):Bu! Zi rest q1:=#[λM0 G0 F0=>Jy.R qi_]
open XS
def b9f{xC en xn xf:Str}{ap p4:Pos}{ie ix k:δ}{ps:l!}{g:Mr}{fs:WA}
  (ai:aw_)(hf:ax!)(fm:a3!)(hN:V!)(me:da!)(gk:hG_)(am:hH!)(mf:qg! en=Ad! ψ)(nw:qg! xn=Ad! ψ)
  (hg:aK_)(hm:hH_)(C:hI!)
  (qg:sr_)
  (i9:ss!)
  (F:l4!)(hr:T!)(mh:fv_)
  (ha:ss_)
  (ii:hI_:=by rfl)(al:aL!:=by decide)(ja:fw!:=by decide)
  (jr:z_:=by rfl)(ao:fw_:=by rfl)(hs:lP_:=by rfl):
  EA X [] [] lR! st!:=
 #[λM0 G0 F0=>Db_ c4x i9 F hr mh ha ii al ja jr ao hs]
def b9t{K:ye!}{mg:o!}{st:Stmt}{k:δ}{bx:b!}{q:WS}(hd:rT_)(S:Aq N [y] ak_)(nu:mg x=ψ dB_)
  (G:∀(base:Heap) (ag:uv!) (ah:wX!) (A:w5!) (outer:C_) (s:x1!) (H:Hp) (E:XK),Ba k eE!->Ei! Zi rU!):
  ∃fd:FuncData,rU_/\∀base:Heap,K.In base->A2_ base.Ns->Hj_ y:=
 c5k hd S nu λbase ag ah A outer s H E M0 G0 F0 hr=>(G base ag ah A outer s H E hr).ok M0 G0 F0
end
end DL
namespace WR
open PySem
section
variable{prog:xz!}{w:wY!}{A:w5!}{E:Value->Shared->Prop}{h:Heap}{g:Array GenState}{d:Drawn}{t:Nat}{os:OsState}
variable{nm q:Str}{C N:uv!}{bs bm jp:List Value}{hdct:Bool}{sn:List Str}{sub:List Value}{ab:Bool}{col:Option Bool}{dd:Option Addr}{k0 k1 k2 k3 k5:Option Value}{B Bn newId r9 pz w6:String}{w9:List Value}
def lP(Fn:lc_)(sd:ld!)(F:hv!)(T:l9_){mN:o!}{rest:k_}{oI:Obj}{Q:hO_}
  (hC:ma!)(hn:h.Ns N mN)(hi:sN!)(QE:sO_)(QG:sN_)
  (hq:∀h' e,EI_ h->C!<=e->Ac! sO! (F6_ (.done (.ret z!))) E fA!)(hrest:ma_:=by size_fits):
  wpAny b_ A (Builtin.«type.__call__» sQ!) Q E au!:=by
 repeat (first|with_reducible exact HN hC ?_|with_reducible exact wpAny_madeBy_exc hC ?_|wp_step)
 exact codeAny_call_builtin_code (KH _ Fn.quiet) (wpAny_check_new_subU Fn sd T hC ?_);exact codeAny_exc_new_subU Fn sd F T hC ?_ hrest;show wX_ _ _;let UF:=EU {cls:=.ref C,data:=k9! C!}
  (EU {cls:=.type "tuple",data:=.seq h1!} hC)
 let Y1:=EU {cls:=.ref C,data:=k9! C!}
  (EU {cls:=.type "tuple",data:=.seq h1!} QE)
 let Y2:((mc_).push {cls:=.ref C,data:=.fields [.ref C!,.none,.none,.none,.bool θ,.none].toArray}).Ns N mN:=
  let⟨o,es,ep,e,r⟩:=hn;#[o,es,ep,CB! e,r]
 let UG:((mc_).push
   {cls:=.ref C,data:=k9! C!}).get? (C!+1)=ψ
   {cls:=.ref C,data:=k9! C!}:=by heap_get
 let Y3:Cp! m_=true:=by simp
 let Y4:=T.keeps (h':=(mc_).push {cls:=.ref C,data:=k9! C!})
  λb o e=>CB! e
 delta isInstance
 repeat (first|with_reducible exact HN UG ?_|(with_reducible exact OS UF ?_;rw[Y3])|wp_step)
 show wX_ (typeLookup m_ _) _;exact wpAny_typeLookup_tail UF Y2 Y4 F.mroIs F.init.lookup ?_;rw[hi];exact GE d4!;delta bindSpecial;exact ES (wpAny_typeOf (T:="function") #[_,Y1,QG] ?_);rw[FE a_];exact EV (ES (GK (hq _ (C!+1) #[λb o G=>EU _ (EU _ G),LZ (KL _),C!,UG,LZ p!,?_] (KL _)) (λr s' hr=>?_) λ_ _ x=>x))
 .exact EU _ sT!
 .let#[rfl,hQ]:=hr
  wp_walk
  exact hQ
def call_exc_initU(Fn:lc_)(sd:ld!)(F:hv!)(T:l9_){mN:o!}{rest:k_}{oI:Obj}{Q:i!}
  (hC:ma!)(hn:h.Ns N mN)(hi:sN!)(QE:sO_)(QG:sN_)
  (hq:∀h' e,EI_ h->C!<=e->De_ wpAny sQ! sO! (F6_ z!) E fA!)(hrest:ma_:=by size_fits):
  wpAny b_ A (call m_ rest) Q E au!:=by
 let f1:=tc_lookup;let f2:=tc_bind m_;let hT:(au!:x1!).TypeIs m_ "type":=HF! hC;exact OH (MM ?_);show wX_ (callAny m_ _) _
 repeat (any_goals (first|assumption|with_reducible exact HN hC ?_|wp_step))
 exact I_;exact codeAny_call_builtin_at (KH _ d!) entry_typeCall (wpAny_check_type_call_sub hC (lP (hrest:=hrest) Fn sd F T hC hn hi QE QG λh' e hm hs=>?_));exact hq h' e hm hs
end
open PySem.Builtin PySem.Builtin.ObjectAttr
section
variable{prog:xz!}{w:wY!}{A:w5!}{E:Value->Shared->Prop}{h:Heap}{g:Array GenState}{d:Drawn}{t:Nat}{os:OsState}{K:ye!}
variable{nm q:Str}{C N B0 x:uv!}{bs bm:List Value}{sn:List Str}{sub:List Value}{ab:Bool}{col:Option Bool}{dd:Option Addr}{k0 k1 k2 k3 k5:Option Value}{newId:String}{name:Str}{v:wX!}{o:Obj}
def b9m(self:wX!):refuseLoop self "__setattr__" (.ref C::.ref B0::XS.Sm)=pure ():=by let hp:=MO.passes self;rw[refuseLoop_ref,refuseLoop_ref];exact hp
def b2e{Q:hO_}(X:bb_)(hC:me_)(ha:lV_)
  (hx:mf!)(hc:mf_)(QH:sV_)(xh:o.dict=υ)
  (hq:∀h' qh,Ab_ x=ψ {o with dict:=ψ C!}->h'.Ns1 h.objs.size sW!->sW_->Q ky_ sX!):
  wpAny b_ A (Builtin.«object.__setattr__» #[[d3_,.str name tk,v],[]]) Q E au!:=by
 let Y5:=b9m (C:=C) (B0:=B0) bf_;let L1:=W.looks_findIn (M:=cl!) X ha;delta Builtin.«object.__setattr__»
 repeat (first|rw[refuse_eq]|(rw[Y5])|(with_reducible exact HN hx ?_;rw[hc])|with_reducible exact wpAny_mroOf_exc hC ?_|(exact ES hf_)|wp_step)
 rw[xh,FC (BE! typeHasDict)];split
 .rename_i bj;cases bj
 split
 .rename_i c bj;exact Ac_ bj (QH c)
 .let UH:(sY!).get? x=ψ o:=EU _ hx;let UI:x≠C!:=FW (FK hx);exact Do_ wpAny_alloc';exact Cl! wpAny_update' UH;exact EV ?_;let ig:(sY_).get? C!
    =ψ {cls:=.type "dict",data:=.dict #[]}:=
   (BT_ Heap.get?_update_ne UI.symm).trans sT!
  let zz:(sY_).Ns h.objs.size l5!:=
   #[_,#[],_,ig,χ,λe he=>Ac_ he c_,bj_]
  show wX_ (storeInDict h.objs.size sb_ name v) _;delta storeInDict newKeyGuard;exact CX! (ES (wpAny_nsSet1 (Heap.Ns1.of_empty zz) λh' qo hs=>?_));let#[oD,VJ,VL,td,tj,ye]:=qo.count (Within.cons name v Within.nil);exact By! (by rw[FN,List.length_nil,HG];omega)
  wp_walk
  let rn:Ab_ x=ψ {cls:=o.cls,dict:=ψ C!,data:=o.data,slots:=o.slots}:=?_;exact hq h' _ rn qo λb ob Y6 G=>?_
  .exact(hs.2 b (FW (FK G))).trans ((Heap.get?_update_ne _ _ _ _ Y6).trans (EU _ G))
  .exact(hs.2 x UI).trans (GL _ UH ?_);let dc:=(Heap.get?_some_iff.mp hx).2;let#[oc,od,Y7,fz]:=o;cases Y7<;>first|rfl|exact dc
def a1a{M:Model}{Q:cN!}(hC:me_)(hx:mf!)(hc:mf_)(hq:Q () au!):
  wpAny M A (Ec_ "object.__setattr__" #[[d3_,QD,v],[]]) Q E au!:=by
 let SF:=MO;let ma:(Value.ref C::sV!).contains (.type "object")=true:=by simp[XS.Sm]
 let ha:=SF.args bf_ QD v;simp![checkBuiltinCall,SF.kind,SF.split];exact ES ?_
 .delta isInstance
  repeat (first|(with_reducible exact HN hx ?_;rw[hc])|(with_reducible exact OS hC ?_;rw[ma])|wp_step)
  exact hq
def set_exc{Q:cN!}(X:bb_)(hC:me_)(hs:lZ_)(ha:lV_)
  (hx:mf!)(hc:mf_)(QH:sV_)(oy:Fy_ o=τ)(xh:o.dict=υ)
  (hq:∀h' qh,Ab_ x=ψ {o with dict:=ψ C!}->h'.Ns1 h.objs.size sW!->sW_->Q () sX!):
  wpAny b_ A sk_ Q E au!:=by
 let I:W.InstAt h x o C none:=#[hx,hc,oy,by rw[xh];trivial];exact W.set_plain X I hs ?_;let SF:=MO;exact KO SF.slot.plain SF.entry (a1a (t:=t+1) hC hx hc (b2e (t:=t+1) X hC ha hx hc QH xh λh' qh a b c=>hq h' qh a b c))
end
section
variable{prog:xz!}{w:wY!}{A:w5!}{E:Value->Shared->Prop}{h:Heap}{g:Array GenState}{d:Drawn}{t:Nat}{os:OsState}
variable{nm q:Str}{C N:uv!}{bs bm jp:List Value}{hdct:Bool}{sn:List Str}{sub:List Value}{ab:Bool}{col:Option Bool}{dd:Option Addr}{k0 k1 k2 k3 k5:Option Value}{B newId r9 pz:String}
def call_init_exc(F:hv!)(T:l9_){rest:k_}{Q:i!}
  (hC:ma!)(he:h.get? e=ψ {cls:=.ref C,data:=k9! t0})
  (hq:∀h',Ab_ e=ψ {cls:=.ref C,data:=k9! C!}->(∀b o,b≠e->h.get? b=ψ o->h'.get? b=ψ o)->Q .none fA!)(hrest:ma_:=by size_fits):
  wpAny b_ A (call (B9_ pz) sP!) Q E au!:=by
 exact OH (KO F.init.plain F.initEntry (wpAny_check_init_subU F T hC he χ ?_));let Y8:=EU {cls:=.type "tuple",data:=.seq h1!} he
 wp_walk
 exact hq _ ?_ λb o G eb=>?_
 .rw[GL _ Y8 χ];rfl
 .rw[ok_];exact EU _ eb
end
end WR
namespace XS
open PySem PySem.Spec PyProof.Rows L2 DL
def Rg(C:uv!)(dx:ak!)(t0:uv!):Obj:={cls:=.ref C,dict:=dx,data:=k9! t0}
def Rj(e C:uv!)(dx:ak!)(t0:uv!):HO:=.ext λh=>h.get? e=ψ (Rg C dx t0)
def a5h{H:Hp}{h:Heap}{e C:uv!}{dx:ak!}(q:h.get? e=ψ (Rg C dx t0)):DR_ e (Rj e C dx t0):=#[q,#[_,q],λ_ _ a k=>k _ a]
structure Xw(K:ye!)(C B0 fI:uv!):Prop where
 mk::
 cls:∃N nm q bs sn sub ab col dd k0 k1 k2 k3 k5,AU_ C=ψ s3!/\W.nsOkIn K N=τ/\Cf! K=AY_ cs!
 sup:∃c0 d1 cd sl,AU_ B0=ψ yf_/\BA K cd.ns
 sa:AR! "__setattr__"=ψ lZ!
 ln:AR! "line"=ψ υ
 ga:Dy_ W.specialIn fC!=ψ s4!
 rd:∃mc,W.readsIn K B0 mc=τ/\ET! mc=ψ s5!
def Xw.tail{K:ye!}{C B0 fI:uv!}(n:Fe! K)(X:bb_):OwnTail h Sm (.ref B0::Sm):=by let#[c0,d1,cd,sl,l,m]:=n.sup;exact .own (X _ _ l) (CT_ X m.ok) (OZ X m.ok m.no) .base
section
variable{X:Cx}{Z:List (Addr×Obj)}{U:L2.St}{H:Hp}{s:x1!}{h':Heap}{e dx:uv!}
def un2{h:Heap}{fs:v!}{o1 o2:HO}(mu:Zh (H e))(hn:H dx=υ)(j9:C!<=dx)(k:ha!)(mq:ha_):Un fs [] H (upd (EJ! o1) dx o2) h h':=by
 let kg:Un fs [] H (EJ! o1) h h':=Un.write mu q_ k mq;exact#[kg.keep,kg.slot,λb u q n hx=>?_,kg.there,ym_,λb u xs q=>?_,yn!]
 .rw[aH (Ge_ (FK q) j9)];exact kg.free b u q n hx
 .rw[cg_];exact kg.tups b xs q
 .rw[cg_];exact kg.frzs b u xs q
 .rw[cg_];exact kg.tbls b ps q
def d4q{h:Heap}{C:uv!}{φ:e3!}{o2:HO}(ok:aI_)(he:s6!)(hn:H dx=υ)(hed:e≠dx)(k:ha!)(q:Ab_ e=ψ fD!)
  (new:FP! s7! dx o2):FP_ s7!:=λb u r=>by
 by_cases G:b=dx
 .subst G;rw[aV]at r;cases r;exact new
 .rw[aH G]at r;by_cases g8:b=e
  .subst g8;rw[aV]at r;cases r;exact a5h q
  .rw[aH g8]at r;let sw:∀c y,H c=ψ (.own y)->c≠e:=λc y r z=>by subst z;rw[he]at r;cases r
   let xz:∀c y,H c=AW! y->c≠e:=λc y r z=>by subst z;rw[he]at r;cases r
   exact(ok b u r).stay (Dd! z) ov_ λc xs z=>?_
   .obtain rfl|hc:=hc
    .exact g8
    .exact sw c _ hc
   .rw[FZ_ hn,aH (sw c _ z)];exact z
   .rw[FZ_ hn,aH (xz c _ z)];exact z
end
section
variable{X:Cx}{C B0 fI:uv!}{i j:Nat}{xs xl xC:Str}{np be p1 p2 q1 q2 q3 q4 aj pos:Pos}{s1 s2:Str}{j1 j2:Nat}
def c4d(hj:mj!)(ny:h7!)(hd:h7_:=by decide)(bj:h8!:=by decide):
  PE X (HB_ s9! q4) λU H Q=>∃k:Int,U[j]?=ψ fE!/\eb_<1920/\(h8_).length<=big/\∀y,Q (.str y) H:=by
 rintro Z s U H Q I ⟨k,e1,e2,e3,hq⟩;let h4:=GB e3 iU!;show"#<";exact JP (Ca_ (eL hj ny hd bj Z _ U H ta_ bA_ l1_));rintro u s' ⟨x,H',I',r,rfl,rfl⟩;show"#,";exact C2! e2 mm!;exact JP (KI mm!);exact joinParts_nil ?_ tb_;exact#[gU!,H',((p7!).tok _).tok _,P!,hq _]
def d2z{pl:Sem Bool}(n:mp!)(hg:aK_)(hm:sy_)(hi:sz!)(se:mq!)(hj:mj!)(ny:h7!)(al:aL!:=by decide)
  (sf:mq_:=by decide)(io:mr!:=by decide)(gf:h7_:=by decide)(gg:h8!:=by decide)
  (he:eval fF! X.env=(do
   let ov <-eval h9! X.env
   standAt fx_
   let(f,first) <-holding [ov] td!
   callWith aj f first td_ bl_):=by rfl):
  PE X fF! λU H Q=>∃(e t0:uv!) (k:Int),U[i]?=ψ dP!/\U[j]?=ψ fE!/\eb_<1920/\(h8_).length<=big/\H e=ψ dg_/\∀t1,Hz! (EJ! (Rj e C υ t1)):=by
 rintro Z s U H Q I ⟨e,t0,k,e1,e2,e3,e4,e5,hq⟩;let#[mc,rd,fc]:=n.rd;exact W.methodCall_KW (pl:=pl) d9_ he;exact W.method_cls I.kIn n.ga (W.cls_value I.kIn rd fc χ ?_);show"#-";exact KB χ (IA ?_);exact cO (cE (eL hi se sf io) (cE (c4d (s1:=s1) (s2:=s2) hj ny gf gg) eB χ) χ aj Z _ U H (λvs H1=>∃y,vs=[ec_,.str y]/\H1=H) bA_ #[_,e1,k,e2,e3,e4,λy=>#[y,χ,χ]]) ?_;rintro us s2 ⟨vs,H2,I2,r,y,rfl,rfl⟩;let#[u1,u2,rfl,r1,r2]:=qJ r;cases (show u1=Value.ref e from r1);show"!z";let he:CZ_ e=ψ tf!:=(tf_).1;let#[hh,g,d,t,os]:=s2;exact WR.call_init_exc HH (n.tail I2.kIn) tg! he (λh' a b=>?_) th_;exact#[.non,_,I2.write (x:=e) (e:=e) (t':=t) th! q_ b #[_,a] (a5h a),χ,hq _]
def d2u(n:mp!)(hi:sz!)(se:mq!)(hj:mj!)(ny:h7!)
  (sf:mq_:=by decide)(io:mr!:=by decide)(gf:h7_:=by decide)(gg:h8!:=by decide):
  PS X (Ck! (Hr_ p1 be) (.Name xl p2)) λD U H=>∃(e t0:uv!) (k:Int),U[i]?=ψ dP!/\U[j]?=ψ fE!/\H e=ψ dg_/\∀dx,H dx=υ->D.nx U (upd (EJ! (Rj e C mh! t0)) dx dQ_):=by
 rintro Z s U H D I ⟨e,t0,k,e1,e2,e5,hq⟩;exact DS! (cO (eL hj ny gf gg Z s U H ta_ I #[_,e2,χ,χ]) ?_);rintro u s1 ⟨x,H1,I1,r1,rfl,rfl⟩;exact cO (eL hi se sf io Z s1 U H1 (λv H'=>v=.ref e/\H'=H1) I1 l1_) ?_;rintro ov s2 ⟨x,H2,I2,r2,rfl,rfl⟩;cases (show ov=Value.ref e from r2);let#[N,nm,q,bs,sn,sub,ab,col,dd,k0,k1,k2,k3,k5,hC,_]:=n.cls;let he:CZ_ e=ψ tf!:=(tf_).1;let j9:H2 t_=none:=I2.hok.fresh p!;let am:e≠t_:=λz=>by rw[z,j9]at e5;cases e5
 let#[hh,g,d,t,os]:=s2;exact WR.set_exc I2.kIn tg! n.sa n.ln he χ (λc z=>by cases z) χ χ λh' qh a b c=>?_;let new:∀H3:Hp,AX! Dv H3 h' hh.objs.size dQ_:=λH3=>#[_,b,λf=>?_]
 .exact#[U,_,I2.un (t':=qh) (un2 th! j9 p! c #[_,a]) (d4q I2.hok e5 j9 am c a (new _)),hq _ j9]
 by_cases hf:f="line"
 .subst hf;simp![List.lookup,JJ,IB];exact r1
 .let G:(f==(qZ! "line"))=false:=by simpa using hf
  simp![List.lookup,G,FC hf];exact d6!
end
def Zg(H:Hp)(e:uv!):Hp:=λb=>if b=e then υ else H b
def mS{H:Hp}(h:b≠e):Zg H e b=H b:=FC h
def a4s{H:Hp}:Zg H e e=none:=FE χ
def c8k{fs ex:v!}{H H2:Hp}(u:B0! H2 h2)(hH:H e=υ):B0! (Zg H2 e) h2 where
 keep:=u.keep
 slot:=u.slot
 free:=λb o q n hx=>by
  delta Zg;split
  .rfl
  .exact FQ_ o q hx
 there:=u.there
 tups:=λb xs q=>by rw[mu_];exact u.tups b xs q
 frzs:=λb o xs q=>by rw[mu_];exact u.frzs b o xs q
 tbls:=λb ps q=>by rw[mu_];exact u.tbls b ps q
def c6e{H:Hp}{φ:e3!}(ok:aI_)(he:s6!):Hw P w (Zg H e) h:=λb u r=>by
 by_cases G:b=e
 .subst G;rw[a4s]at r;cases r
 .rw[mS G]at r;exact Gh_ ok λc xs z=>?_
  .rw[tk!];exact z
  .rw[tk!];exact z
def c4o{K:ye!}{h:Heap}{mg:o!}(X:bb_)(hb:h.Ns N mg)(e:W.nsIn K N n=ψ an!):mg n=ψ v:=by
 let#[o,es,ep,ho,hd,_,hf]:=hb;delta W.nsIn at e;show"!6"
 .rename_i c d de n' sl q;let:=X _ _ q;rw[ho]at this;cases this;cases hd;show"!6"
  .rename_i en he;cases e;rw[<-hf];delta nsFind findBy;rw[<-Array.find?_toList,he];rfl
  .split at e<;>cases e
 .cases e
def DO(C:uv!)(n1 n2:Str):Sp:=λvs H Q _=>∃(e t0:uv!) (k:Int),vs=[ec_,b7!]/\eb_<1920/\(n1++Str.ofString l3_++n2).length<=big/\H e=ψ dg_/\
 ∀dx t1,H dx=υ->Hz! mv!
def c7n{H:Hp}{a b:HO}:upd (EJ! a) e b=upd H e b:=by
 funext c;by_cases h:c=e
 .subst h;rw[aV,aV]
 .rw[aH h,aH h,aH h]
def b4o{X:Cx}{B0:uv!}{xs xl xC:Str}{be pos:Pos}{s1 s2:Str}{j1 j2:δ}{pl:Sem Bool}(n:mp!)(hg:aK_)(hm:sy_)(hi:X.N[0]?=ψ xs)(se:mq!)(hj:X.N[1]?=ψ xl)(ny:h7!)
  (al:aL!:=by decide)(sf:mq_:=by decide)(io:mr!:=by decide)(gf:h7_:=by decide)(gg:h8!:=by decide)
  (he:eval fF! X.env=(do
   let ov <-eval h9! X.env
   standAt fx_
   let(f,first) <-holding [ov] td!
   callWith aj f first td_ bl_):=by rfl)
  (ii:Hg_ fF! υ=pure false:=by rfl):
  Jy X [.Expr fF! pos,.Assign (Hr_ p3 apos2) (.Name xl p4) xg]
   λD U H=>∃(e t0:uv!) (k:Int),U[0]?=ψ dP!/\U[1]?=ψ fE!/\eb_<1920/\(h8_).length<=big/\H e=ψ dg_/\∀dx t1,H dx=υ->D.nx U mv!:=by
 rintro Z s U H D I ⟨e,t0,k,e1,e2,e3,e4,e5,hq⟩;exact nE (sF (d2z n hg hm hi se hj ny al sf io gf gg he) ii) (dL (d2u n hi se hj ny sf io gf gg)) Z s U H D I #[e,t0,k,e1,e2,e3,e4,e5,λt1=>?_];exact#[e,t1,k,e1,e2,aV,λdx hd=>?_];let am:dx≠e:=λz=>by rw[z,aV]at hd;cases hd
 rw[c7n];exact hq dx t1 (by rw[aH am]at hd;exact hd)
structure Ip(k:Nat)(A:w5!):Prop where
 dp:A.depth+3*k+5<recursionLimit
 un:A.units+16*k+200<cLine
 gd:A.guards=ψ []
def Ba.h{k:δ}(r:Ba k A):Ip k A:=#[r.dp,r.un,r.gd]
def Ip.make{k:δ}{A:w5!}(r:Ip Q! A)(C:uv!)(us:k_)(kw:d7!):Ip k fy!:=
 #[by let:=r.dp;rw[tS];omega,by let:=r.un;rw[tR];omega,by first|exact r.gd|(simpa[Around.under,Code.guards,Code.isGuard,guardIds,pushGuards]using r.gd)]
structure EB(P:xz!)(w:wY!)(K:ye!)(mg:o!)(base:Heap)(k:Nat)(f:uv!)(fd:FuncData)(ps:l!)(sp:Sp):Prop where
 len:∀vs H Q E,Bk_ H->at!=K!
 run:∀(A:w5!) (outer:C_) (s:x1!) (H:Hp) (args:Args) (us:k_) (vs:l_) (Q:VK) (E:XK),Ip k A->G0_ A->B2! args bB!->Bp vs us->Bk_ H->
  codeAny B! A l9! (CR Mt outer P w H s Q E) s
def AV(P:xz!)(w:wY!)(K:ye!)(mg:o!)(base:Heap)(N:l!)(qual:Str)(scope:Scope)(f:uv!)(cd:wX!)(A:w5!)(outer:C_)(s:x1!)(H:Hp)(E:XK):Cx:={Fd Mt P w K mg base N qual scope f cd A outer s H E with calm:=θ}
def d1h{K:ye!}{mg:o!}{k:δ}{params:Arguments}{body:ai_}{kV:wX!}{an od:ak!}
  {fz:bX_}{ps:l!}{sp:Sp}(lk:mi!)(bj:fD_)(S:h5_)
  (len:h6_)
  (li:∀(A:w5!) (outer:C_) (s:x1!) (H:Hp) (vs:l_) (Q:VK) (E:XK),Bk_ H->
   ∃t,Dm_ mw_ t/\t {nx:=λ_ H'=>Hz! H',rt:=Q} bC! H):
  EB P w K mg base k f h6! ps sp:=by
 exact mi_;let hl:=BT_ len gi;let KX:Br! K.In:=e0.mod.kin.keeps λb o e=>(eb!).1;let bo:mk!:=e0.mod.nolimit.keeps λb o e=>(eb!).1;let cn:∀y∈ps.zip us,scope.names.lookup y.1=Ad! ψ\/mj_:=λ⟨n,v⟩ hy=>by
  obtain q|q:=Ev! n
  .exact .inl q
  .exact mk_
 exact codeAny_call_function (by let:=hr.dp;omega) lM_ χ S.co S.gen χ ml_ ml!;exact MU S.kind cn λenv he s1 x=>?_;subst he;exact tb!;let#[t,ht,hq]:=CX_ gi;let I0:CY! (Fd Mt P w K mg base N qual scope f ah {A with handled:=υ} outer s H E):=qA S χ #[e0.frames,e0.mod,e0.bs,e0.bsz,e0.funs,e0.frf,e0.hok,e0.bare] hl r x;let ok:=I0.ok;let I:CY! mw_:=cV (Y:=kV! AV N qual scope f ah A outer s H E) I0
  #[ok.mod,ok.kind,ok.glob,ok.blt,fj_,ok.inj,ok.has,ok.cab,p8!,s3_,ok.stk,ok.exf,ok.bs,ok.bsz,ok.noex,ok.exfs,ok.funs,ok.frf] χ (CN_ I0.pin hp) χ λ_ _ z=>z
 exact GK mm_ mn! λe s' hs=>hs;let ak:∀{ac:L2.St} {H':Hp} {v:V} {u:wX!},Br_ mw_ s'->Cf v u->Q v H'->B1_ P:=
  λ{ac H' v u} J rv q=>mn_
 cases fl with
 |ret u=>
  show"!a"
 |next=>
  show"!F"
 |brk=>
  show"!5"
 |cont=>
  show"!5"
def Xg(P:xz!)(w:wY!)(K:ye!)(mg:o!)(base:Heap)(k:δ)(x:Str)(C B0:uv!)(n1 n2:Str):Prop:=
 mg x=ψ m_/\∃fI fd ps,Fe! K/\kV! EB k fI fd ps (DO C n1 n2)/\AV_ K/\W.isFn K cs!=τ/\Bt_ K m_=τ
def Zs(C:uv!)(s1 s2:Str):TS:=λD U H=>∃(e t0:uv!) (k:Int),U[0]?=ψ dP!/\U[1]?=ψ fE!/\eb_<1920/\(h8_).length<=big/\H e=ψ dg_/\∀dx t1,H dx=υ->D.nx U mv!
def c9z{K:ye!}{mg:o!}{k:δ}{x qual:Str}{st:Stmt}{B0:uv!}{n1 n2 a b:Str}(m:kH!)(n:Fe! K)(F:CN! K fI)(B:Dq K fd ac_ [])(S:Aq N ac_ ak_)
  (fn:tn!)(kp:tm_)
  (G:∀{ah:wX!} {A:w5!} {outer:C_} {s:x1!} {H:Hp} {E:XK},Jy (AV P w K mg base N qual ak_ fI ah A outer s H E) aA_ (Zs C n1 n2)):kV! Xg k x C B0 n1 n2:=by
 show"!0";exact#[m,fI,_,ac_,n,d1h lk bj S (λvs H Q E ⟨e,t0,k,h,_⟩=>by rw[h];rfl) λA outer s H vs Q E h=>?_,B,fn,kp];let#[e,t0,k,rfl,O,h2,h3,h4]:=h;exact#[_,G,e,t0,k,χ,χ,O,h2,h3,h4]
def d3y{K:ye!}{h:Heap}(X:bb_)(e:sf_):∃o,h.get? f=ψ o/\o.cls=.type "function":=by let e':W.typeIn K ad!=ψ sm!:=GS.mp e;delta W.typeIn at e';let#[o,l,c]:=EZ.mp e';exact#[o,X _ _ l,c]
def c6u{H:Hp}{a b:HO}(hn:H e=υ)(am:e≠dx):Zg (upd (EJ! a) dx b) e=upd H dx b:=by
 funext c;by_cases h:c=e
 .subst h;rw[a4s,aH am,hn]
 .rw[mS h];by_cases h':c=dx
  .subst h';rw[aV,aV]
  .rw[aH h',aH h',aH h]
def c3h{X:Cx}{Z:j_}{U:L2.St}{H:Hp}{s:x1!}{x:Str}{B0:uv!}{n1 n2:Str}{k:δ}{v:Int}{Q:i!}(dq:ic_)(hr:fG!)(I:c!)(O:cu!<1920)
  (h2:(dh!).length<=big)
  (h:∀e dx t1 s',H dx=υ->e≠dx->qY_ e=υ->H e=υ->Br! In s'.heap->Cl_ e=ψ fD!->GI_ to!->Q z! s'):
  wpAny d_ X.A (call m_ [fH!]) Q X.xe s:=by
 let#[m,fI,fd,ps,n,F,B,fn,kp]:=dq;let#[N,nm,q,bs,sn,sub,ab,col,dd,k0,k1,k2,k3,k5,hC,c1,c2]:=n.cls;let#[hh,g,d,t,os]:=s;let X0:X.K.In hh:=I.kIn;let hb:hh.Ns N (hh.nsMap N):=CT_ X0 c1;let hi:=c4o X0 hb c2;let#[oI,lI,cI]:=d3y X0 fn;exact WR.call_exc_initU HH a_ HH (n.tail X0) (X0 _ _ hC) hb hi lI cI (λh' e m hs=>?_) th_;let qf:H e=none:=Fx_ I.hok;let#[t0,QI,_]:=m.there;let I2:m2! (upd H e dg_) fA!:=I.laid (t':=t) m.keeps hs (a5h QI);let gi:DO C n1 n2 [ec_,.int v] (EJ! dg_) (λu H2=>u=.non/\∃dx t1,H dx=υ/\e≠dx/\H2=upd mh_ dx fG_) gE!:=⟨e,t0,v,χ,O,h2,aV,λdx t1 hd=>by
  let am:e≠dx:=λz=>by rw[<-z,aV]at hd;cases hd
  exact#[χ,dx,t1,by rw[aH (GI am)]at hd;exact hd,am,by rw[c7n]]⟩
 let hl:(tq!++mZ_).length=K!:=(F.len _ _ _ _ gi:2=_);let G:=B fA! mA! I2.kIn hl;let rv:Bp [V.ref e,.int v] tq!:=Hy_ (Cs_ #[tk,χ]);exact OH (OB (F.run _ X.stack _ _ #[mA!,[]] mA! _ _ gE! (hr.make C [fH!] []) (I2.env0.make C [fH!] []) G rv gi) λr s' i8=>?_);cases r with
 |error e'=>exact ye_ i8
 |ok fl=>
  cases fl with
  |ret u=>
   let#[y,H2,ju,bare,un,hok,ry,rfl,dx,t1,hd,am,rfl]:=i8;obtain rfl:u=bu_:=ry;let kg:=(Un.laid (fs:=frs X.stack) (ex:=[]) (o:=Rj e C υ t0) m.keeps hs qf).trans un;let U':=c8k kg qf;let wy:=c6e (e:=e) (φ:=λh=>h.get? e=ψ fD!) hok (by rw[aH am,aV];rfl);rw[c6u qf am]at U' wy;let pe:Cl_ e=ψ fD!:=(hok e s6_ (by rw[aH am,aV])).1;let#[h3,g3,d3,t3,Y9]:=s';obtain rfl:Y9=os:=ju;exact#[χ,h e dx t1 _ hd am m.new qf (Lo.of λb o y=>kg.there b o y c_).in pe (I.call (ch:=[]) U' wy bare fz_)]
  |next=>exact ye_ i8
  |brk=>exact ye_ i8
  |cont=>exact ye_ i8
end XS
namespace WR
open PySem
section
variable{prog:xz!}{w:wY!}{A:w5!}{E:Value->Shared->Prop}{env:Env}
variable{nm q:Str}{C N:uv!}{bs bm:List Value}{hdct:Bool}{sn:List Str}{sub:List Value}{ab:Bool}{col:Option Bool}{dd:Option Addr}{k0 k1 k2 k3 k5:Option Value}{newId:String}
def raise_plain{s:x1!}{x:ci_}{Q:ax_}(f7:hr!)(hh:bk_)
  (h:Ac! x (λv σ=>∃e t gc,v=.ref e/\Bs_ C=ψ cl_/\
   σ.heap.get? e=ψ {cls:=.ref C,dict:=gc,data:=k9! t}/\E z! σ) E s):
  wpAny b_ A (raiseStmt env kf_ υ) Q E s:=by
 let ma:Cp! bv!=true:=by rw[OE,f7,MB]
 delta raiseStmt;exact ES k8_;let#[e,t,gc,rfl,hC,he,hE]:=h₁;show"#-";show"!w";exact ES (isT hC he ?_);rw[aQ!];exact ES (yK hC he ?_);exact Cl! a0i he;exact Hw! hE
end
end WR
namespace XS
open PySem PySem.Spec PyProof.Rows L2 DL
section
variable{X:Cx}{Z:List (Addr×Obj)}{U:L2.St}{H:Hp}{s:x1!}{x:Str}{C B0:uv!}{n1 n2:Str}{k:Nat}{ex:Expr}{te:TE}{np aj pos:Pos}
def c0v{Q:i!}(dq:ic_)(hr:fG!)(hg:x_)(he:jy_)(al:s_)(ai:jz!)(I:c!)
  {PP:VK}(h:te U H PP)(hP:∀y H1,PP y H1->∃v:Int,y=.int v/\cu!<1920/\(dh!).length<=big/\
   ∀e dx t1 s1 s',m2! H1 s1->H1 dx=υ->e≠dx->s1.heap.get? e=υ->H1 e=υ->Fa! In s1.heap->Cl_ e=ψ fD!->GI_ mC_->Q z! s'):
  wpAny d_ X.A (AV! yi!) Q X.xe s:=by
 let#[hm,fI,fd,ps,n,O']:=id dq;show"!z";exact wpAny_Call_ofName d9_;delta callWith;rw[ai];exact Do_ GE;show wX_ yj_ _;exact Ct! y;let#[v,rfl,a1,a2,hp]:=hP y H1 q1;let#[tk,rfl]:=r1;exact JM (ES e8!);exact Hv_ (I1.kIn _ _ hC);exact ES (c3h dq hr I1 a1 a2 λe dx t1 s' b1 b2 b3 b4 b5 b6 b7=>ES (GE (NK K_)));exact hp e dx t1 s1 s' I1 b1 b2 b3 b4 b5 b6 b7
def b2w{R:bJ!}(hX:b8!)(dq:ic_)(hr:fG!)(hh:cM!)(hg:x_)(he:jy_)(al:s_:=by decide)(ai:jz!:=by rfl):
  PS X ot! λ_ U H=>te U H λy H1=>∃v:Int,y=.int v/\cu!<1920/\(dh!).length<=big/\∀dx,H1 dx=υ->R tr_ mC_:=by
 intro Z s U H D I h;let#[hm,fI,fd,ps,n,O']:=id dq;let#[N,nm,q,bs,sn,sub,ab,col,dd,k0,k1,k2,k3,k5,hC,_]:=n.cls;rw[arm_exec_Raise];exact ES (HX (WR.raise_plain (C:=C) (nm:=nm) (q:=q) (N:=N) (bs:=bs) (bm:=.ref B0::Sm) (hdct:=τ) (sn:=sn) (sub:=sub) (ab:=ab) (col:=col) (dd:=dd) (k0:=k0) (k1:=k1) (k2:=k2) (k3:=k3) (k5:=k5) (newId:=ts!) (BE! Sm) hh
  (ES (GK (c0v dq hr hg he al ai I (te:=te) (Q:=λv σ=>∃e t gc,v=.ref e/\Bs_ C=ψ s3!/\
   σ.heap.get? e=ψ {cls:=.ref C,dict:=gc,data:=k9! t}/\X.xe z! σ) h λy H1 ⟨v,hv,a1,a2,hR⟩=>#[v,hv,a1,a2,λe dx t1 s1 s' I1 b1 b2 b3 b4 b5 b6 b7=>?_]) le! λ_ _ x=>x))))
 exact#[e,t1,hS!,χ,b7.kIn _ _ hC,b6,?_];exact hX Z U _ s' s1.heap e tr_ [e] b7 (DU! I1) b5 (.new (En_ b3 b6)) (λb G=>by
  simp at G;subst G;rw[aH b2];exact b4) (hR dx b1)
end
end XS
namespace DL
open PySem PySem.Spec PyProof.Rows L2 XS
section
variable{X:Cx}{own ay:List Nat}{e:Expr}{pos:Pos}{f:WE}{M0:Mh}{G0 F0:Hp}{E:EK}
def Jt(C:uv!)(n1 n2:Str)(E:EK)(f:WE):WS:=λρ M _=>f ρ M λd M1=>∃v:Int,d=.int v/\cu!<1920/\(dh!).length<=big/\E C an! M1
def wQ{B0:uv!}{x:Str}{k:δ}{n1 n2:Str}(hX:bg_)(dq:ic_)(hr:fG!)(hh:cM!)(hg:x_)(he:a1_)
  (al:s_:=by decide)(ai:qk_:=by rfl):
  PS X ql_ (Bz! ay (Jt C n1 n2 E f)):=λZ s U H D I ⟨hb,ρ,M,R,sr,e',k1,k2⟩=>
 b2w hX dq hr hh hg he.ok al ai Z s U H D I ⟨hb,ρ,M,_,sr.st,e',λd M' v G' H' r x m q=>by
  let#[n,rfl,a1,a2,r]:=r;cases aW q;exact#[n,χ,a1,a2,λdx hd=>#[C,ψ n,M',_,tt!,r,(pk!).trans (.ext tt_) m,m.ext tt_]]⟩
end
end DL
namespace WR
open PySem
def Ch(h:Heap)(e a:uv!):Prop:=∃oh vs,h.get? a=ψ oh/\oh.data=Bw_ vs/\(vs[2]?=ψ .none\/∃a2 o2 jm,vs[2]?=ψ (.ref a2)/\a2≠a/\a2≠e/\h.get? a2=ψ o2/\o2.data=.fields jm/\jm[2]?=ψ .none)
def Ch.keep{h h':Heap}(c:Ch h e a)(QJ:a≠e)(k:∀b,b≠e->Ab_ b=h.get? b):Ch h' e a:=by
 let#[oh,vs,ha,hd,c]:=c;exact#[oh,vs,(k a QJ).trans ha,hd,?_];obtain c|⟨a2,o2,jm,c1,c2,c3,c4,c5⟩:=c
 .exact .inl c
 .exact .inr #[a2,o2,jm,c1,c2,c3,(k a2 c3).trans c4,c5]
section
variable{prog:xz!}{w:wY!}{A:w5!}{E:Value->Shared->Prop}{env:Env}
variable{nm q:Str}{C N:uv!}{bs bm:List Value}{hdct:Bool}{sn:List Str}{sub:List Value}{ab:Bool}{col:Option Bool}{dd:Option Addr}{k0 k1 k2 k3 k5:Option Value}{newId:String}{gc:Option Addr}
def b5x{s:x1!}{Q:i!}(c:Br! Ch e a)(h:Q .none s):Gy_ (HM! tu_):=by
 let#[oh,vs,ha,hd,c]:=c;obtain c|⟨a2,o2,jm,c1,c2,c3,c4,c5,c6⟩:=c
 .exact unchain ha hd c h
 exact qO_;show Gr_ tu_;delta Builtin.«proto.unchain»;show wX_ qP! s;exact ES (GM ha hd c1 ?_);rw[Cn_ a2,Hb! e c3,Hb! a c2];show"#-";rw[FC (show¬(θ=τ)by decide)];exact ES K_;exact EV #[KH _ d!,MM ?_];show Gr_ #[[ec_,.ref a2,H!,jJ!],[]];delta Builtin.«proto.unchain»;show wX_ (field (.ref a2) 2>>=_) s;exact ES (GM c4 c5 c6 ?_);rw[cv_];exact λ_ _ _=>h
def b2s{s:x1!}{oe:Obj}{es:Z!}{Q:ax_}(hh:fe!)(am:a≠e)(c:Br! Ch e a)
  (he:gs_)(C8:qQ!)(hi:2<es.size)(h:qQ_):qS! b_ qR_:=by
 show"#2";exact Fk_ (b5x c ?_);show"!R"
def raiseFromC{x c:ci_}{Q:ax_}(f7:hr!)(hh:fe!)(hc:qV_)
  (h:Ac! x (λv σ=>∃e t gc,v=.ref e/\Bs_ C=ψ cl_/\
   σ.heap.get? e=ψ {cls:=.ref C,dict:=gc,data:=k9! t}/\a≠e/\Ch σ.heap e a/\
   ∀h',Ab_ e=ψ {cls:=.ref C,dict:=gc,data:=AW_ t}->DX! σ.heap->E z! {σ with heap:=h'}) E s):
  wpAny b_ A qW! Q E s:=by
 let ma:Cp! bv!=true:=by rw[OE,f7,MB]
 delta raiseStmt;exact ES k8_;let#[e,t,gc,rfl,hC,he,am,ch,hE]:=h₁;let vb:C≠e:=λz=>by subst z;rw[hC]at he;cases he
 show"#-";exact ES qW_;show"!w";show"!S";show"!V";exact b2s hh am (ch.keep am λb G=>(b2.2 b G).trans (b1.2 b G)) e2 χ c_ (hE _ ?_ ?_)
 .exact GL _ e2 χ
 .exact qZ_
end
end WR
namespace XS
open PySem PySem.Spec PyProof.Rows PySem.W L2 DL
section
variable{X:Cx}{Z:List (Addr×Obj)}{D:Ends}{xD xC xk:Str}{cp np kp aj p9 dm hp:Pos}{kk:Nat}{D0 C B0 L:uv!}{ik k:Nat}{n1 n2:Str}{R:Tk->Hp->Prop}
nonrec def qN(X:Cx)(D0 C:uv!)(n1 n2:Str)(ik:δ)(R:bJ!)(cls:Tk)(U:L2.St)(H:Hp):Prop:=∃(c:uv!) (v:Int),cls.1=.ref c/\CE! dh_=ψ τ/\AU H cls.2.2/\U[ik]?=ψ mG!/\cu!<1920/\(dh!).length<=big/\
 ∀dx c',H dx=υ->R (.ref C,ψ dx,c') to!
def c5o{fr:v!}{h':Heap}(sb:DX! h)(he:Ab_ e=ψ oe)(hf:e∉fr):Kp [e] fr h h':=
 ⟨λb o G _ q=>(sb.2 b hD!).trans q,λb o G q=>#[o.slots,(sb.2 b (λz=>hf (z▸G))).trans q],λb o q=>by
  by_cases G:b=e
  .subst G;exact#[_,he]
  .exact#[o,(lo!).trans q],JT sb.1.symm⟩
def c5f(hX:b8!)(dq:qS_ Xg X.mg X.base k xC C B0 n1 n2)(hr:fG!)(ai:aw_)(hf:ax!)(fm:a3!)(vj:mH!)(vk:mG_)
  (hg:ee_)(hm:ed_)(Cc:ee!)(vm:aK_)(al:ef!)(pw:aL!)(gf:mH_)(gg:mI!)
  (ka:mI_)
  {fq:j_}{ac:L2.St}{H':Hp}{s':x1!}{cls:Tk}{bad:v!}
  (I:AX_ mJ! fq)
  (Nn:Nw mJ! fq n)(i:oY!)(x:lH_)(G:lI!)
  (q:qN X D0 C n1 n2 ik R cls ac H'):
  xT X Z D tD_ u! s':=by
 let#[c,v,b9,i9,Y',hv,v1,v2,hR]:=q;let dc:dO_=ψ Y!:=by rw[<-ai];exact fz!
 let ce:∀b∈frA Y!,∃o,n.get? b=ψ o:=by rw[<-ai];exact Nn.frm
 let hl:BV_ X.base Y!:=by rw[<-ai];exact I.stack
 exact G6! ce λO T fl a0 a1 a2 a3=>?_;let k8:H' T=none:=by
  obtain z|z:=a0
  .exact G T z
  .exact jC_
 let qe:n.get? T=none:=let⟨_,_,_,_,_,_,_,_,_,z,_⟩:=a1;z;rw[<-ai]at a2;let J1:=Fs! a2 λb h=>gv!;let tk:∀b∈[T],H' b=υ/\n.get? b=none:=λb h=>by simp at h;subst h;exact hy!
 exact fB (s:=jD!) (fo:=υ) a3 ce a1 λh2 b1 b2 b3 b4=>?_;rw[<-ai]at b2;let J2:=Du! J1 b2;exact ML (LQ ?_) lI_;let I2:Br_ dV! {s' with heap:=h2}:=cV (ok:=lJ!) J2 χ lJ_ χ λ_ _ z=>z;exact dX (X:=fm_) I2 hg hm ?_ al;let#[l9,PL,jm,PM,PQ,e2,c2,d2,r2]:=id b1;exact CR_ Cc;dsimp only;exact NT ?_;exact fB (s:=lK!) (fo:=υ) b3 ce b1 λh3 vg kb c3 c4=>?_;rw[<-ai]at kb;let J3:=Du! J2 kb;let#[_,oe,PY,YH,YI,e3,PZ,d3,r3]:=vg;let l8:H' a=none:=G _ x.mem;let kr:a≠X.env.locals:=λz=>by subst z;let#[o,w]:=Nn.loc;rw[show Bq_ n.get?=ψ o from w]at l9;cases l9
 let ZA:a∉frA Y!:=λz=>by let#[o,w]:=ce a z;rw[l9]at w;cases w
 let md:a∉X.fs:=λz=>ZA (by
  show li_;rw[IS,hf];exact EW _ z)
 let I3:Br_ lM! {s' with heap:=h3}:=cV (ok:=lL_) J3 χ (λp hp=>by
  rw[FY]at hp;obtain hp|hp:=FL.mp hp
  .exact J3.pin p cn_
  .simp at hp;subst hp;exact rZ_) χ λ_ _ z=>z
 let#[hm',fI,fd,ps,nC,O']:=id dq;let#[N,nm,q,bs,sn,sub,ab,col,dd,k0,k1,k2,k3,k5,hC,_]:=nC.cls;let yw:PY[2]?=ψ cls.2.2:=by
  let#[_,_,jl,jc,h']:=PZ;rw[d3]at jc;cases jc;exact h'
 exact NO ?_;rw[arm_exec_Raise];exact ES (HX (WR.raiseFromC (C:=C) (nm:=nm) (q:=q) (N:=N) (bs:=bs) (bm:=.ref B0::Sm) (hdct:=τ) (sn:=sn) (sub:=sub) (ab:=ab) (col:=col) (dd:=dd) (k0:=k0) (k1:=k1) (k2:=k2) (k3:=k3) (k5:=k5) (newId:=ts!) (BE! Sm) χ q4_
  (ES (GK (c0v (X:=hK_) (PP:=λy H1=>y=.int v/\H1=H') dq #[hr.dp,hr.un,hr.gd] vm (eL (X:=hK_) vj vk gf gg) pw ka I3 (FJ_ hv) λy H1 hy=>#[v,hy.1,v1,v2,λe dx t1 s1 s5 I1 b1 b2 b3 b4 b5 b6 b7=>?_]) le! λ_ _ z=>z.elim))))
 obtain⟨-,rfl⟩:=hy;let pa:=(b7.pin bz! c_).1;let UJ:=(I1.pin bz! c_).1;let QJ:a≠e:=λz=>by subst z;rw[b3]at UJ;cases UJ
 exact#[e,t1,hS!,χ,b7.kIn _ _ hC,b6,QJ,#[oe,PY,pa,d3,?_],λh6 g6 sb=>?_]
 .rw[yw];obtain z|⟨si,z,z2⟩:=Y'
  .exact .inl (by rw[z])
  .let io:si≠dx:=λy=>by subst y;rw[b1]at z2;cases z2
   let#[#[o2,ZB,y1,y2,y3],_]:=b7.hok si (Xj si) (by rw[aH io];exact z2);let#[#[o9,vs9,y4,_],_]:=I1.hok si (Xj si) z2;exact .inr #[si,o2,ZB,by rw[z],(λy=>by subst y;rw[l8]at z2;cases z2),(λy=>by subst y;rw[b3]at y4;cases y4),y1,y2,y3]
 let K1:Cy! ac H1 s1:=cV (ok:=b8g I1.ok fm) I1 χ (CN_ I1.pin hz!) χ λ_ _ z=>z;let K5:Cy! ac mC_ s5:=cV (ok:=b8g b7.ok fm) b7 χ (CN_ b7.pin hz!) χ λ_ _ z=>z;let N1:=DU! K1;let UK:∀b∈frA Y!,∃o,s1.heap.get? b=ψ o:=by rw[<-ai];exact N1.frm
 let pj:e∉Dl_ frA:=λz=>by let#[o,w]:=N1.frm e z;rw[b3]at w;cases w
 let QK:upd H1 dx fG_ e=none:=by rw[aH b2];exact b4
 let K6:=dF K5 N1 (c5o sb g6 pj) λb h=>by simp at h;subst h;exact#[QK,b3]
 let i6:In s1.heap h6:=b5.on (JT sb.1.symm);let x6:XN s1.heap h6 e tF_:=En_ b3 g6;let ZC:h6.FunFrames X.base Y!:=by rw[<-ai];exact K6.stack
 delta notedBy;exact nM (s:={s5 with heap:=h6}) dc ZC hf UK i6 x6 λh7 T6 t0 UL t2 t3=>?_;rw[<-ai]at t2;let J6:=dF K6 N1 t2 λb h=>by simp at h;subst h;exact#[QK,b3]
 let vh:upd H1 dx fG_ T6=none:=K6.hok.fresh t0;let#[_,X8,X9,YA,YB,f6,YC,PR,PU,xb,r6]:=id UL;delta cameBackBy;exact ES rh_;rw[aQ!];exact fB (s:={s5 with heap:=h7}) (fo:=hd!) t3 UK UL λh8 u1 u2 u3 u4=>?_;rw[<-ai]at u2;let J7:=dF J6 N1 u2 λb h=>by simp at h;subst h;exact#[vh,xb]
 exact hX Z ac _ _ s1.heap e tF_ [e,T6] J7 N1 (i6.on ri_) (.on u1) (λb G=>by
  simp at G;obtain rfl|rfl:=G
  .exact QK
  .exact vh) (hR dx u! b1)
end
section
variable{X:Cx}{xD xC xk xi xf:Str}{cp np kp aj p9 dm hp tp p1 p2 p3 p4:Pos}{kk:Nat}{e:Expr}{es:List Expr}{D0 C B0 L f:uv!}{i ik k k':Nat}{n1 n2:Str}{R:Tk->Hp->Prop}{fd:FuncData}{ps:List Str}{sp:Sp}{t:TA}
def c3p(hX:b8!)(dq:tG!)(QL:Ip (k'+1) X.A)(ai:aw_)(hf:ax!)(fm:a3!)(hN:V!)(vj:mH!)(vk:mG_)
  (hg:ee_)(hm:ed_)(Cc:ee!)(vm:aK_)
  (F:r3!)(hr:T!)(mh:fv_)(P':zx!)(QA:fB!)(G:f5!)(hi:tI_)(xj:qg! xi=Ad! ψ)
  (ha:r3_)
  (ka:mI_:=by rfl)(al:ef!:=by decide)(pw:aL!:=by decide)(gf:mH_:=by decide)(gg:mI!:=by decide)(ja:fw!:=by decide)
  (jr:z_:=by rfl)(ao:fw_:=by rfl)(hs:tH_:=by rfl):
  Qa X tJ!
   λD U H=>t U H λvs H1=>sp vs H1 (λv H2=>D.nx c3! H2) λc0 d H'=>qN X D0 C n1 n2 ik R (c0,d) U H':=by
 show"!>";let I0:E8_ mJ! U H s:=cV (ok:=c4i I.ok) I χ lw! χ λ_ _ z=>z;exact He_ (WR.Assign_R (Bh! tE_) hs)
 .let#[a,T,cls,H',rfl,os,bare,un,hok,QB,QC,hT,ff,q]:=z;let#[hh,g,d,t',ou]:=s';obtain rfl:ou=s1.os:=os;let J':=J.call (h':=hh) (g':=g) (d':=d) (t':=t') (ch:=[]) un hok bare fz_;exact c5f hX dq QL ai hf fm vj vk hg hm Cc vm al pw gf gg ka J' (DU! J) (ow!).in (.on QB) dR! q;simp at G;obtain rfl|rfl:=G
  .exact QC
  .exact hT
 .let#[y,H1,I1,r1,q1]:=z;exact Ae! (jI (X:=oC!) I1 hN hi (.inl xj) r1 (λs2 I2=>?_) (.inr xj));exact Gx! #[_,H1,back I2,q1]
end
end XS
namespace DL
open PySem PySem.Spec PyProof.Rows L2 XS
section
variable{X:Cx}{own:List Nat}{e:Expr}{es:List Expr}{pos:Pos}{f:WE}{fs:WA}{M0:Mh}{G0 F0:Hp}{E:EK}
def Th(n i ik:δ)(kh:fL!)(C:uv!)(n1 n2:Str)(E:EK)(g:Mr)(fs:WA):WS:=λρ M R=>fs ρ M λds M1=>e_=n/\g ds M1 (λd M2=>R gW_ M2) λc ln M2=>kh c=τ/\ln=υ/\∃v:Int,ρ[ik]?=ψ mG!/\cu!<1920/\(dh!).length<=big/\E C an! M2
def c4w{xD xC xk xi xf:Str}{cp np kp aj p9 dm hp tp p1 p2 p3 p4:Pos}{kk:δ}{D0 C B0 L:uv!}{i ik k k':δ}{n1 n2:Str}{ps:l!}{g:Mr}{kh:fL!}
  (hX:bg_)(dq:tG!)(QL:Ip (k'+1) X.A)(ai:aw_)(hf:ax!)(fm:a3!)(hN:V!)(vj:mH!)(vk:mG_)
  (hg:ee_)(hm:ed_)(Cc:ee!)(vm:aK_)(QM:tJ_)
  (F:l4!)(hr:T!)(mh:fv_)(hi:tI_)(xj:qg! xi=Ad! ψ)
  (ha:∀pn g,MA lP! own J_ fs)(dr:al!:=by decide)(QN:ik∉own:=by decide)
  (ka:mI_:=by rfl)(al:ef!:=by decide)(pw:aL!:=by decide)(gf:mH_:=by decide)(gg:mI!:=by decide)(ja:fw!:=by decide)
  (jr:z_:=by rfl)(ao:fw_:=by rfl)(hs:tH_:=by rfl):
  Qa X tJ! (TX X M0 G0 F0 own own (Th ps.length i ik kh C n1 n2 E g fs)):=by
 show"#.";exact c3p (t:=qS_ BP own fs) hX dq QL ai hf fm hN vj vk hg hm Cc vm O hr mh h3 h4 h2 hi xj st_ ka al pw gf gg ja jr ao hs Z s U H D I hj_;exact Bb! ZD
 .exact k1 _ M2 G2 _ H2 r2 ((sv!).set dr q2)
 .let#[hc,rfl,v,hv,v1,v2,hE]:=h6;let#[u,f1,f2]:=sr.st.or.at_ ik _ hv QN;cases aW f2;let x9:=DN_ kU_ h7 m1;exact#[c,v,h5,QM c hc,ZD χ,f1,v1,v2,λdx c' hd=>#[C,ψ v,M',_,tt!,hE,x9.trans (.ext tK_) h8,h8.ext tK_]]
end
end DL
namespace XS
open PySem PySem.Spec PyProof.Rows PySem.W L2 DL
section
variable{X:Cx}{Z:List (Addr×Obj)}{D:Ends}{xD:Str}{cp dm hp:Pos}{rx:Expr}{b:Bool}{D0 L:uv!}
def c5g(ai:aw_)(hf:ax!)(fm:a3!)(vn:mL!)
  (hg:ee_)(hm:ed_)(Cc:ee!)(al:ef!)
  {fq:j_}{ac:L2.St}{H':Hp}{s':x1!}{cls:Tk}{bad:v!}
  (I:AX_ ii! fq)
  (Nn:Nw ii! fq n)(i:oY!)(x:lH_)(G:lI!)
  (q:∃c,cls.1=.ref c/\CE! dh_=ψ τ/\D.rt V_ H'):
  xT X Z D tL_ u! s':=by
 let#[c,b9,i9,hD]:=q;let dc:dO_=ψ Y!:=by rw[<-ai];exact fz!
 let ce:∀b∈frA Y!,∃o,n.get? b=ψ o:=by rw[<-ai];exact Nn.frm
 let hl:BV_ X.base Y!:=by rw[<-ai];exact I.stack
 exact G6! ce λO T fl a0 a1 a2 a3=>?_;let k8:H' T=none:=by
  obtain z|z:=a0
  .exact G T z
  .exact jC_
 let qe:n.get? T=none:=let⟨_,_,_,_,_,_,_,_,_,z,_⟩:=a1;z;rw[<-ai]at a2;let J1:=Fs! a2 λb h=>gv!;let tk:∀b∈[T],H' b=υ/\n.get? b=none:=λb h=>by simp at h;subst h;exact hy!
 exact fB (s:=jD!) (fo:=υ) a3 ce a1 λh2 b1 b2 b3 b4=>?_;rw[<-ai]at b2;let J2:=Du! J1 b2;exact ML (LQ ?_) lI_;let I2:Br_ dV! {s' with heap:=h2}:=cV (ok:=lJ!) J2 χ lJ_ χ λ_ _ z=>z;exact dX (X:=fm_) I2 hg hm ?_ al;let#[l9,PL,jm,PM,PQ,e2,c2,d2,r2]:=id b1;exact CR_ Cc;dsimp only;exact NT ?_;exact fB (s:=lK!) (fo:=υ) b3 ce b1 λh3 vg kb c3 c4=>?_;rw[<-ai]at kb;let J3:=Du! J2 kb;let I3:Br_ dV! {s' with heap:=h3}:=cV (ok:=lL_) J3 χ (CN_ J3.pin (FT _ fm!)) χ λ_ _ z=>z;let P:=dL (a6i (X:=fm_) (pos:=dm) (vn a ab!));exact GK (P [] _ ac H' D I3 hD) r2_ λ_ _ z=>z.elim;let back:∀{bg H1},E8_ dV! bg H1 s5->Cy! bg H1 s5:=λJ=>cV (ok:=b8g J.ok fm) J χ fq_ χ λ_ _ z=>z;cases f with
 |next=>let#[bg,H1,J,q]:=z;exact bU!
 |brk=>let#[bg,H1,J,q]:=z;exact bU!
 |cont=>let#[bg,H1,J,q]:=z;exact bU!
 |ret u=>let#[v,bg,H1,J,r,q]:=z;exact lx!
variable{xf:Str}{tp p2 p3 p4:Pos}{e:Expr}{es:List Expr}{f:uv!}{k:Nat}{fd:FuncData}{ps:List Str}{sp:Sp}{t:TA}
end
end XS
namespace DL
open PySem PySem.Spec PyProof.Rows L2 XS
section
variable{X:Cx}{own:List Nat}{e:Expr}{es:List Expr}{pos:Pos}{fs:WA}{M0:Mh}{G0 F0:Hp}
def c4y{f:WE}(h:hk!)(hs:hv_:=by rfl):Qa X fl! qo!:=λZ s U H D I ⟨hb,ρ,M,R,sr,e',k1,k2⟩=>
 WR.Expr_R (fF (h Z s U H _ I qo_) λv s1 ⟨x,H1,I1,r1,q1⟩=>q5!) I.quiet hs
end
section
variable{X:Cx}{own:List Nat}{o a:Expr}{fo fa:Ac->Option D}{be aj:Pos}
def Wo:V->μ V->Hp->VK->Prop:=λx vs H Q=>∃(z y:Str),x=.str z/\vs=[.str y]/\Q tN! H
def b3w:BC X "str.startswith" Wo:=by intro Z s U H x xs v us Q I rx r h;let#[z,y,rfl,rfl,q]:=h;let#[t,rfl]:=rx;let#[u,rfl,t',rfl]:=iC r;exact SC.startswith nR!
def Qs:D->D->ι D
 |.str z,.str y=>ψ tN!
 |_,_=>υ
def Re(fo fa:g_):Ac->ι D:=λρ=>(i3_).bind λx=>(b3_).bind λy=>Qs x y
def b4y(ho:i4!)(ha:F_)
  (f7:GO! "startswith"=AV! o:=by rfl)
  (jh:(DF_ i4_&&Cd! bl_
   &&decide i5!)=true:=by rfl)
  (ji:di_:=by rfl) (hs:gb_:=by rfl) (eu:ge_:=by rfl):
  DE X own (AZ_ "startswith" [a]) (Re fo fa):=
 dA (wG LA PySem.F.slot_str_startswith PySem.F.type_str_startswith b3w ho.ok nU_ f7 jh ji hs eu) λU hb H Q ρ d er e k=>by
  show"!2";delta Qs at e;show"!6"
  .show"!U";exact#[_,_,χ,χ,k _ _ _ bG_ Bc.bl]
  .cases e
end
end DL
namespace WR
open PySem
section
variable{prog:xz!}{w:wY!}{M:Model}{A:w5!}{E:Value->Shared->Prop}{s:x1!}{env:Env}
def d3n{c:Code}{R:bc_}(hq:c.quiet=τ)(I:fP_)
  (g9:∀n s,I n s->GL! (λak s'=>match ak with|.done f=>R dA! s'|.again c'=>(c'=c/\∃m,m<n/\I m s')\/(c'.quiet=τ/\codeR M A c' R s')))
  (n:δ)(h:I n s):Bn! M c:=by
 induction n using Nat.strongRecOn generalizing s with
 |ind n ih=>
  exact gW yy_;cases ak with
  |done f=>exact hf
  |again c'=>
   obtain⟨rfl,m,hm,hI⟩|hf:=hf
   .exact yz!
   .exact hf
def c3i{c:Code}{h:eK!}{Q:ax_}(hc:Ft! (A.mark h) c tO! s)(zr:yw_:=by intro x;cases x):rs_ (runOwn c env h):=by delta runOwn;exact onRaise (mono (d2q (E:=λe s'=>cameBackBy M A env E e s') hc zr) Aw_ λe s' z=>of_any z)
theorem For_R{body j7:ai_}{Q:ax_}
  (h:Cc! (GN! iter) (λx σ=>Cc! (pyIter x) (λit ae=>
   codeR M A tO_ tO! ae) E σ) E s)
  (hs:∀x,DP_ iter env=pure x:=by intro _;rfl):rs_ (GF! (.For gu iter body j7 pos)):=by
 rw[exec_For];exact H2! (bind (HU! (of_any h) (λx σ h₁=>?_)));exact bind ?_;rw[hs x];exact pure' (H2! (Gz_ (HU! (BH_ h₁) (λit ae dh=>c3i dh))))
def forLoop_R{R:bc_}{body j7:ai_}(I:fP_)
  (g9:∀n s,I n s->Ac! mV_ (λr σ=>match r with
   |none=>Ac! oK! (λf bp=>R dA! bp) fM! σ
   |some v=>Ac! mW! (λ_ mw=>
     wpAny b_ A mW_ (λ_ ae=>BM_ gG! (λf bp=>match f with
      |.next|.cont=>∃m,m<n/\I m bp
      |.brk=>R fQ! bp
      |.ret v=>R oz! bp) fM! ae) fM! mw) fM! σ) fM! s)
  (n:δ) (h:I n s):Bn! b_ tO_:=by
 exact d3n rfl I mX! n h;show wpR _ A ((forTurn gu it body j7 env).onRaise (λx=>do noteFrame x env;theTreesLotGoes x)) _ _ s;exact b8l ?_;simp![forTurn];exact bind (gF (bind (onRaise (mono (of_any mX_) mY! λ_ _ h'=>gF h'))));cases r with
 |none=>exact pure' (.inr #[χ,code_of_any (codeAny_block h₁)])
 |some v=>
  exact bind (mono (BH_ h₁) mY_ λ_ _ h'=>h');exact bind (mono (BH_ t9) (λ_ ae dh=>bind (En! dh (λf bp gb=>?_))) λ_ _ h'=>h');cases f with
  |next=>exact pure' (.inl #[χ,gb])
  |cont=>exact pure' (.inl mZ!)
  |brk=>exact pure' gb
  |ret v=>exact pure' gb
def passOwn{α:Type}{t:bc!}{Q:aP!}(hE:PassesOwn M A env E)(h:jD_):Bf! t Q (HH! M (DK_ M)) s:=mono h (λ_ _ x=>x) hE
end
end WR
namespace L2
open PySem PySem.Spec PyProof.Rows
section
variable{X:Cx}{tg:Expr}
def c3s{body:ai_}{wi:TI}{g:TG}{tb:TS}(hp:d0_)(hc:af_)(hi:fp!)(hg:dV_)(G:Hc X body tb)
  (hs:aM_:=by intro _;rfl):Qa X fp_ (Zu wi g tb):=by
 intro Z s U H D I h;exact WR.For_R rA_ hs;let#[it,fp,tn,J,H2,e,I2,T,cz,f2,W,#[m0,w0],g9]:=h2;subst e;let iw:∀{H':Hp},bT_->∀b∈fp,DD_ H':=λhn b G=>rB_;exact WR.forLoop_R rC! ?_ m0 rD!;rintro n s3 ⟨i,iy,H3,I3,om,s9,w3⟩;obtain⟨stop,qn⟩|⟨go,N,hN,step⟩:=g9 i n iy H3 w3
 .exact IW hp (cO rE! λr s4 ⟨hr,I4⟩=>?_);subst hr;exact HQ rF_
 .exact IW hp (cO rE_ λr s4 ⟨u,hr,h4⟩=>?_);subst hr;exact IW hp (cO h4 λ_ s5 ⟨x,H5,I5,r5,y5,iz,oo⟩=>?_);let oq:=DE_ jB_;exact IW hp (cO rF! λ_ s6 ⟨im,H6,I6,q6⟩=>?_);exact WR.passOwn hp (fF rG! λf s7 q7=>?_);let again:∀{fh:St} {H7:Hp},Inv X rH! fh H7 s7->N fh H7->∃m,m<n/\∃i ac H',Cy! ac H' s7/\tn i s7.heap/\bT_/\W i m ac H':=λ{fh H7} I7 n7=>by
   show"!W"
  cases f with
  |next=>let#[fh,H7,I7,n7]:=q7;exact again I7 n7
  |cont=>let#[fh,H7,I7,n7]:=q7;exact again I7 n7
  |brk=>let#[fh,H7,I7,q7]:=q7;exact rK_
  |ret v=>let#[x7,fh,H7,I7,r7,q7]:=q7;exact rJ_
end
end L2
namespace DL
open PySem PySem.Spec PyProof.Rows L2
open XS
section
variable{X:Cx}{own ay f8:List Nat}{st:Stmt}{rest body b1 b2:List Stmt}{e c tg:Expr}{es:List Expr}{pos p2:Pos}{f:WE}{fs:WA}{ft:WT}{fi:WI}{q1 q2:WS}{M0:Mh}{G0 F0:Hp}{E:EK}
def Ih.lv{M M1:Mh}{G1 H1:Hp}{U:St}{ρ:Ac}(hX:bg_)(sr:qS_ Ih own M0 G0 F0 M1 G1 H1 U ρ):Lv X (XR X.prog X.w X.K M1 G1 cY! E):=
 λp1 p2 p3 p4 p5 p6 p7 p8 p9 dm qc vi QO ⟨c,ln,M',G',O,h2,h3,h4⟩=>hX p1 p2 p3 p4 p5 p6 p7 p8 p9 dm qc vi QO #[c,ln,M',G',O,h2,sr.unx h3,h4]
def a7b{g:TG}{bnd:ac!}(hX:bg_)(hp:d0_)(hc:af_)(bq:eV_)(hg:dV_)(ig:pp!)
  (G:∀M1 G1 F1,Lv X tQ_->Dm_ X tR!)
  (hs:aM_:=by intro _;rfl):PS X fp_ tR_:=λZ s U H D I ⟨hb,ρ,M,R,sr,e,k1,k2⟩=>by
 let ij:Dm_ X tS!:=λZ s U H D I ⟨A,B,C,l,h⟩=>F7! G;exact BP! a6j D;let jo:=Fd! x1;exact⟨λn m ac H'=>n<=e_/\m=e_ - n/\∃G' ρ' M',Gr! Ih/\CD_ R,
  pq!,?_⟩
 rintro n m ac H' ⟨hn,rfl,G',ρ',M',dz,e3⟩;let lw:ck M':=by
  cases hd:Ez_ n with
  |nil=>rw[hd]at e3;exact e3.1
  |cons _ _=>rw[hd]at e3;exact e3.1
 show"!9"
 .right;let hd:ds[n]?=DG_ n:=by simp[ax]
  show"!L"
 .left;let fg:n=e_:=by omega
  show"#("
def d0j{g:TG}{bnd:ac!}(hX:bg_)(hp:d0_)(hc:af_)(bq:eV_)(hg:dV_)(ig:pp!)
  (G:∀M1 G1 F1,Lv X tQ_->Hc X body tR!)
  (hs:aM_:=by intro _;rfl):Qa X fp_ tR_:=λZ s U H D I ⟨hb,ρ,M,R,sr,e,k1,k2⟩=>by
 let ij:Hc X body tS!:=λZ s U H D I ⟨A,B,C,l,h⟩=>F7! G;exact BP! c3s D;let jo:=Fd! x1;exact⟨λn m ac H'=>n<=e_/\m=e_ - n/\∃G' ρ' M',Gr! Ih/\CD_ R,
  pq!,?_⟩
 rintro n m ac H' ⟨hn,rfl,G',ρ',M',dz,e3⟩;let lw:ck M':=by
  cases hd:Ez_ n with
  |nil=>rw[hd]at e3;exact e3.1
  |cons _ _=>rw[hd]at e3;exact e3.1
 show"!9"
 .right;let hd:ds[n]?=DG_ n:=by simp[ax]
  show"!L"
 .left;let fg:n=e_:=by omega
  show"#("
def sI{K:ye!}{mg:o!}{outer:C_}{H:Hp}{E:XK}:
  PassesOwn B! (mM_).A (mM_).env (mM_).xe:=PassesOwn.leaving
end
def a4o{fp:v!}{n:δ}{P:δ->Value->ν}{St:fn!}(D:Draws prog w A it fp n P St)(k:δ):
  Draws prog w A it fp (n+k) (λi v=>∃j,i=j+k/\P j v) (λi h=>∃j,i=j+k/\St j h) where
 live:=λi h ⟨j,_,st⟩=>D.live j h st
 frame:=λi h h' ⟨j,e,st⟩ hk=>#[j,e,D.frame j h h' st hk]
 item:=λi s Q E hi ⟨j,e,st⟩ hQ=>by
  subst e;exact D.item j s Q E a! st λx h' tk hp af sb=>hQ x h' tk #[j,χ,hp] #[j+1,n!,af] sb
 done:=λs Q E ⟨j,e,st⟩ hE=>by
  let:j=n:=by omega
  subst this;exact D.done s Q E st hE
def DC(K:ye!)(l:uv!)(k:δ):It:=
 #[λi H=>∃xs x,DD! l/\xs[i]?=ψ x,λi H v H'=>∃T x,v=.ref T/\H T=υ/\(∀xs,Er K H l xs->xs[i]?=ψ x)/\H'=Ev_ T [.int fM_,x],λi H=>∃xs,DD! l/\h!=i]
def a5l{K:ye!}{n1 k:δ}(xm:e≠it)(UM:e≠l)(QP:l≠it):
  Py P w K gp! (DC K l k) [e,it] e (λi h=>(∃old,IsEnum h e it fM_ old)/\h.IsListIter it l i) where
 mem:=by simp
 obj:=λi h st b G=>by
  simp![FD,FU,MV]at G;let#[#[old,s1],s2]:=st;obtain rfl|rfl:=G
  .exact#[_,s1,uC!]
  .let#[o,e,c,d]:=s2;exact hB_
 keep:=λi h h' st hk=>by
  let#[#[old,s1],s2]:=st;exact#[#[old,hk e c_ _ s1],s2.at λo q=>hk it c_ o q]
 item:=by
  intro X hP hw hK hc i Z s U H E I hf st hg;subst hP hw hK;let hh:=I.ok.hd hc;let#[xs,x,hq,hx]:=hg;let#[its,rv,p,hz]:=Cj_ hq;let#[u,hu,ru]:=rv.get hx;let ax:i<fL_:=(FO.mp hu).1;let D:=Draws.list (prog:=X.prog) (w:=X.w) (A:=X.A.in1) hh it l QP aH_;let W:=WalksT.enumerateD (A:=X.A) (a4o D k) e xm tV_ c_;exact W.item (i+k) s _ _ AC_ (Fz_ i) λT oz h' tk hP hT ZE hm kp=>#[_,χ,W.go lr n1 tp (i+k) T _ _ _ hm λh2 cz UN=>?_];let#[t,y,#[j,hj,hy],rfl]:=hP;obtain rfl:i=j:=by omega
  obtain rfl:u=y:=by
   let:its[i]?=ψ y:=by simpa using hy
   rw[hu]at this;cases this;rfl
  let I1:m2! H {s with heap:=h2,toks:=tk}:=sC I hf λc o hc eo=>UN c o hc (kp c o hc eo);let UO:T∉[e,it]:=W.apart (i+k) T _ hm;let eT:h2.IsTuple T [.int fM_ t,u].toArray:=by
   let#[o,eo,r]:=ZE;exact#[o,UN T o UO eo,r]
  let I2:=c8n (us:=[.int fM_ t,u]) (xs:=[.int fM_,x]) I I1 hT eT (.cons fN! tQ!) (DY_ 2);let#[#[old,z1],j',w4,z2,_]:=cz;obtain rfl:j'=i+1:=by omega
  exact#[.ref T,_,I2,χ,#[T,x,χ,I.hok.fresh hT,rp!,χ],#[#[old,?_],z2],c8_]
  .rw[show i+1+k=i+k+1 by omega];exact z1
  .rw[aH (λz:b=T=>UO (B6! z G))];exact(hf b G).1
 done:=by
  intro X hP hw hK hc i Z s U H E I hf st hg;subst hP hw hK;let hh:=I.ok.hd hc;let#[xs,hq,rfl]:=hg;let#[its,rv,p,hz]:=Cj_ hq;let hl:=c7!;let D:=Draws.list (prog:=X.prog) (w:=X.w) (A:=X.A.in1) hh it l QP aH_;let W:=WalksT.enumerateD (A:=X.A) (a4o D k) e xm tV_ c_;let af:(∃old,IsEnum s.heap e it ((ed!+k:δ):Int) old)/\∃j,ed!+k=j+k/\s.heap.IsListIter it l j/\DH_ l aH_:=by
   rw[show its.toArray.size=xs.length by simp[hl]];exact Fz_ _
  exact W.done s _ _ af λh' tk kp=>#[χ,sC I hf kp]
 self:=λA i s Q E st h=>by
  let#[#[old,s1],_]:=st;exact wpAny_pyIter_enum s1 h
end DL
namespace WR
open PySem
open AutoSeq1 (wpAny_loadPart')
def b3v(l:uv!)(items:Z!)(n:δ)(dct:ak!)(sl:bX_)(k:Int)(t:Tok)(hk:t0!):
  Meets (Builtin.«enumerate.__new__» mO!) (λ_ R s=>qY_ l=ψ {cls:=.type "list",dict:=dct,data:=FO_ items,slots:=sl}/\
   R (Ea! dj!)
    {s with heap:=(dj!).push {cls:=.type "enumerate",data:=w5_ k}}):=
 .of_wp λprog w A R s h=>by
  show"!y";let#[hl,h]:=h;let i9:=sub_enumerate;let hL:Heap.IsList (Shared.heap #[hp,g,d,tk,os]) l items:=#[_,hl,χ,n,χ]
  wp_walk using LI hl
  exact wpAny_stack_any λst=>EV ?_;split
  .rename_i c _ _ _ _ _;cases (c==Value.type "enumerate")
   .wp_walk using LI hl,LP hL
    exact jg!
   .wp_walk using LI hl,LP hL
    exact jg!
  .wp_walk using LI hl,LP hL
   exact jg!
def a1p(l:uv!)(k:Int)(t:Tok):checkTypeCall "enumerate" #[[eh_],ei!]=pure ():=by delta checkTypeCall;kernel_rfl
def a3g(l:uv!)(k:Int)(t:Tok):Ec_ "enumerate.__new__" mO!=pure ():=by delta checkBuiltinCall;kernel_rfl
def a4i(obj:wX!)(l:uv!)(k:Int)(t:Tok):argsOk "object.__init__" #[[obj,eh_],ei!]:=by delta argsOk;kernel_rfl
def a7n(self:wX!)(l:uv!)(k:Int)(t:Tok):Meets (Builtin.«object.__init__» #[[self,eh_],ei!]) (λ_ R s=>s.TypeIs self "enumerate"/\R (.ok (.ret .none)) s):=by
 exact Meets.of_wp λprog w A R s hs=>?_;let#[hT,hq]:=hs;let hl:=PH.init.lookup;let hm:=PH.made;let am:(ψ "enumerate.__new__" != ψ "object.__new__")=true:=by decide
 repeat (any_goals (first|assumption|wp_step))
 exact D9! hq
def call_enumK{E:i!}{s:x1!}{items:Z!}{k:Int}{Q:i!}(hL:DH_ l items)(hk:t0!)
  (h:∀h',IsEnum h' ag_ s.heap.objs.size k .none->h'.IsListIter s.heap.objs.size l 0->(BN! s.heap.get?)->Q go! {s with heap:=h'}):
  wpAny b_ A (call t1! [eh_] ei!) Q E s:=by
 let#[#[c,dct,dt,sl],hl,hc,n,hd]:=hL
 replace hc:c=.type "list":=hc
 replace hd:dt=FO_ items:=hd
 subst hc hd;let ft:=PH;let#[c,tl,UA]:=ft.mro;let hmade:=ft.made;let i9:=ft.sub;let O:=ft.notType;let h2:=ft.canCreate;let hct:=a1p l k t;exact OH (MM ?_);show wX_ (callAny t1! _) _;exact EV #[KH _ d!,codeAny_builtin F.entry_type_call ?_];rw[Around.under_plain (weight_type_call_type _ _ _) (units_type_call_type _ _ _)]
 repeat (any_goals (first|assumption|wp_step))
 obtain⟨R0,UP⟩:∃R0:Result->Shared->Prop,R0=λr σ=>r=.ok (.ret (.ref (s.heap.push {cls:=.type "list_iterator",data:=.fields [.ref l,.int 0 0].toArray}).objs.size))/\σ={s with heap:=(dj!).push {cls:=.type "enumerate",data:=w5_ k}}:=P!
 let hN:G8! "enumerate.__new__" mO! R0 s:=
  KO ft.plain F.entry_enumerate_new (wpAny_of_eq (a3g l k t) (b3v l items n dct sl k t hk prog w A.in1 R0 s #[hl,by rw[UP];exact aa_]))
 exact OB hN λr σ hr=>?_;rw[UP]at hr;let#[rfl,rfl]:=hr;let hz:(dj!).objs.size=h_+1:=IN ..;rw[hz];let he:IsEnum ((dj!).push
   {cls:=.type "enumerate",data:=w5_ k}) ag_ s.heap.objs.size k .none:=by
  let:=FP dj!
   (o:={cls:=.type "enumerate",data:=w5_ k}) χ
  rw[hz]at this;exact this
 let hq:=h _ he #[_,EU _ je_,rfl,rfl] λb o x=>EU _ (EU _ x);generalize hh:(dj!).push {cls:=.type "enumerate",data:=.fields [.none,.bool false,.ref h_,rawInt k,.none,.none].toArray}=h9 at he hq ⊢;let hT:({s with heap:=h9}:x1!).TypeIs go! "enumerate":=#[_,he,rfl];let QP:=ft.init.lookup;let QR:=ft.init.bind go!
 repeat (any_goals (first|assumption|wp_step))
 obtain⟨R1,UQ⟩:∃R1:Result->Shared->Prop,R1=λr ae=>r=.ok (.ret .none)/\ae={s with heap:=h9}:=P!
 let hI:G8! "object.__init__" #[[.ref ag_,eh_],ei!] R1 {s with heap:=h9}:=
  KO ft.init.plain F.entry_object_init (BT_ ft.init.check _ _ _ _ hT (a4i _ l k t) (a7n go! l k t prog w A.in1 R1 {s with heap:=h9} #[hT,by rw[UQ];exact aa_]))
 exact OB hI λr₂ ae UR=>?_;rw[UQ]at UR;let#[rfl,rfl]:=UR
 repeat (any_goals (first|assumption|wp_step))
open PyProof.Rows
def callWith_typeK{M:Model}{E:i!}{pos:Pos}{T:String}{vo:μ Keyword}{Q:i!}
  (h:Cc! (GR_ mQ!) (λvs σ=>Cc! (evalAll ((fN_).map an_))
   (λh1 ae=>Cc! (call aA! vs (((fN_).filterMap q!).zip h1)) Q E ae) E σ) E s)
  (he:C6_ t3_=oN!::C6_ (starEach [] env))(eu:(mQ!).any q!=θ)
  (jw:(fN_).all (·.1.isSome)=τ)(C9:(fN_).any (·.1.isNone)=θ):
  wpAny M A (F0_ aA! [] mQ! fN_) Q E s:=by
 delta callWith;exact ES (GE (?_:wpAny M A (evalArgs aA! τ _ _) _ _ s));rw[he]at h ⊢;exact evalArgs_kwB jw (Ew_ (λvs s1 O=>GK O (λh1 s2 h2=>ES e8!) λ_ _ x=>x));rw[he]at eu;simp![eu,C9,OG];exact ES K_;exact ES (GK h2 (λr ae hr=>ES (GE (NK (EV hr)))) λ_ _ x=>x)
end WR
namespace DL
open PySem PySem.Spec PyProof.Rows L2
section
variable{X:Cx}{own:List Nat}{a:Expr}{lr:List Expr}{n1:Nat}{pos p tp p3 kp:Pos}{fa:WE}{cj:Nat}
def Tg(k:δ)(f:WE):WI:=λρ M T=>f ρ M λd M1=>match d with
 |.lst xs=>T t4_ aR_ M1
 |_=>False
def d0m(hg:Gl X "enumerate")(hm:X.mg "enumerate"=υ)(h:bd_)(k:δ)(hk:Builtin.SmallTypes.fitsIndex (k:Int)=τ)(hs:tS_ [a]=dZ_::Cm_ starEach:=by rfl)(ao:(C6_ wS_).any q!=false:=by rfl):
  MI X own gp! (.Call (Ho! "enumerate") [a] [#[ψ "start",.Constant (.int (k:Int)) cj p3,kp]] pos) (Tg k fa):=⟨by
 intro Z s U H R I ⟨hb,ρ,M,T,st,e,k'⟩;exact KD (iV I hg hm boot_enumerate (WR.callWith_typeK (cO (cE h.ok eB hs pos Z s U H (λvs H1=>∃v xs M1 G1,vs=[v]/\T t4_ aR_ M1/\XM M hb H M1 G1 H1/\MR X.prog X.w X.K M1 G1 H1/\Bc X.K G1 af! v) I #[hb,ρ,M,_,st,e,z7!]) λus s1 ⟨vs,H1,I1,r1,v,xs,M1,G1,q1,t1,x1,m1,rr⟩=>?_) t5! ao χ χ))
 .cases d<;>first|exact r1.elim|skip
  exact#[v,_,M1,G1,χ,r1,x1,m1,q1]
 subst q1;let#[l,ys,rfl,q,rl]:=bM rr;let#[u,rfl,ru]:=iC r1;cases ru;exact kws_cons (wpAny_Constant_int (kws_nil ?_));let US:=I1.tok (s1.toks+1);let#[its,rv,pl,hz]:=US.list (x1.sub.seq q);exact DF! WR.call_enumK hk λh' he bq gq=>?_;exact wpAny_pyIter_enum he ?_;let ng:∀b∈[F!+1,F!],F!<=b:=λb G=>by
  simp![FD,FU,MV]at G;obtain rfl|rfl:=G<;>omega
 let UT:l<F!:=by let#[o,n,z,_]:=pl;exact FK z
 exact#[_,_,_,_,H1,χ,US.kept (t':=s1.toks+1) gq,a5l (k:=k) (Nat.succ_ne_self _) (IZ (OJ UT)) (FW UT),#[#[_,by rw[OO];exact he],bq],λb G=>I1.fpOk (ng b G) (Ck_ (ng b G)),k' _ _ M1 _ G1 H1 t1 x1 m1 ?_];intro i M' G' H' g1 g2 m' _;let hl:=aE rl;let q':Er X.K H' l ys:=g2.seq (g1.seq q);exact#[ex_,λhi=>#[ys,q',by rw[EX,List.length_zipIdx]at hi;omega]];rw[GF,List.getElem?_zipIdx]at hd;let#[q2,w5,rfl]:=EZ.mp hd;let#[c,hc,rfl]:=EZ.mp w5;let#[v,gv,ZF]:=eY rl hc;exact#[#[ys,v,q',gv],iM_];let#[T',x',rfl,hT,rn,rfl]:=hy;let:=rn ys q';rw[gv]at this;cases this;exact#[_,Cq.laid g2 hT,eS (g2.free hT) (Am.cons ?_ (BB_ (ZF.mono g1)))];rw[OO];exact Bc.int⟩
end
open XS
def Zf:D->ν
 |.int i=>N_<10 ^ 60
 |.str x=>ap!<=1000
 |.tup [.int i,.int j]=>N_<10 ^ 60/\j.natAbs<10 ^ 60
 |_=>False
def a3r{v:Int}(h:v.natAbs<10 ^ 60):cu!<1920:=by
 by_cases z:v.natAbs=0
 .rw[z];decide
 .exact(Nat.log2_lt z).mpr (OP h d!)
def a3u{i:Int}(h:N_<10 ^ 60):(t8_).length<=61:=by rw[PySem.ofString_length];exact int_text_length_le10 a_ h
section
variable{X:Cx}{own:List Nat}{pos p1 p2 p3:Pos}{g:Ac->Prop}{es:List Expr}{n:Nat}
def c6n{Z:j_}{U:St}{hb H:Hp}{k:δ}{Q:i!}(hr:T!)(I:c!)(sub:M!)(r:CS_ hb d)(rv:aU!)(hd:Zf d)
  (hQ:∀x t s',ap!<=1000->m2! H s'->Q e1! s'):Gp! (formatField u Str.empty) Q:=by
 let big:100000<=sizeLine:=by decide
 delta Zf at hd;split at hd
 .rename_i i;cases aW r;let#[t,rfl]:=rv;let:=a3u hd;exact C2! (a3r hd) (hQ _ _ _ a! ((bA_).tok _))
 .rename_i x;cases bB r;let#[t,rfl]:=rv;exact formatField_str (λt' tk=>hQ _ _ _ hd (I.tok tk)) a!
 .rename_i i j;let#[a,vs,rfl,qa,rr]:=bI r;let#[v1,t1,rfl,r1,rr]:=bK rr;let#[v2,t2,rfl,r2,rr]:=bK rr;cases cJ rr;cases aW r1;cases aW r2;cases (show u=Value.ref a from rv);let#[its,vr,#[o,O,h2,n,h3],_]:=A1! (bJ sub qa);let#[u1,u2,rfl,w1,w2]:=qJ vr;let#[k1,rfl]:=w1;let#[k2,rfl]:=w2;let l1:=a3u hd.1;let l2:=a3u hd.2;let ls:(t9_).shown.length<=1000:=by
   show(tupleText [Str.ofString bV_,Str.ofString (toString j)]).length<=1000;show((qZ! "(")++(Str.ofString bV_++Str.ofString ", "++Str.ofString (toString j))++Str.ofString ")").length<=1000;let e1:(qZ! "(").length=1:=by decide+kernel
   let e2:(qZ! ", ").length=2:=by decide+kernel
   let e3:(qZ! ")").length=1:=by decide+kernel
   simp![Str.length_append];omega
  let un:=hr.un;let dp:(t9_).depth<=5:=by simp[PyData.depth,PyData.depthAll]
  exact formatField_of_reads (d:=.tuple [ck_,dZ!]) (.tuple O h2 h3 (.cons (.int i k1) (Cs_ (.int j k2)))) (by simp[PyData.showable,PyData.showableAll,a3r hd.1,a3r hd.2]) (λz=>by simp[PyData.hasDict,PyData.hasDictAll]at z) hr.gd a! (λb o e=>e) (λh' u tk hk=>?_) a!;exact hQ _ _ _ ls ((I.un (t':=s.toks) (Un.kept hk) (I.hok.kept hk)).tok tk)
 .exact hd.elim
nonrec def g0:Ac->Prop:=λ_=>True
nonrec def gN(i:δ)(g:mU_):Ac->Prop:=λρ=>(∃d,ρ[i]?=ψ bo_/\Zf d)/\g ρ
structure FJ(X:Cx)(own:b!)(n:Nat)(es:bh_)(g:mU_):Prop where
 ok:∀(Z:j_) (s:x1!) (U:St) (hb H:Hp) (ρ:Ac) (bd:Str) (Q:i!),m2! H s->A9_ X.K->g ρ->bd.length+n<=100000->(∀x t s',Inv X Z U H s'->Q e1! s')->Gp! (joinParts bd (evalEach es X.env)) Q
def a7p:FJ X own 0 [] g0:=⟨λZ s U hb H ρ bd Q I er _ hl hQ=>by
 let big:100000<=sizeLine:=by decide
 exact joinParts_nilE (joinParts_nil (hQ _ _ _ bA_) a!)⟩
def b4t{s2:Str}{j:δ}(h:ua_):FJ X own (s2.length+n) (.Constant (.str s2) j p1::es) g:=⟨λZ s U hb H ρ bd Q I er hg hl hQ=>by
 let big:100000<=sizeLine:=by decide
 exact HH_ (KI #[lA_,h.ok Z _ U hb H ρ _ Q bA_ er hg lB_ hQ])⟩
def d1i{i k:δ}{x:Str}(hr:T!)(hN:Z_)(hv:cj!)(hi:al!)(h:ua_)(hd:s_:=by decide)(bj:ck!:=by decide):
  FJ X own (1000+n) (D7! x p1 p2::es) (gN i g):=⟨λZ s U hb H ρ bd Q I er ⟨⟨d,e1,hs⟩,hg⟩ hl hQ=>by
 let big:100000<=sizeLine:=by decide
 let#[v,f1,f2]:=er.at_ i _ e1 hi;exact HH_ (Ca_ (eL hN hv hd bj Z s U H (λw H'=>w=v/\H'=H) I rS!));rintro u s' ⟨y,H',I',r,rfl,rfl⟩;exact c6n hr I' er.sub f2 r hs λy t s2 hy I2=>#[lA_,h.ok Z _ U hb _ ρ _ Q I2 er hg lB_ hQ]⟩
def Pn(g:mU_):WE:=λρ M R=>g ρ/\∀x,R bP_ M
def a7f(h:FJ X own n (v1::v2::es) g)(hn:n<=100000:=by decide):Bd! (.JoinedStr (v1::v2::es) pos) (Pn g):=⟨λZ s U H Q I ⟨hb,ρ,M,R,st,⟨e1,e2⟩,k⟩=>
 JoinedStr_many (h.ok Z s U hb H ρ Str.empty _ I st.or e1 (by show 0+n<=_;omega) λx t s' I'=>#[.str x,H,I',P!,k _ M _ hb H (e2 x) jY_ st.mr Bc.str])⟩
end
end DL
namespace XS
open PySem PySem.Spec PyProof.Rows PySem.W L2 DL
section
variable{X:Cx}{xD:Str}{cp dm hp:Pos}{rx:Expr}{b:Bool}{D0 L:uv!}
def c3o{body:ai_}{t:(Tk->Hp->ν)->TS}(ai:aw_)(hf:ax!)(fm:a3!)(vn:mL!)
  (hg:ee_)(hm:ed_)(Cc:ee!)
  (G:∀pn f R,Lv ch! R->Dm_ ch! (t R))(al:ef!:=by decide):
  PS X uc! λD U H=>t uc_ D U H:=by
 intro Z s U H D I h;let lv:Lv ii! uc_:=
  λfq ac H' s' n a cls bad I Nn i x G q=>c5g ai hf fm vn hg hm Cc al I Nn i x G q
 exact wpAny_Try_except (GK (G _ _ _ lv [] s U H D rG_ h) (λf s1 z=>?_) λe s1 z=>z);let back:∀{bg H1},E8_ ii! bg H1 s1->Cy! bg H1 s1:=λJ=>cV (ok:=fr!) J χ fq_ χ λ_ _ z=>z;cases f with
 |next=>let#[bg,H1,J,q]:=z;exact HQ bU!
 |brk=>let#[bg,H1,J,q]:=z;exact bU!
 |cont=>let#[bg,H1,J,q]:=z;exact bU!
 |ret u=>let#[v,bg,H1,J,r,q]:=z;exact lx!
end
end XS
namespace DL
open PySem PySem.Spec PyProof.Rows L2 XS
section
variable{X:Cx}{own:List Nat}{e:Expr}{es:List Expr}{body:List Stmt}{pos:Pos}{f:WE}{fs:WA}{M0:Mh}{G0 F0:Hp}{E:EK}
def Uv(kh:fL!)(b:Bool)(q:hh_):WS:=λρ M R=>q (λc _ M2=>kh c=τ/\R (.rt V_) M2) ρ M R
def c4v{xD:Str}{cp dm hp:Pos}{rx:Expr}{b:Bool}{D0 L:uv!}{kh:fL!}{q:hh_}
  (ai:aw_)(hf:ax!)(fm:a3!)(vn:mL!)
  (hg:ee_)(hm:ed_)(Cc:ee!)(QM:tJ_)
  (G:∀pn f M0 G0 F0 E,Lv ch! hi!->Dm_ ch! (Bz! own (q E)))
  (al:ef!:=by decide):
  MS X own own uc! (Uv kh b q):=⟨λM0 G0 F0 Z s U H D I ⟨hb,ρ,M,R,sr,e,k1,k2⟩=>by
 exact c3o (t:=λRR D U H=>∃E,(∀cls H',XR X.prog X.w X.K M0 G0 F0 E cls H'->RR cls H')/\Bz! own (q E) D U H) ai hf fm vn hg hm Cc
  (λpn f RR lv Z s U H D I ⟨E,hE,h⟩=>G pn f M0 G0 F0 E (λp1 p2 p3 p4 p5 p6 p7 p8 p9 dm qc vi QO z=>lv p1 p2 p3 p4 p5 p6 p7 p8 p9 dm qc vi QO (hE _ _ z)) Z s U H D I h) al Z s U H D I #[_,?_,hb,ρ,M,R,sr,e,k1,k2]
 rintro cls H' ⟨c,ln,M',G',⟨h5,_⟩,⟨h6,h7⟩,x,m⟩;exact#[c,h5,QM c h6,k2 _ M' _ G' H' h7 x m Bc.bl]⟩
def d4e(h:jZ!):PA X es fb_:=λpos Z s U H Q I ⟨hb,ρ,M,R,sr,e,k⟩=>h.ok pos Z s U H Q I ud!
def d3z(h:a1_):PE X e fb!:=λZ s U H Q I ⟨hb,ρ,M,R,sr,e,k⟩=>Hi! h.ok ud!
def b1q(h:PE X e fb!)(hs:PA X es fb_)(ai:z_:=by rfl):PA X J_ (A6_ Sq (Af f fs)):=
 λpos Z s U H Q I ⟨hb,ρ,M,R,sr,e',k⟩=>cE h hs ai pos Z s U H Q I ⟨hb,ρ,M,_,sr,e',λd M1 v G1 H1 r1 x1 m1 q1=>⟨G1,ρ,M1,_,Fd! x1,r1,λds M2 vs G2 H2 r2 x2 m2 q2=>
  k _ M2 _ G2 H2 r2 bt! m2 zn!⟩⟩
def b8w{k:δ}{ps:l!}{g:Mr}{x:Str}(hX:bg_)(F:qm_)(hr:T!)(hg:x_)(ha:PA X J_ fb_)
  (al:s_:=by decide)(he:z_:=by rfl)(ao:W_:=by rfl):
  PE X ah! kT!:=by
 show"!<";show"!h";exact CL! sG .nil (yQ (E':=λcls d H'=>XR X.prog X.w X.K M0 G0 F0 E (cls,d) H') hX λ_ _ z=>z) ha al he ao Z s U H Q I (CM! sr pu_);show"!;"
end
def b5w{K:ye!}{own:b!}{hb H G' H':Hp}{U:St}{ρ:Ac}(er:A9_ K)(x:Bm! f0! H):∃G2,Ey! G2 H'/\∀d v,Di d=τ->Bl! K->Bc K G2 d v:=by
 let yt:∀b,b∈Ex own U->∃vs,G' b=ψ dn_:=λb G=>by
  show"#G"
 let hG:∀b,b∈Ex own U->hb b=none:=λb G=>by
  show"!.";exact h4
 exact#[λb=>if b∈Ex own U then υ else G' b,uZ!,λd v hn r=>Bc.mapT uZ_ d v hn r]
 .let G:b∉Ex own U:=λG=>by rw[hG b G]at z;cases z
  show f1!=ψ o;show"#3"
 .let z':f1!=ψ o:=z;split at z'
  .cases z'
  .exact x.sub _ _ z'
 .let z':f1!≠none:=z;split at z'
  .exact AS! z'
  .rename_i G;obtain y|y:=x.new b z'
   .delta Ia at y;rw[FC G]at y;exact .inl y
   .exact .inr y
 .let ne:∀u,G' a=ψ u->u0!->u0_=ψ u:=λu e1 hu=>by
   rw[u1!];exact e1
  rcases q with(q|⟨o,q⟩)|q
  .exact u1_
  .exact u2_
  .exact .inr q
def a8i{K:ye!}{G' G2:Hp}(h:∀d v,Di d=τ->Bl! K->Bc K G2 d v):∀(ds:e!) (vs:l_),Dc ds=τ->Dp_ K G'->Dp_ K G2
 |[],vs,_,r=>by cases cJ r;exact Am.nil
 |d::ds,vs,hn,r=>by
  let#[v,t,rfl,r1,r2]:=bK r;delta Dc at hn;let#[a,b]:=LO.mp hn;exact Dh! (h d v a r1) (a8i h ds t b r2)
section
variable{X:Cx}{own:List Nat}{e:Expr}{f:Ac->Option Bool}
def b1e(h:DT X [] e f):C6! e f:=rM h.ok λU hb H Q ρ d er e k=>by
 exact#[nj_,ρ,d,er.full,e,λG' H' x=>?_];let#[G2,z,_]:=b5w er x;exact k _ _ z
variable{tg:Expr}{fi:Ac->Option (List D)}{ft:Ac->Option Bool}
def Se(f:g_):Ac->ι D:=λρ=>(ah_).bind λd=>match d with
 |.lst xs=>if Dc xs then ψ af! else υ
 |_=>υ
def c1c{i:δ}{scope:Scope}{pos:Pos}{NL:l!}{ix:b!}{g:TG}{bnd:ac!}{fe:g_}
  (hN:V!)(ip:Z_)(hx:aT_)
  (cn:aX!)(df:a7!)(ic:∀y∈aO!,y.2=.local->scope.names.lookup y.1=Ad! ψ)
  (gr:cx!)(cap:a6_)(gk:∀j∈ix,j∉([]:μ δ))(calm:af_)(bq:DI X [] tg iter fi)
  (hg:en_)(ig:gd_)(hi:vM_)(he:vN!)
  (dr:al!:=by decide)(hs:aM_:=by intro _;rfl)
  (ii:p3_:=by rfl)
  (hf:X.fn x=τ\/qg! x=Ad! some:=by first|exact .inl χ|exact .inr χ|assumption):
  DS X own own p4! (Bg i (Se vN_)):=
 c1e p4_ λG0 F0 E U hb H ρ r er e' k=>by
  let#[d,e,rfl]:=EZ.mp e';let#[d0,e,e0]:=ET.mp e;show"!C"
  .rename_i G;let#[g7,e2,rfl]:=EZ.mp e;let QS:(if Dc g7 then ψ (D.lst g7)else υ)=ψ d:=e0;split at QS
   .rename_i hn;cases QS;exact FJ! nj_ er.or.full;exact CQ_ er.or.full.grow λys G' H' x r p hp=>?_;let#[G2,z,hz]:=b5w er.or (x1.trans x);exact k _ _ _ ((er.grow (z.trans (GU! z.sub))).set dr (bW (z.sub.free hp) (a8i hz _ _ hn r)))
   .cases QS
  .cases e
end
section
variable{X:Cx}
def b5g:Ft X aD! uh!:=by intro Z s U H xs us Q I r h;let#[b,rfl,q]:=h;let#[u,rfl,ru]:=iC r;cases (show u=Value.bool b from ru);exact PySem.call_int_1 (PySem.meets_int_new_bool b) (show(PySem.Made.int _).post _ s from#[χ,hQ!])
end
def Pd:μ D->ι D
 |[.bl b]=>uY_ if!
 |_=>υ
def c7k{K:ye!}:Hi K uh! Pd:=by
 show"!=";delta Pd at e;show"!6"
 .show"!4";cases cP rv;cases e;exact vB!
 .cases e
def Vl(s1:Str)(fa:g_):Ac->ι D:=λρ=>(b3_).bind λx=>match x with
 |.int i=>if cp!<1920/\(uh_).length<=big then Ce! uh_ else υ
 |_=>υ
def c7b{X:Cx}{own:b!}{j1:δ}{fa:g_}(ha:F_):vv_ (HB_ [s8_,.FormattedValue a (-1) υ q2] pos) (Vl s1 fa):=⟨λZ s U H Q I ⟨hb,ρ,d,er,e,k⟩=>by
 let#[x,e1,e]:=ET.mp e;cases x<;>first|(cases e;done)|skip
 rename_i i;simp only at e;show"!6"
 .rename_i h;cases e;let#[O,h3]:=h;let h4:=GB h3 iU!;show"#<";exact JP (c6m ha bA_ er e1 O λG1 H1 s' t x1 I1=>mm!);exact joinParts_nil ?_ tb_;exact#[gU!,H1,(I1.tok _),P!,k _ G1 H1 x1 Bc.str]
 .cases e⟩
end DL
namespace XS
open PySem PySem.Spec PyProof.Rows L2 DL
def BI(K:ye!)(mg:o!)(x:Str)(C B0:uv!)(qual:Str)(st:Stmt)(ps:l!):Prop:=mg x=ψ m_/\∃fI fd,Fe! K/\CN! K fI/\AV_ K/\W.isFn K cs!=τ/\Bt_ K m_=τ
end XS
namespace DL
open PySem PySem.Spec PyProof.Rows L2
def a4u{X:Cx}{own:b!}{x i:Str}(hm:∃t,X.mg x=ψ (.str i t))(hg:x_)(hd:s_:=by decide):Hc! bP! fX!:=by let#[t,ht]:=hm;exact b5c (yP (v:=V.str i) hg ht fN! hd) ep_ λ_=>Bc.str
def c6f{K:ye!}{h:Heap}{mg:o!}(X:bb_)(hb:dx!)(a:BL_ K x=AY_ (.str i tk)):∃tk,mg x=ψ (.str i tk):=#[tk,jn!]
end DL
namespace XS
open PySem L2
def Yz(K:ye!)(l:v!)(D0:uv!):Prop:=∀c,decide (c∈l)=τ->BD_ bJ_ dh_=ψ τ
def a5d{K:ye!}:Yz K [] D0:=λc h=>Ac_ (HC h) c_
def lO{K:ye!}{l:v!}(h:BD_ u! dh_=ψ τ)(t:Yz K l D0):Yz K (a::l) D0:=λc hc=>by
 obtain z|z:=FD.mp (HC hc)
 .subst z;exact h
 .exact t c (FH z)
end XS
namespace TX
open PySem Builtin.Str
def Jr(x:δ):μ aL_->μ aL_
 |w::ws=>(x::w)::ws
 |[]=>[[x]]
def Mf(p:b!):μ aL_->μ aL_
 |w::ws=>(p++w)::ws
 |[]=>[p]
def Dp(c:δ):δ->μ δ->μ aL_
 |_,[]=>[[]]
 |n,x::xs=>if x=c then(match n with|0=>Jr x (Dp c 0 xs)|m+1=>[]::Dp c m xs)else Jr x (Dp c n xs)
def Hb(c:δ):μ δ->δ->δ->μ δ
 |[],_,_=>[]
 |x::xs,i,n=>if x=c then(match n with|0=>FA! c 0|m+1=>i::FA! c m)else FA! c n
def pN(c:δ):∀(xs:b!) (i:δ),Hb c xs i 0=[]
 |[],_=>rfl
 |x::xs,i=>by
  delta Hb;split<;>exact pN c xs _
def a9g{c x m i:δ}{xs:b!}(h:x=c):Hb c fy_ i (m+1)=i::FA! c m:=by
 conv=>lhs;unfold Hb
 rw[FE h]
def a9f{c x n i:δ}{xs:b!}(h:¬x=c):Hb c fy_ i n=FA! c n:=by
 conv=>lhs;unfold Hb
 rw[FC h]
def a0u(c:δ):∀(n:δ) (xs:b!),Dp c n xs≠[]
 |_,[]=>by simp[Dp]
 |n,x::xs=>by
  delta Dp;let h:∀l,Jr x l≠[]:=λl=>by cases l<;>simp[Jr]
  split
  .split
   .exact h _
   .simp
  .exact h _
def xI{l:I!}(h:l≠[]):Mf [] l=l:=by
 cases l with
 |nil=>exact AS! h
 |cons w ws=>rfl
def b1l(p:b!)(x:δ)(l:I!):Mf (p++[x]) l=Mf p (Jr x l):=by cases l<;>simp[Mf,Jr]
def b2d(s:Str)(c i:δ)(h:i<E!):DZ! s=decide (aq![i]?=ψ c):=by
 let hs:i<s.cps.size:=h;let e:s.cps.extract i u_=[s.cps[i]].toArray:=by
  apply Array.ext
  .simp;omega
  .intro j O h2;simp at h2;subst h2;simp
 delta subAt;let hl:(bY_).length=1:=χ;rw[hl,e];let e2:aq![i]?=ψ s.cps[i]:=by simp[hs]
 rw[e2];by_cases hc:s.cps[i]=c
 .simp[hc]
 .simp[hc]
def jV(s:Str)(c bo:δ):∀(n i:δ) (cf:m0!) (free:δ),i+n=E!+1->free<=i->cf.size<=bo->
  (forIn (m:=Id) um_ (cf,free) (StrLaws.occBody s L! s.length bo)).run.fst.toList=cf.toList++Hb c un! i (bo - cf.size)
 |0,i,cf,free,h,hf,hs=>by
  let:Cu! i=[]:=by
   apply JO;let:dl!=E!:=by simp[Str.length]
   omega
  rw[this];simp[Hb]
 |n+1,i,cf,free,h,hf,hs=>by
  let hl:dl!=E!:=by simp[Str.length]
  rw[List.range'_succ,KR];by_cases hi:i<E!
  .let hd:Cu! i=aq![i]' a!::s.cps.toList.drop u_:=GV a!;let hg:aq![i]?=ψ (aq![i]' a!):=by simp
   let i9:=b2d s c i hi;rw[hd];by_cases hc:aq![i]' a!=c
   .let ai:DZ! s=true:=by rw[i9,hg,hc];simp
    by_cases rg:cf.size<bo
    .let cond:uo_/\DZ! s=true:=#[#[#[rg,hf],by show i+1<=_;omega],ai];let ih:=jV s c bo n u_ (cf.push i) u_ a! p! (CY_ Array.size_push);delta StrLaws.occBody;rw[FE cond];delta StrLaws.occBody at ih;exact Eq.trans ih ?_;rw[Array.size_push,Array.toList_push];obtain⟨m,hm⟩:∃m,bo - cf.size=m+1:=#[bo - cf.size - 1,n!];rw[hm,show bo - (cf.size+1)=m by omega,a9g hc];simp
    .let cond:¬m1!:=λz=>rg z.1.1.1;show"!/";rw[show bo - cf.size=0 by omega,pN,pN]
   .let ai:¬DZ! s=true:=by
     rw[i9,hg];intro z;exact hc (GN (HC z))
    let cond:¬m1!:=λz=>ai z.2;show"!/";rw[a9f hc]
  .let hd:Cu! i=[]:=JO a!;let cond:¬m1!:=λz=>by let:=z.1.2;let e:(bY_).length=1:=χ;omega
   show"!/";let jc:Cu! u_=[]:=JO a!;rw[hd,jc];simp[Hb]
def a9s(s:Str)(c bo:δ):Cg_ bo=Hb c s.cps.toList 0 bo:=by rw[StrLaws.occ_eq];let:=jV s c bo (E!+1) 0 #[] 0 a! p! b6!;simpa using this
def Kt(cs:b!)(start:δ)(vp:b!):μ aL_:=((start::vp.map (·+1)).zip (vp++[a8!])).map λ(i,j)=>(cs.drop i).take gZ_
def a6m(cs:b!)(start:δ):FA_ Kt []=[(fR!).take (a8! - start)]:=χ
def a2u(cs:b!)(start i:δ)(vp:b!):FA_ Kt (i::vp)=(fR!).take fR_::Kt cs u_ vp:=χ
def lC(c:δ)(cs:b!):∀(ys:b!) (i start n:δ),cs.drop i=ys->i<=a8!->start<=i->FA_ Kt (Hb c ys i n)=Mf ((fR!).take fR_) (Dp c n ys)
 |[],i,start,n,h,hi,hs=>by
  let hl:a8!<=i:=by
   show"#J"
  let e:i=a8!:=by omega
  subst e;simp[Hb,a6m,Dp,Mf]
 |y::ys,i,start,n,h,hi,hs=>by
  let ax:i<a8!:=by
   show"#J"
  let h':cs.drop u_=ys:=by
   rw[<-List.tail_drop,h];rfl
  let hy:cs[i]?=ψ y:=by
   let:=A7_ (λl=>l[0]?) h;simpa using this
  let step:(fR!).take (i+1 - start)=(fR!).take fR_++[y]:=by
   let e:i+1 - start=fR_+1:=by omega
   rw[e,List.take_add_one];congr 1;rw[List.getElem?_drop,show start+fR_=i by omega,hy];rfl
  delta Hb Dp;by_cases hc:y=c
  .rw[FE hc,FE hc];cases n with
   |zero=>
    let ih:=DQ! start 0 a!;show FA_ Kt (Hb c ys u_ 0)=Mf _ (Jr y (Dp c 0 ys));rw[ih,step,b1l]
   |succ m=>
    let ih:=DQ! u_ m p!;show FA_ Kt (i::Hb c ys u_ m)=Mf _ ([]::Dp c m ys);rw[a2u,ih,Nat.sub_self,List.take_zero,xI (a0u c m ys)];simp[Mf]
  .rw[FC hc,FC hc];let ih:=DQ! start n a!;rw[ih,step,b1l]
nonrec def mk(w:b!):Str:=#[w.toArray]
def b3c(s:Str)(c bo:δ):partsBetween s (Cg_ bo) 1=(Dp c bo aq!).map mk:=by
 let h:=lC c s.cps.toList s.cps.toList 0 0 bo χ b6! p!;rw[Nat.sub_self,List.take_zero,xI (a0u c bo _)]at h;rw[<-h,a9s];delta partsBetween Kt;simp![HU];let hl:dl!=E!:=by simp[Str.length]
 rw[hl];apply NW;rintro⟨i,j⟩ _;show strSub s i j=mk ((un!).take gZ_);delta strSub mk;congr 1;apply ND.mp;simp[List.extract_eq_drop_take]
nonrec def joinL(c:δ):μ aL_->μ δ
 |[]=>[]
 |[w]=>w
 |w::ws=>w++c::joinL c ws
def dN{c:δ}{w:b!}{ws:I!}(h:ws≠[]):joinL c (w::ws)=w++c::joinL c ws:=by
 cases ws with
 |nil=>exact AS! h
 |cons v vs=>rfl
def xF(c:δ):∀(ws:I!) (av:m0!),Dz! m3_ bY_=av++(uz_).flatten.toArray
 |[],av=>by simp
 |w::ws,av=>by
  rw[FI,List.foldl_cons,xF c ws];apply ND.mp;simp[mk]
def uD(c:δ):∀(w:b!) (ws:I!),joinL c (w::ws)=w++(uz_).flatten
 |w,[]=>by simp[joinL]
 |w,v::vs=>by
  rw[cw_,uD c v vs];simp
def c5s(c:δ)(ws:I!):Txt.join L! m3_=mk in_:=by
 delta Txt.join glued;cases ws with
 |nil=>rfl
 |cons w ws=>
  show"#7";rw[xF,uD];delta mk;congr 1;apply ND.mp;simp
def a4x{c:δ}:∀{w:b!} (n:δ),c∉w->Dp c n w=[w]
 |[],n,_=>by simp[Dp]
 |x::w,n,h=>by
  simp![FD,not_or]at h;delta Dp;rw[uA_,a4x n h.2];rfl
def a4w{c:δ}:∀(w:b!),Dp c 0 w=[w]
 |[]=>by simp[Dp]
 |x::w=>by
  delta Dp;let ih:=a4w (c:=c) w;by_cases hc:x=c
  .rw[FE hc,ih];rfl
  .rw[FC hc,ih];rfl
def c1r{c n:δ}:∀{w:b!} (ys:b!),c∉w->Dp c bq! (w++c::ys)=w::Dp c n ys
 |[],ys,_=>by
  show Dp c bq! (c::ys)=_
  conv=>lhs;unfold Dp
  rw[S!]
 |x::w,ys,h=>by
  simp![FD,not_or]at h;show Dp c bq! (x::(w++c::ys))=_
  conv=>lhs;unfold Dp
  rw[uA_,c1r ys h.2];rfl
def oW{c:δ}:∀(pre:I!) (js:b!) (n:δ),(∀w∈pre,c∉w)->pre.length<=n->(c∉js\/pre.length=n)->Dp c n (joinL c (pre++[js]))=pre++[js]
 |[],js,n,_,_,hl=>by
  show Dp c n js=[js];obtain h|h:=hl
  .exact a4x n h
  .let e:n=0:=h.symm;subst e;exact a4w js
 |w::pre,js,n,hp,hn,hl=>by
  obtain⟨m,rfl⟩:∃m,n=m+1:=#[n - 1,by simp at hn;omega];rw[List.cons_append,cw_,c1r _ (hp w EY),oW pre js m (λv hv=>hp v m5_) (by simp at hn;omega) (hl.imp id λz=>by simp at z;omega)]
def d1d(s:Str)(c:δ):(!(Cg_ 1).isEmpty)=decide (c∈aq!):=by
 rw[a9s];generalize aq!=xs;let:∀(xs:b!) (i:Nat),(!(Hb c xs i 1).isEmpty)=decide (c∈xs):=by
  intro xs
  induction xs with
  |nil=>intro i;simp[Hb]
  |cons x xs ih=>
   intro i;by_cases hc:x=c
   .rw[a9g hc];simp[hc]
   .rw[a9f hc,ih];simp[show¬c=x from λz=>hc z.symm]
 exact this xs 0
open NumText PyProof.Rows PySem.W
nonrec def intC(i:Int):μ Nat:=(t8_).cps.toList
def c4z(i:Int):mk bm!=Str.ofString bV_:=by delta mk intC;simp
def Iv(m:δ):μ Nat:=(Nat.toDigits 10 m).map Char.toNat
def iI(m:δ):intC (m:Int)=Iv m:=KIN.signs_num m
def kP(m:δ):intC uH!=45::Iv (m+1):=by delta intC Iv;rw[signs_ofString];show("-"++Nat.repr (m+1)).toList.map Char.toNat=_;rw[String.toList_append,GO,Nat.toList_repr];rfl
def eU(m:δ):AllDigits (Iv m):=by intro c hc;let#[ch,iu,e]:=GJ.mp hc;let r:=digit_range (Nat.isDigit_of_mem_toDigits a_ a_ iu);rw[<-e];exact r
def nL(m:δ):Iv m≠[]:=by intro e;let h:=toDigits_len_ge 10 m;rw[List.map_eq_nil_iff.mp e]at h;exact ξ h a_
def a3d{m:δ}(h:m<10 ^ 61):(Iv m).length<=61:=by delta Iv;rw[EX];exact FN_ h
def a3c(m:δ):digitsVal (Iv m)=m:=KIN.val_back m
def mP(i:Int):∀c∈intC i,c=45\/(48<=c/\c<=57):=by
 intro c hc;cases i with
 |ofNat m=>
  let hc:c∈Iv m:=by rw[<-iI];exact hc
  exact .inr (eU m c hc)
 |negSucc m=>
  rw[kP]at hc;obtain rfl|hc:=FD.mp hc
  .exact dR_
  .exact .inr (eU _ c hc)
def fA{i:Int}(h:fS_):(bm!).length<=62:=by
 cases i with
 |ofNat m=>
  let:=a3d (m:=m) h;rw[m9!];omega
 |negSucc m=>
  let:=a3d (m:=m+1) h;rw[kP,FN];omega
def c5z(i:Int):intC i≠[]/\intC i≠[45]:=by
 cases i with
 |ofNat m=>
  rw[m9!];exact#[nL m,λe=>?_];let:=eU m 45 o4!;omega
 |negSucc m=>
  rw[kP];exact#[G_,λe=>?_];simp![LW,LX]at e;exact nL _ e
def d4p{i:Int}(h:fS_):BC! ip!=ψ i:=by
 let hl:=fA h;let az:(ip!).length<=4300:=by
  let:(ip!).length=(bm!).length:=by simp[mk,Str.length]
  omega
 let e1:(ip!).cps.toList=intC i:=by simp[mk]
 cases i with
 |ofNat m=>
  let e2:intC m9_=Iv m:=iI m;let:=intText_digits (x:=mk (intC m9_)) (Gk_ eU) (Gk_ nL) az;rw[e1,e2,a3c]at this;rw[e2];exact this
 |negSucc m=>
  let e2:=kP m;let:=intText_neg (x:=mk (intC uH!)) (cs:=Iv (m+1)) (by rw[e1,e2]) (eU _) (nL _) az;rw[a3c]at this;rw[this];rfl
end TX
namespace K31
open PySem L2 DL
def Gz(i:δ):Stmt:=PySem.Challenge.pw_manyhands_k31_not_saved.main.body.getD i uL!
def Yj(i j:δ):Stmt:=match Gz i with
 |.ClassDef _ _ _ b _ _ _ _ _ _ _=>b.getD j uL!
 |s=>s
structure Ck where
 mk::
 A0:Addr
 A3:Addr
 A4:Addr
 A5:Addr
 A6:Addr
 A7:Addr
 A8:Addr
 A9:Addr
 B1:Addr
 B2:Addr
 HandsError:Addr
 NoDeed:Addr
 NoSave:Addr
 NoTime:Addr
 Unlike:Addr
nonrec def Ck.nd(t:Ck):Prop:=[t.A0,t.A3,t.A4,t.A5,t.A6,t.A7,t.A8,t.A9,t.B1].Nodup
abbrev Mz:Stmt:=Gz 11
def a1z:A1_ Mz:=p_
abbrev Nb:Stmt:=Gz 12
def a2b:Aq fT! fT! (Ae Nb):=p_
abbrev Jd:Stmt:=Gz 13
def sU:A1_ Jd:=p_
abbrev Oe:Stmt:=Gz 14
def a5w:A1_ Oe:=p_
abbrev Ik:Stmt:=Gz 15
def rT:A1_ Ik:=p_
abbrev Of:Stmt:=Gz 16
def a5x:A1_ Of:=p_
abbrev Kc:Stmt:=Gz 17
def vD:A1_ Kc:=p_
abbrev Lj:Stmt:=Gz 18
def yD:A1_ Lj:=p_
abbrev Oc:Stmt:=Gz 19
def a5u:Aq dm! dm! (Ae Oc):=p_
abbrev Kn:Stmt:=Gz 20
def a5t:A1_ Kn:=p_
abbrev Na:Stmt:=Gz 21
def a2a:A1_ Na:=p_
abbrev Hz:Stmt:=Gz 23
def yE:Aq fU! fU! (Ae Hz):=p_
abbrev Og:Stmt:=Gz 24
def a5y:A1_ Og:=p_
abbrev Il:Stmt:=Gz 25
def rV:A1_ Il:=p_
abbrev Oj:Stmt:=Yj 28 0
def a5z:Aq fV! fV! (Ae Oj):=p_
abbrev Ll:Stmt:=Yj 28 1
def yH:Aq fV_ fV_ (Ae Ll):=p_
abbrev Lf:Stmt:=Gz 29
def yA:CE_ Lf:=p_
abbrev Od:Stmt:=Gz 30
def a5v:CE_ Od:=p_
abbrev Li:Stmt:=Gz 31
def yC:Aq fW! fW! (Ae Li):=p_
abbrev Hq:Stmt:=Gz 32
def cS:Aq uN_ cz! (Ae Hq):=p_
abbrev Je:Stmt:=Gz 33
def eW:Aq uO! nb! (Ae Je):=p_
abbrev Fy:Stmt:=Gz 34
def pJ:Aq cz! cz! (Ae Fy):=p_
abbrev Qj:Stmt:=Gz 35
def b2k:CE_ Qj:=p_
abbrev Kl:Stmt:=Gz 37
def a5r:Aq dn! dn! (Ae Kl):=p_
abbrev Ob:Stmt:=Gz 38
def b6o:Aq [b0_] [b0_] (Ae Ob):=p_
abbrev Lg:Stmt:=Gz 39
def mZ:Aq ["word",iq!] bn! (Ae Lg):=p_
abbrev Km:Stmt:=Gz 40
def a5s:Aq bn! bn! (Ae Km):=p_
abbrev Ko:Stmt:=Gz 41
def sV:Aq [eo_,"end"] [eo_] (Ae Ko):=p_
abbrev Qt:Stmt:=Gz 42
def yB:Aq uP! [cA!] (Ae Qt):=p_
abbrev Ij:Stmt:=Gz 45
def rS:Aq [cy_] [cy_] (Ae Ij):=p_
abbrev Mx:Stmt:=Gz 46
def qK:Aq [b1!,cy_] [b1!] (Ae Mx):=p_
abbrev Ii:Stmt:=Gz 47
def rR:CE_ Ii:=p_
abbrev My:Stmt:=Gz 48
def a1y:CE_ My:=p_
abbrev Lh:Stmt:=Gz 49
def iN:Aq uP_ nc! (Ae Lh):=p_
abbrev Qi:Stmt:=Gz 50
def lA:Aq uQ! [b1!] (Ae Qi):=p_
abbrev Rq:Stmt:=Gz 52
def b6q:Aq cA_ cA_ (Ae Rq):=p_
abbrev Tn:Stmt:=Gz 53
def yG:Aq z7_ cA_ (Ae Tn):=p_
abbrev Ql:Stmt:=Gz 54
def b2l:Aq [do!] [do!] (Ae Ql):=p_
abbrev Mn:Stmt:=Gz 56
def b2m:Aq cB_ cB_ (Ae Mn):=p_
abbrev Qm:Stmt:=Gz 57
def lB:Aq uR! cB_ (Ae Qm):=p_
abbrev Oh:Stmt:=Gz 58
def a2c:Aq uR_ nd_ (Ae Oh):=p_
abbrev Rp:Stmt:=Gz 59
def b6p:Aq fZ! fZ! (Ae Rp):=p_
abbrev Oi:Stmt:=Gz 60
def eJ:Aq uS! ne! (Ae Oi):=p_
abbrev Qk:Stmt:=Gz 61
def eR:Aq uT! ne_ (Ae Qk):=p_
abbrev Kd:Stmt:=Gz 62
def lQ:Aq uT_ ng! (Ae Kd):=p_
abbrev Ju:Stmt:=Gz 63
def eQ:Aq uU! nh! (Ae Ju):=p_
abbrev Jc:Stmt:=Gz 64
def cU:Aq uU_ [bn_] (Ae Jc):=p_
abbrev Lk:Stmt:=Yj 5 0
def yF:Aq ni_ ni_ (Ae Lk):=p_
def Kr:Ac->ι Fl:= (HC! (Au uV! (f2 Dw (Fe_ Ca) (f2 Cb uV_ uW!))))
def Em:μ D->ι D:=Ch! Kr
def Ot:Ac->ι Fl:= (Ar (Au (Fe_ Em) (Ap Dj Dw y_ g! w_)))
def Ge:μ D->ι D:=Bh fT! 2 (Ot)
def Ke:Ac->ι Fl:= (Ar (Au (Fe_ Em) (f2 Ee g! v_)))
def Ds:μ D->ι D:=Ch! Ke
def Eg:Ac->ι Fl:= (Al (Bg! Dx al_) (Ar (Au (f1 Ge (Bh_ a9! dp!)) (f1 Ds nk!))))
def Cr:μ D->ι D:=Ch! Eg
def Cj:Ac->ι Fl:= (Al (Bg! Dx a9_) (Ar (Au u2! (f1 Ge (Bh_ nl! dp!)))))
def Bq:μ D->ι D:=Ch! Cj
def Qp:Ac->ι Fl:= (Ar (Bx (Fe_ Cr) (Bx u3_ u4!)))
def Hu:μ D->ι D:=Ch! Qp
def Lp:Ac->ι Fl:= (Ar (Bx nl_ (Fe_ Cr)))
def Fk:μ D->ι D:=Ch! Lp
def Nd:Ac->ι Fl:= (Ar (Bx nl_ (Fe_ Bq)))
def Gk:μ D->ι D:=Ch! Nd
def Qo:Ac->ι Fl:= (Ar (Au (Ap Dj Dj iw! g! (fC (.str "~"))) (f2 Dx (Fe_ Wu) (A4! 37))))
def Gd:μ D->ι D:=Bh dm! 1 (Qo)
def Ht:Ac->ι Fl:= (Al (HC_ (Cy (Bo (FB! g!)) (Bo (fT (Ap Dj Dj v_ cC_ dp!))))) (Ar (Hs! (AT_ (Yn g!) ix_))))
def Fb:μ D->ι D:=Ch! Ht
def Os:Ac->ι Fl:= (Ar (f1 Ge (Bh_ g! iy!)))
def Gy:μ D->ι D:=Ch! Os
def Ew(t:Ck):μ dv!:=[("put",.tup f3!),("move",.tup er_),("drop",.tup [bG!]),("write",.tup es!),("cut",.tup cE!),("set",.tup es_),("undo",.tup cE_),("redo",.tup cE_)]
def Ix(t:Ck):Addr->ι wH_:=λa=>if a=t.A0 then ψ Hu else if a=t.A3 then ψ Fk else if a=t.A4 then ψ Gk else if a=t.A5 then ψ Fb else if a=t.A6 then ψ Bq else if a=t.A7 then ψ Ds else if a=t.A8 then ψ Gy else if a=t.A9 then ψ Em else if a=t.B1 then ψ Cr else υ
def Jj(t:Ck):Ac->ι Fl:= (Al (HC_ (fT (f2 Dx cC_ iz!))) (Ar (Hs! (EJ_ 2))))
def De(t:Ck):μ D->ι D:=Bh fU! 2 (Jj t)
def Cv(t:Ck):Ac->ι Fl:= (Al (Bg! Be y_) (Al (HC_ (Cy (Bo (FB! a9!)) (fT (Uj et! τ a9!)))) (Al (HC_ (Bo (fT (f1 (De t) (Bh_ (Ci g! cF_ Ai) (Sc et! a9!)))))) (Ar (Bx (f2 Dx a9! (fC iB!)) (f2 Dj (f2 Ag (F7_ nl!) iB_) dp!))))))
def Cg(t:Ck):μ D->ι D:=Bh j! 1 (Cv t)
def Ji(t:Ck):Ac->ι Fl:= (Al (Bg! Dx iy!) (Ar (Au u2! (Au (B4_ Ds nl!) (B4_ (Cg t) iB_)))))
def Cd(t:Ck):μ D->ι D:=Bh j! 1 (Ji t)
def Uf(t:Ck):WS:= (At (Mu t.B2 "ours" U! aY!) (At (Mu t.B2 "taken" U! Tj) (At (Mu t.B2 "waiting" U! (Ti Av)) ve_)))
def Hv(t:Ck):WF:=Du_ fV! Uf
def Rx(t:Ck):WS:= (Ei (w1 Jz (Af (Ml iD_ aY! (wl (Bl Ad))) Av)))
def Fc(t:Ck):WF:=Du_ fV_ Rx
def Rs(t:Ck):WS:= (Ei (w2 (λ_=>Dj) (wl iE!) vh!))
def Gj(t:Ck):WF:=Du_ L_ Rs
def Ue(t:Ck):WS:= (Ei (w2 f5_ (wl iE!) (w2 Ie vh! (wl v_))))
def Jx(t:Ck):WF:=Du_ L_ Ue
def Rt(t:Ck):WS:= (At vi! vi_)
def Fa(t:Ck):WF:=Du_ fW! Rt
def Hr(t:Ck)(E:EK):WS:= (At (Ce 2 Tj) (At (Ja (Rl (w2 Ie iF_ aY!)) f6_ (At vj! (At vl! vm!))) (Ei cG!)))
def Ga(t:Ck):Mr:=λds M R E=>Eo! uN_ Hr
def Jg(t:Ck)(E:EK):WS:= (At (Ce 2 Tj) (Ja (Rl (w1 Qu f6!)) f6_ (At vn! (At vp! vp_))))
def Gx(t:Ck):Mr:=λds M R E=>Eo! uO! Jg
def Hs(t:Ck)(E:EK):WS:= (At (Dh (Iz (Bo vr_)) (Gn t.NoDeed E (BZ_ "a thing in the message is no operation")) Ff) (Gv (Cz 2 (Gx t) E (CO! U! (Cz 2 (Ga t) E nq_)))))
def Gc(t:Ck):Mr:=λds M R E=>Eo! cz! Hs
def Vf(t:Ck):WS:= (At (Gv (Rn (Gf iD_ (wl iE_) (Ti Av)) aY!)) ve_)
def Ma(t:Ck):WF:=Du_ L_ Vf
def Ey:Ac->ι Fl:= (Al (Cn (fT nl_) (Ar vt!) Bb) (Al (Cn uY! (Ar (Nh iH_ vu!)) Bb) (Ar nr!)))
def Df:μ D->ι D:=Bh dn! 1 (Ey)
def Nt:Ac->ι Fl:= (Ar (Nh iw! (AT_ (Po ns!) (f1 Df aq_))))
def Do:μ D->ι D:=Bh [b0_] 1 (Nt)
def Lm(t:Ck)(E:EK):WS:= (At (Xk 1 U! (Uw 0 11) t.NoDeed E) (Ei aY!))
def Fi(t:Ck):Mr:=λds M R E=>Bz_ ["word",iq!] Lm
def On(t:Ck)(E:EK):WS:= (At (Dh (Iz (fT (f2 Be g! vt!))) (Ei (wl cD!)) Ff) (At (Dh (Iz (Cy (fT u3_) (fT u4!))) (Ei U!) Ff) (At (Dh (Iz (HD! AR iH_)) (Ei (Hf! (Eo_ (Nx g! iH_)))) Ff) (Ei nu_))))
def Kw(t:Ck):Mr:=λds M R E=>Bz_ bn! On
def Oo(t:Ck)(E:EK):WS:= (At (Ce 1 (wl vx_)) (Ei (Hf! (w2 Ie (w2 Ie (wl vw_) (Ho 1 [] (Rk (Ej (Ci g! cF_ (Ah w_)))) r_ ev_ (Cz 1 (Kw t) E f8!))) (wl (Ci g! (Ah w_) Ai))))))
def Kx(t:Ck):Mr:=λds M R E=>Bz_ [eo_,"end"] Oo
def Tq(t:Ck)(E:EK):WS:= (At (Ce 1 (wl (Tz g! iw! iK_))) (At (Ce 2 (Hf! (w2 Ie (Eo_ (Ci w_ Ai ds!)) (Pm (Af (Cz 1 (Kx t) E (HU_ (EK! w_))) Av))))) (At (Dh (Iz (Cy (Bo (fT (f1 (Cd t) cH!))) (HD! Ea (f1 Do cH!)))) (Gn t.NoDeed E (Uw 0 14)) Ff) (Ei cG!))))
def Jw(t:Ck):Mr:=λds M R E=>Bz_ uP! Tq
def Jh:Ac->ι Fl:= (Ar (Vl "hand " g!))
def Db:μ D->ι D:=Bh [cy_] 1 (Jh)
def Nc(t:Ck)(E:EK):WS:= (DQ_ vA!)
def Ez(t:Ck):Mr:=λds M R E=>Bz_ [b1!,cy_] Nc
def Oq(t:Ck):WS:= (At (Dh (Zd vB_ (Wk vC!)) ny! Ff) (Ei (w2 (λ_=>Dr) (wl ny_) (E1_ Fa (Af U! vg_)))))
def Fj(t:Ck):WF:=Du_ L_ Oq
def Su(t:Ck):WS:= (At (Dh (Zd vC! (Zd (wT (E1_ Gj nq_)) vC_)) ny! Ff) (At (Dh vD_ ny! Ff) (At (Uv (λc=>decide (c∈[f9_,ga!,ga_])) θ λE=>(Gv (Cz 2 (Gc t) E (CO! U! (wl (Bl cF!)))))) (Ei (wl (fC ae_))))))
def Ib(t:Ck):WF:=Du_ L_ Su
def Ln(t:Ck)(E:EK):WS:= (At (Ce 3 (wl (Re w_ ex!))) (At (Th 1 4 2 (λc=>decide (c∈[f9_])) t.NoSave "line " " is wrong" E (Jw t) (HU_ (Dt iM! vF_ w_))) (Dh vH_ vI! vI_)))
def Eo(t:Ck):Mr:=λds M R E=>Fz uP_ 3 (Ln t E) ds M R
def Qn(t:Ck)(E:EK):WS:= (C9_ (Gv vJ_))
def Gb(t:Ck):Mr:=λds M R E=>Bz_ uQ! Qn
def Qy:Ac->ι Fl:= (Al (Cn (Gl! g!) vK! Bb) (Ar y_))
def Mc:μ D->ι D:=Bh cA_ 2 (Qy)
def Vg:Ac->ι Fl:= (Al (Bg 2 (f2 As (f2 Ag (f1 Mc (Ab g! cF!)) (f2 Br (A4! 104729) vK_)) (A4! 4294967291))) (Al (Bg 2 (f2 As (f2 Br ab_ (A4! 48271)) (A4! 4294967279))) (Ar (f2 As (f2 Ag (f2 Br (f2 Aw ab_ (A4! 64)) (A4! 69621)) ab_) (A4! 4294967231)))))
def Az:μ D->ι D:=Bh z7_ 2 (Vg)
def Ru:Ac->ι Fl:= (HC! uV!)
def Fm:List D->Option D:=Bh [do!] 1 (Ru)
def Rw:Ac->ι Fl:= (Ar (f2 Ag (f2 Ag (DL! [iv_]) (E2! 1)) (DL! [f2!,(.tup [iQ!,iQ!])])))
def Jq:μ D->ι D:=Bh cB_ 1 (Rw)
def Rv:Ac->ι Fl:= (Al (Om 1 (Bh_ cD! (fC (.tup [iQ!,iQ!,(.int 3)])))) (Al (Nl iP! ey! (Cn vO! vR_ Bb)) (Ar w_)))
def Jp:μ D->ι D:=Bh uR! 1 (Rv)
def Ts:Ac->ι Fl:= (Al (Bg 2 (fC (.str " abcXYZ.,;!019~[]\\\"'|{}<>@#$&*()-+/=_^:?`"))) (Ar (Nh b4_ (EK_ 1))))
def Mb:μ D->ι D:=Bh uR_ 2 (Ts)
def Tt:Ac->ι Fl:= vK!
def Ed:μ D->ι D:=Bh fZ! 2 (Tt)
def Nu:Ac->ι Fl:= (Al vU! (Al vU_ (Al vV! (Al vW_ (Al vX_ (Al vZ! (Al vZ_ (Al v0! (Al v1! (Al v1_ (Al v2! (Al v3! (Al v6! (Al v7_ (Al v8_ wa!)))))))))))))))
def Ic:μ D->ι D:=Bh uS! 4 (Nu)
def Ov:Ac->ι Fl:= (Bv! (Al wb_ (Al wc_ (Al wd! (Al wd_ (Al we! we_))))))
def Jo:μ D->ι D:=Bh uT! 3 (Ov)
def Lq:Ac->ι Fl:= (Al (Nl iP! ey! (Cn (Bs nN_ nO!) (Al wh_ wj_) Bb)) (Ar (fC ae_)))
def Fo:μ D->ι D:=Bh uT_ 2 (Lq)
def Ou:Ac->ι Fl:= (Al (Om 2 Ad) (Al nM! (Al (Nl (Fv iz!) du! (Al wl! (Al wl_ (Al wo_ (Al wq! (Al ws! (Al wu! (Al wv_ ww_)))))))) (Ar y_))))
def Jn:μ D->ι D:=Bh uU! 2 (Ou)
def Tr(t:Ck):WS:= (At wy_ (At wB_ (At wC_ (At wE! (At wF! (At (Dh (Iz (fT nS_)) (At wH! wJ_) Ff) (At (Ja wL_ (En 5) (At wM_ (Dh wO_ (At wP! (At wP_ (At wR! (At wT! (At wU! wZ!))))) Ff))) (At nW! (At nX! (At (Dh nX_ (At nY! (At nY_ (At nZ! nZ_))) Ff) (At n0! (At jf! (Ei gn!)))))))))))))
def Xu(t:Ck):WF:=Fz uU_ 1 (Tr t)
structure Txt(P:xz!)(w:wY!)(K:ye!)(mg:o!)(t:Ck):Prop where
 D1:xz_ "is_whole" Mz j!
 D2:xz_ "is_below" Nb fT!
 D3:xz_ "is_from_one" Jd j!
 D4:xz_ "is_name" Oe j!
 D5:xz_ "is_sign_name" Ik j!
 D6:xz_ "is_item" Of j!
 D7:xz_ "is_sibling" Kc j!
 D8:xz_ "is_behind" Lj j!
 D9:xz_ "is_sign" Oc dm!
 E1:xz_ "is_text" Kn j!
 E2:xz_ "is_place" Na j!
 E3:xz_ "are_parts" Hz fU!
 E4:xz_ "is_deed" Og j!
 E5:xz_ "is_operation" Il j!
 E6:Vv K mg "Hand" t.B2 "Hand.__init__" Oj fV!
 E7:Ri K t.B2 "have" "Hand.have" Ll fV_
 E8:xz_ "was_taken" Lf L_
 E9:xz_ "is_next" Od L_
 F4:xz_ "last_time" Li fW!
 F5:xz_ "not_yet_taken" Hq cz!
 F6:xz_ "check_times" Je nb!
 F7:xz_ "check_message" Fy cz!
 F8:xz_ "accept" Qj L_
 F9:xz_ "word_of" Kl dn!
 G6:xz_ "shown" Ob [b0_]
 G7:xz_ "number_of" Lg bn!
 G8:xz_ "part_of" Km bn!
 G9:xz_ "deed_of" Ko [eo_]
 H9:xz_ "read" Qt [cA!]
 J0:xz_ "line_of_hand" Ij [cy_]
 J9:xz_ "new_hand" Mx [b1!]
 K0:xz_ "may_be_taken" Ii L_
 K2:xz_ "may_wait" My L_
 K3:xz_ "load_line" Lh nc!
 K4:xz_ "loaded" Qi [b1!]
 K7:xz_ "_law_cell" Rq cA_
 K8:xz_ "_law_mix" Tn cA_
 K9:Gs K mg "_law_whole" Ql [do!]
 L4:xz_ "_law_items" Mn cB_
 L5:xz_ "_law_signs" Qm cB_
 L6:xz_ "_law_text" Oh nd_
 L7:xz_ "_law_pick" Rp fZ!
 L8:xz_ "_law_deed" Oi ne!
 L9:xz_ "_law_world" Qk ne_
 M5:xz_ "_law_time_fits" Kd ng!
 M6:xz_ "_law_wrong" Ju nh!
 M7:xz_ "law" Jc [bn_]
 M8:mg "ValueError"=υ
 M9:mg "abs"=υ
 N0:mg "all"=υ
 N2:mg "bool"=υ
 N3:mg "enumerate"=υ
 N5:mg "int"=υ
 N6:mg "isinstance"=υ
 N7:mg "len"=υ
 N8:mg "ord"=υ
 N9:mg "range"=υ
 O0:mg "sorted"=υ
 O1:mg "str"=υ
 O2:mg "tuple"=υ
 O3:mg "zip"=υ
 O4:∃tk,mg "HANDS"=BZ! 16
 O5:∃tk,mg "SIGNS"=BZ! 16
 O6:∃tk,mg "PLACES"=BZ! 4
 O7:∃tk,mg "LEFT_OUT"=BZ! 37
 O8:∃tk,mg "MOST_WAITING"=BZ! 8
 O9:∃tk,mg "WAITS"=ψ (.str "waits " tk)
 P0:XS.BI K mg "NoSave" t.NoSave t.HandsError "NoSave.__init__" Lk ni_
 P1:DL.CY K je!
 P3:mg "is_item"=AZ! t.A0
 P4:mg "is_sibling"=AZ! t.A3
 P5:mg "is_behind"=AZ! t.A4
 P6:mg "is_text"=AZ! t.A5
 P7:mg "is_sign_name"=AZ! t.A6
 P8:mg "is_from_one"=AZ! t.A7
 P9:mg "is_place"=AZ! t.A8
 Q0:mg "is_whole"=AZ! t.A9
 Q1:mg "is_name"=AZ! t.B1
 Q2:Ud K t.B2
 Q3:mg "HandsError"=ψ gn_
 Q4:mg "NoDeed"=ψ jf_
 Q5:mg "NoSave"=AZ! je!
 Q6:mg "NoTime"=AZ! ga_
 Q7:mg "Unlike"=AZ! ga!
 Q8:XS.Vu K f9_
 Q9:XS.Vu K ga_
 R3:XS.Vu K ga!
 R4:XS.Mj K t.HandsError
 R5:XS.Mj K f9_
 R6:BD_ jf_ gn_=ψ τ
 R7:BD_ jf_ jf_=ψ τ
 R8:Hf_ je!=ψ τ
 R9:Hf_ ga_=ψ τ
 S0:Hf_ ga!=ψ τ
 S1:F8! "ours"
 S2:F8! "taken"
 S3:F8! "waiting"
 S4:F8! "outline"
 S5:∀X:Cx,X.prog=P->X.w=w->X.K=K->X.mg=mg->Sj X "PARTS" et!
def El(c:δ):Bool:=decide (32<=c)&&decide (c<=126)&&!(c==37)
def Lr(s:Str):Bool:=decide (E!<=1000)&&s.cps.toList.all El
def Ct(b:δ):δ->D->Bool
 |_,.non=>τ
 |_,.bl _=>τ
 |_,.int _=>τ
 |_,.str s=>Lr s
 |n+1,.tup xs=>FB_ b
 |n+1,.lst xs=>FB_ b
 |_,_=>θ
def b3u{b:δ}:∀{n:δ} {d:D},Ct b n d=τ->Bm d=τ/\dep d<=n:=by
 intro n
 induction n with
 |zero=>
  intro d h;cases d<;>simp[Ct]at h<;>simp[Bm,dep]
 |succ n ih=>
  let all:∀(xs:e!),FB_ b=τ->Cm xs=τ/\Du xs<=n:=by
   intro xs
   induction xs with
   |nil=>intro _;simp[Cm,Du]
   |cons x xs ZG=>
    intro h;rw[JI,FB]at h;let O:=ih h.1;let h2:=ZG h.2;simp![Cm,Du,O.1,h2.1,JB,LX];omega
  intro d h;cases d<;>simp![Ct]at h<;>simp[Bm,dep]
  .exact xh!
  .exact xh!
  .cases h
  .cases h
def b4u{b n:δ}(hx:Ct b n x=τ)(hn:n<=40)(hy:Bm y=τ):Be x y=ψ wx_:=by let h:=b3u hx;delta Be;rw[FE];simp[h.1,hy];omega
abbrev Bk:Nat:=999999999999999999999999999999999999999999999999999999999999
nonrec def isInt:D->Bool
 |.int i=>decide n1!
 |_=>θ
nonrec def belowK(n:Int):D->Bool
 |.int i=>decide (0<=i)&&decide (i<n)
 |_=>θ
def Ec:D->Bool
 |.int i=>decide n1!&&decide (1<=i)
 |_=>θ
def a0m{n:δ}(h:ba_):Em [d]=Hs_ isInt:=by
 cases d with
 |int i=>
  let:decide (hO!<1000000000000000000000000000000000000000000000000000000000000)=decide n1!:=by
   delta Bk;apply decide_eq_decide.mpr;split<;>omega
  push_cast[Em,Kr,isInt,<-this]
 |fn a=>cases n<;>simp[Ct]at h
 |dk a=>cases n<;>simp[Ct]at h
 |_=>push_cast[Em,Kr,isInt]
def a0o{n:δ}{k:Int}(h:ba_)(hk:k<=1000):Ge [d,b7!]=rJ! (belowK k d):=by
 cases d<;>push_cast[Ge,Ot,a0m h,isInt,belowK];rename_i i;by_cases h0:0<=i
 .by_cases O:i<k
  .let:N_<=Bk:=by delta Bk;omega
   simp[h0,O,this]
  .by_cases h2:N_<=Bk<;>simp[h0,O,h2]
 .by_cases h2:N_<=Bk<;>simp[h0,h2]
def a0n{n:δ}(h:ba_):Ds [d]=Hs_ Ec:=by cases d<;>push_cast[Ds,Ke,a0m h,isInt,Ec];rename_i i;by_cases h2:N_<=Bk<;>simp[h2]
def Ef:D->Bool
 |.tup [a,b]=>F8_ a&&Ec b
 |_=>θ
def tM{b n:δ}(h:Ct b n aI!=τ):∃m,n=m+1/\∀x∈xs,Ct b m x=true:=by
 cases n with
 |zero=>simp[Ct]at h
 |succ m=>exact#[m,χ,by simpa[Ct]using h]
def qE{n:δ}(h:ba_):Cr [d]=Hs_ Ef:=by
 match d,h with
 |.tup [],h=>push_cast[Cr,Eg,Ef]
 |.tup [a],h=>push_cast[Cr,Eg,Ef]
 |.tup [a,b],h=>
  let#[m,rfl,hm]:=tM h;let ha:=hm a c_;let G:=hm b c_
  push_cast[Cr,Eg,Ef,a0o ha,a0n G]
  cases belowK 16 a<;>simp
 |.tup (a::b::c::r),h=>
  let:¬(eC!+1+1+1=2):=by omega
  push_cast[Cr,Eg,Ef,this]
 |.non,h=>push_cast[Cr,Eg,Ef]
 |.bl _,h=>push_cast[Cr,Eg,Ef]
 |.int _,h=>push_cast[Cr,Eg,Ef]
 |.str _,h=>push_cast[Cr,Eg,Ef]
 |.lst _,h=>push_cast[Cr,Eg,Ef]
 |.fn _,h=>cases n<;>simp[Ct]at h
 |.dk _,h=>cases n<;>simp[Ct]at h
def Ek:D->Bool
 |.tup [a,b,c]=>F8_ a&&Ec b&&F8_ c
 |_=>θ
def rL{n:δ}(h:ba_):Bq [d]=Hs_ Ek:=by
 match d,h with
 |.tup [],h=>push_cast[Bq,Cj,Ek]
 |.tup [a],h=>push_cast[Bq,Cj,Ek]
 |.tup [a,b],h=>push_cast[Bq,Cj,Ek]
 |.tup [a,b,c],h=>
  let#[m,rfl,hm]:=tM h;let ha:=hm a c_;let G:=hm b c_;let hc:=hm c c_;let kj:Ct Bk (m+1) (.tup ac_)=true:=by simp[Ct,ha,G]
  push_cast[Bq,Cj,Ek,qE kj,a0o hc,Ef]
  cases belowK 16 a<;>cases Ec b<;>simp
 |.tup (a::b::c::e::r),h=>
  let:¬(eC!+1+1+1+1=3):=by omega
  push_cast[Bq,Cj,Ek,this]
 |.non,h=>push_cast[Bq,Cj,Ek]
 |.bl _,h=>push_cast[Bq,Cj,Ek]
 |.int _,h=>push_cast[Bq,Cj,Ek]
 |.str _,h=>push_cast[Bq,Cj,Ek]
 |.lst _,h=>push_cast[Bq,Cj,Ek]
 |.fn _,h=>cases n<;>simp[Ct]at h
 |.dk _,h=>cases n<;>simp[Ct]at h
def Nr:D->Bool
 |.str s=>s=="root"||s=="bin"
 |_=>θ
def mR{n:δ}(hn:n<=40)(h:ba_):Hu [d]=Ep! Ef Nr:=by
 let e:∀x,Be d bP_=rJ! (Dl d bP_):=λx=>b4u h hn χ
 push_cast[Hu,Qp,qE h,e]
 cases Ef d<;>simp;cases d<;>simp[Dl,Nr];rename_i s;by_cases hs:s="root"<;>simp[hs]
def xG{n:δ}(h:ba_):Fk [d]=Ep! Bf Ef:=by
 push_cast[Fk,Lp,qE h]
 cases d<;>simp
def c1a{n:δ}(h:ba_):Gk [d]=Ep! Bf Ek:=by
 push_cast[Gk,Nd,rL h]
 cases d<;>simp
def c6t{n:δ}(h:ba_):Gy [d]=rJ! (belowK 4 d):=by push_cast[Gy,Os,a0o h]
def d0q(a c:δ):Qh (Dj! a) L!=decide (a<=c):=by
 delta Qh;simp![List.cons_lt_cons_iff,List.not_lt_nil,and_false,MV];by_cases h:c<a
 .simp[h]
 .simp[h];omega
def b3r:(" ":Str)=(Dj! 32):=by decide+kernel
def b3q:("~":Str)=(Dj! 126):=by decide+kernel
def d1n(c:δ):Gd [.str L!]=rJ! (El c):=by
 push_cast[Gd,Qo,Wu,b3r,b3q,d0q,Str.length,El]
 by_cases O:32<=c<;>by_cases h2:c<=126<;>simp[O,h2];rw[JW];simp;omega
def Ld:D->Bool
 |.str s=>decide (1<=E!)&&decide (E!<=16)
 |_=>θ
def uQ(ρ:Ac)(vq:ρ=X!):∀(cs:b!),cs.all El=τ->
  Cp r_ D_ ix_ ρ (cs.map λc=>.str L!)=ψ (cs.map λ_=>.bl τ)
 |[],_=>rfl
 |c::cs,h=>by
  rw[JI,FB]at h;let ih:=uQ ρ vq cs h.2;subst vq;simp![FI,Cp,ih];simp[Bj,f1,Ab,Aa,Ad,d1n,h.1]
def uW:∀(cs:b!),Ph (cs.map λ_=>D.bl τ)=ψ (cs.map λ_=>τ)
 |[]=>rfl
 |c::cs=>by simp![FI,Ph,uW cs,JF]
def d1m{n:δ}(h:ba_):Fb [d]=Hs_ Ld:=by
 cases d with
 |str s=>
  let h':Lr s=true:=by cases n<;>simpa[Ct]using h
  delta Lr at h';rw[FB,FV]at h';let hl:E!<=big:=by delta big;omega
  let hc:=uQ X! χ s.cps.toList h'.2;let jw:(List.map (λ_=>τ) aq!).all id=true:=by simp
  by_cases O:1<=jh!
  .by_cases h2:jh!<=16
   .let e1:1<=E!:=by omega
    let e2:E!<=16:=by omega
    let hz:dl!<=big:=by simpa[Str.length]using hl
    let qi:AT_ (Yn g!) ix_ [ψ cJ!]=qX_ xl!:=by
     show(if(s.cps.toList.map λc=>D.str L!).length<=big then Option.map D.lst (Co_ ix_ (s.cps.toList.map λc=>.str L!))else υ)=_;rw[EX,FE hz,hc];rfl
    let ZH:Pw [.lst xl!]=ψ ae_:=by
     simp![Pw,uW,JF,jw]
    push_cast[Fb,Ht,qi,hl,O,h2,e1,e2,ZH,Ld]
   .let e2:¬E!<=16:=by omega
    push_cast[Fb,Ht,Ld,hl,O,h2,e2]
  .let e1:E!=0:=by omega
   push_cast[Fb,Ht,Ld,hl,e1]
 |fn a=>cases n<;>simp[Ct]at h
 |dk a=>cases n<;>simp[Ct]at h
 |_=>push_cast[Fb,Ht,Ld]
variable{t:Ck}
def d1g(nd:t.nd):Ix t t.A0=ψ Hu/\Ix t t.A3=ψ Fk/\Ix t t.A4=ψ Gk/\Ix t t.A5=ψ Fb/\Ix t t.A6=ψ Bq/\
  Ix t t.A7=ψ Ds/\Ix t t.A8=ψ Gy/\Ix t t.A9=ψ Em/\Ix t t.B1=ψ Cr:=by
 delta Ck.nd at nd;simp![GZ,FD,FU,MV,not_or]at nd;delta Ix;exact#[?_,?_,?_,?_,?_,?_,?_,?_,?_]<;>grind
def rQ(ρ:Ac)(vq:ρ=n4!):∀(cs:jh_),(∀c∈cs,∃g,Ix t c.1=ψ g/\g [c.2.1]=ψ (.bl c.2.2))->
  Cp iz_ D_ iA! ρ ji!=ψ n5_
 |[],_=>rfl
 |c::cs,h=>by
  let ih:=rQ ρ vq cs λx hx=>h x b5!;let#[g,O,h2]:=h c EY;subst vq;simp![FI,Ir,Cp,ih];simp[Pi,Bj,Mq,Ab,Aa,Ad,O,h2]
def xN:∀(cs:jh_),Ph (cs.map λc=>D.bl c.2.2)=ψ (cs.map λc=>c.2.2)
 |[]=>rfl
 |c::cs=>by simp![FI,Ph,xN cs,JF]
def a8f:∀(cs:jh_),(ji!).length=a8!
 |[]=>rfl
 |c::cs=>by simp![FI,Ir,FN,a8f cs]
def gX(cs:jh_)(h:∀c∈cs,∃g,Ix t c.1=ψ g/\g [c.2.1]=ψ (.bl c.2.2))(hl:a8!<=1000):
  De t [.tup n5!,.tup n4_]=ψ xm!:=by
 let hc:=rQ n4! χ cs h;let hz:a8!<=big:=by delta big;omega
 let qi:EJ_ 2 [ψ (.tup n5!),ψ (.tup n4_)]=qX_ n5_:=by
  show(AO_ ji! (Cp iz_ D_ iA! n4! ji!))=_;rw[a8f,FE hz,hc];rfl
 let jw:Pw [.lst n5_]=ψ xm!:=by
  simp![Pw,xN,JF,List.all_map];rfl
 push_cast[De,Jj,qi,jw]
def aY{ps fs:e!}(h:K!≠aT!):Dv! ps=ψ aK!:=by
 let:¬((K!:Int)=aT!):=by omega
 push_cast[De,Jj,this]
def oV(x:D)(r:e!):Ak (.tup (x::r)) X_ υ=AW! r:=by
 let O:HT.sIx (W!+1) 0 X_=1:=by
  simp[HT.sIx]
 let h2:HT.sIx (W!+1) (W!+1) υ=W!+1:=by simp[HT.sIx]
 simp[Ak,cutL,O,h2]
variable{t:Ck}
abbrev Fh(d:D):Bool:=Ef d||Nr d
abbrev Sr(d:D):Bool:=Bf d||Ef d
abbrev Vp(d:D):Bool:=Bf d||Ek d
nonrec def within:D->D->Bool
 |.tup [_,_,.int c],.int m=>decide (c+m<=16)
 |_,_=>θ
def Vh:μ D->Bool
 |[a,b]=>Fh a&&Sr b
 |_=>θ
def Rz:μ D->Bool
 |[a,b,c]=>Fh a&&Fh b&&Sr c
 |_=>θ
def Sf:μ D->Bool
 |[a]=>Fh a
 |_=>θ
def Nz:μ D->Bool
 |[a,b,c]=>Fh a&&Vp b&&Ld c
 |_=>θ
def Vm:μ D->Bool
 |[a,b,c]=>Fh a&&Ek b&&Ec c&&within b c
 |_=>θ
def Va:μ D->Bool
 |[a,b,c]=>Fh a&&belowK 4 b&&isInt c
 |_=>θ
def Kb:μ D->Bool
 |[a]=>Ef a
 |_=>θ
def Dm(k:Str)(r:e!):Bool:=
 if k="put" then Vh r else if k="move" then Rz r else if k="drop" then Sf r else if k="write" then Nz r else if k="cut" then Vm r
 else if k="set" then Va r else if k="undo" then Kb r else if k="redo" then Kb r else θ
def Gm:D->Bool
 |.tup (.str k::r)=>Dm k r
 |_=>θ
def bA{n:δ}{k:Str}(hk:D2_ et! k=AW! fs){b:Bool}(hp:Dv! r=ψ V_)(G:b=θ\/k≠"cut"):
  Cg t [.tup gp_]=ψ V_:=by
 let h0:¬(eC!+1=0):=by omega
 let he:Be (.int ji_) a8_=ψ aK!:=by simp[Be,Bm,dep,Dl,h0]
 let hs:Ak (.tup gp_) X_ υ=AW! r:=oV _ _;cases b with
 |false=>push_cast[Cg,Cv,he,Uj,hk,Sc,hp,oV]
 |true=>
  let UU:k≠"cut":=by simpa using G
  push_cast[Cg,Cv,he,Uj,hk,Sc,hp,oV,UU]
def c1j{z m:Int}(hk:D2_ et! ("cut":Str)=AW! fs)(hp:Dv! [a,xr!,.int m]=ψ ae_):
  Cg t [.tup [jj_,a,xr!,.int m]]=GV_ (z+m<=16):=by
 let he:Be iy_ a8_=ψ aK!:=by simp[Be,Bm,dep,Dl]
 push_cast[Cg,Cv,he,Uj,hk,Sc,hp,oV]
protected def d1o{n:δ}(nd:t.nd)(hn:n<=40)(h:ba_):Cg t [d]=Hs_ Gm:=by
 let#[mi,vt,ZI,ZJ,ZK,ZL,ZM,ZN,UV]:=d1g nd
 match d,h with
 |.non,h=>push_cast[Cg,Cv,Gm]
 |.bl _,h=>push_cast[Cg,Cv,Gm]
 |.int _,h=>push_cast[Cg,Cv,Gm]
 |.str _,h=>push_cast[Cg,Cv,Gm]
 |.lst _,h=>push_cast[Cg,Cv,Gm]
 |.fn _,h=>cases n<;>simp[Ct]at h
 |.dk _,h=>cases n<;>simp[Ct]at h
 |.tup [],h=>
  let he:Be a8_ a8_=ψ ae_:=by simp[Be,Bm,dep,Dl]
  push_cast[Cg,Cv,Gm,he]
 |.tup (x::r),h=>
  let#[m,rfl,hm]:=tM h;let hr:∀y∈r,Ct Bk m y=true:=λy hy=>hm y dj_;let hx:=hm x EY;let h0:¬(eC!+1=0):=by omega
  let he:Be (.int ji_) a8_=ψ aK!:=by simp[Be,Bm,dep,Dl,h0]
  let qj:m<=40:=by omega
  match x,hx with
  |.non,_=>push_cast[Cg,Cv,Gm,he]
  |.bl _,_=>push_cast[Cg,Cv,Gm,he]
  |.int _,_=>push_cast[Cg,Cv,Gm,he]
  |.tup _,_=>push_cast[Cg,Cv,Gm,he]
  |.lst _,_=>push_cast[Cg,Cv,Gm,he]
  |.fn _,h=>cases m<;>simp[Ct]at h
  |.dk _,h=>cases m<;>simp[Ct]at h
  |.str k,_=>
   show _=CF! (Dm k r);delta Dm;split
   .show"!3"
    match r,hr with
    |[a,b],hr=>
     let hp:=gX (t:=t) [eC_,(t.A3,b,Sr b)] (by
      intro c hc;simp at hc;obtain rfl|rfl:=hc
      .exact dw!
      .exact xt_) c_
     let:=bA (n:=0) (k:="put") (fs:=f3!) χ hp dw_;simpa[Vh,JD]using this
    |[],hr=>exact bA (n:=0) (k:="put") (fs:=f3!) χ M_ q_
    |[a],hr=>exact bA (n:=0) (k:="put") (fs:=f3!) χ M_ q_
    |a::b::c::r,hr=>exact bA (n:=0) (k:="put") (fs:=f3!) χ M_ q_
   split
   .show"!3"
    match r,hr with
    |[a,b,c],hr=>
     let hp:=gX (t:=t) [eC_,(t.A0,b,Fh b),(t.A3,c,Sr c)] (by
      intro c hc;simp at hc;obtain rfl|rfl|rfl:=hc
      .exact dw!
      .exact dw!
      .exact xt_) c_
     let:=bA (n:=0) (k:=eD!) (fs:=er_) χ hp dw_;simpa[Rz,JD]using this
    |[],hr=>exact bA (n:=0) (k:=eD!) (fs:=er_) χ M_ q_
    |[a],hr=>exact bA (n:=0) (k:=eD!) (fs:=er_) χ M_ q_
    |[a,b],hr=>exact bA (n:=0) (k:=eD!) (fs:=er_) χ M_ q_
    |a::b::c::d::r,hr=>exact bA (n:=0) (k:=eD!) (fs:=er_) χ M_ q_
   split
   .show"!3"
    match r,hr with
    |[a],hr=>
     let hp:=gX (t:=t) [eC_] (by
      show"!|"
      .exact dw!) c_
     let:=bA (n:=0) (k:="drop") (fs:=[bG!]) χ hp dw_;simpa[Sf,JD]using this
    |[],hr=>exact bA (n:=0) (k:="drop") (fs:=[bG!]) χ M_ q_
    |a::b::r,hr=>exact bA (n:=0) (k:="drop") (fs:=[bG!]) χ M_ q_
   split
   .show"!3"
    match r,hr with
    |[a,b,c],hr=>
     let hp:=gX (t:=t) [eC_,(t.A4,b,Vp b),(t.A5,c,Ld c)] (by
      intro c hc;simp at hc;obtain rfl|rfl|rfl:=hc
      .exact dw!
      .exact E2_ ZI c1a
      .exact E2_ ZJ d1m) c_
     let:=bA (n:=0) (k:=eD_) (fs:=es!) χ hp dw_;simpa[Nz,JD]using this
    |[],hr=>exact bA (n:=0) (k:=eD_) (fs:=es!) χ M_ q_
    |[a],hr=>exact bA (n:=0) (k:=eD_) (fs:=es!) χ M_ q_
    |[a,b],hr=>exact bA (n:=0) (k:=eD_) (fs:=es!) χ M_ q_
    |a::b::c::d::r,hr=>exact bA (n:=0) (k:=eD_) (fs:=es!) χ M_ q_
   split
   .show"!3"
    match r,hr with
    |[a,b,c],hr=>
     let hp:=gX (t:=t) [eC_,(t.A6,b,Ek b),(t.A7,c,Ec c)] (by
      intro c hc;simp at hc;obtain rfl|rfl|rfl:=hc
      .exact dw!
      .exact E2_ ZK rL
      .exact E2_ ZL a0n) c_
     cases hq:(Fh a&&Ek b&&Ec c)with
     |false=>
      let cr:De t xu_=ψ aK!:=by rw[<-hq];simpa[JD]using hp
      let:=bA (n:=0) (k:="cut") (fs:=cE!) χ cr q_;rw[this];show _=CF! (Fh a&&Ek b&&Ec c&&within b c);rw[hq];rfl
     |true=>
      let cr:De t xu_=ψ ae_:=by rw[<-hq];simpa[JD]using hp
      simp![FB]at hq;let#[#[q1,q2],q3]:=hq;obtain⟨x,y,z,rfl,qz⟩:∃x y z,b=.tup [x,y,z]/\F8_ z=true:=by
       delta Ek at q2;split at q2
       .simp at q2;exact#[_,_,_,χ,q2.2]
       .cases q2
      obtain⟨z,rfl⟩:∃i,z=.int i:=by cases z<;>simp[belowK]at qz;exact P!
      obtain⟨m',rfl⟩:∃i,c=.int i:=by cases c<;>simp[Ec]at q3;exact P!
      let:=c1j (fs:=cE!) χ cr;rw[this];simp[Vm,q1,q2,q3,within]
    |[],hr=>exact bA (n:=0) (k:="cut") (fs:=cE!) χ M_ q_
    |[a],hr=>exact bA (n:=0) (k:="cut") (fs:=cE!) χ M_ q_
    |[a,b],hr=>exact bA (n:=0) (k:="cut") (fs:=cE!) χ M_ q_
    |a::b::c::d::r,hr=>exact bA (n:=0) (k:="cut") (fs:=cE!) χ M_ q_
   split
   .show"!3"
    match r,hr with
    |[a,b,c],hr=>
     let hp:=gX (t:=t) [eC_,(t.A8,b,belowK 4 b),(t.A9,c,isInt c)] (by
      intro c hc;simp at hc;obtain rfl|rfl|rfl:=hc
      .exact dw!
      .exact E2_ ZM c6t
      .exact E2_ ZN a0m) c_
     let:=bA (n:=0) (k:="set") (fs:=es_) χ hp dw_;simpa[Va,JD]using this
    |[],hr=>exact bA (n:=0) (k:="set") (fs:=es_) χ M_ q_
    |[a],hr=>exact bA (n:=0) (k:="set") (fs:=es_) χ M_ q_
    |[a,b],hr=>exact bA (n:=0) (k:="set") (fs:=es_) χ M_ q_
    |a::b::c::d::r,hr=>exact bA (n:=0) (k:="set") (fs:=es_) χ M_ q_
   split
   .show"!3"
    match r,hr with
    |[a],hr=>
     let hp:=gX (t:=t) xv! (by
      show"!|"
      .exact xv_) c_
     let:=bA (n:=0) (k:="undo") (fs:=cE_) χ hp dw_;simpa[Kb,JD]using this
    |[],hr=>exact bA (n:=0) (k:="undo") (fs:=cE_) χ M_ q_
    |a::b::r,hr=>exact bA (n:=0) (k:="undo") (fs:=cE_) χ M_ q_
   split
   .show"!3"
    match r,hr with
    |[a],hr=>
     let hp:=gX (t:=t) xv! (by
      show"!|"
      .exact xv_) c_
     let:=bA (n:=0) (k:="redo") (fs:=cE_) χ hp dw_;simpa[Kb,JD]using this
    |[],hr=>exact bA (n:=0) (k:="redo") (fs:=cE_) χ M_ q_
    |a::b::r,hr=>exact bA (n:=0) (k:="redo") (fs:=cE_) χ M_ q_
   rename_i n1 n2 n3 n4 n5 n6 n7 n8;let hl:D2_ et! k=none:=by
    simp![Ew,List.lookup,Dk! n1,Dk! n2,Dk! n3,Dk! n4,Dk! n5,Dk! n6,Dk! n7,Dk! n8]
   push_cast[Cg,Cv,he,Uj,hl]
variable{t:Ck}
def d4t{n:δ}(nd:t.nd)(hn:n<=30)(ha:Ct Bk n a=τ)(G:Ct Bk n b=τ)(hc:Ct Bk n c=τ)(hd:ba_):
  Cd t [.tup kI_]=rJ! xx!:=by
 let kj:Ct Bk bq! (.tup ac_)=true:=by simp[Ct,ha,G]
 push_cast[Cd,Ji,qE kj,a0n hc,d1o nd a! hd,Ef]
 cases belowK 16 a<;>cases Ec b<;>cases Ec c<;>simp
def oR(a b:Str):DZ_ Dl=c0_:=by delta Dl;rfl
def b1c(a b:Int):F9! Dl=c0_:=by delta Dl;rfl
def a5f(s:Str):∀xs:List Str,xy!=xs.any (·==s)
 |[]=>rfl
 |x::xs=>by rw[FI,IP,IP,a5f s xs,oR]
def c6a(s:Str)(xs:l!):Ui θ cJ! (.tup jl!)=ψ (.bl (xs.any (·==s))):=by
 let h:(jl!).all Io=true:=by simp[IM,Io]
 show(if Io cJ!&&(jl!).all Io then ψ (D.bl xy!)else υ)=_;rw[h,a5f];rfl
def rD:(GF_ "put")=false:=by decide+kernel
def rE:(GG! "put")=false:=by decide+kernel
def oB:(Gu_ "put")=false:=by decide+kernel
def mK:(GP! "put")=false:=by decide+kernel
def uC:(GP_ "put")=false:=by decide+kernel
def rB:(GG_ "put")=false:=by decide+kernel
def rC:(GH! "put")=false:=by decide+kernel
def rG:(GQ! "move")=false:=by decide+kernel
def oG:(GG! "move")=false:=by decide+kernel
def mD:(Gu_ "move")=false:=by decide+kernel
def kG:(GP! "move")=false:=by decide+kernel
def rF:(GP_ "move")=false:=by decide+kernel
def oE:(GG_ "move")=false:=by decide+kernel
def oF:(GH! "move")=false:=by decide+kernel
def rJ:(GQ! "drop")=false:=by decide+kernel
def oK:(GF_ "drop")=false:=by decide+kernel
def mE:(Gu_ "drop")=false:=by decide+kernel
def kH:(GP! "drop")=false:=by decide+kernel
def rH:(GP_ "drop")=false:=by decide+kernel
def oH:(GG_ "drop")=false:=by decide+kernel
def oJ:(GH! "drop")=false:=by decide+kernel
def nT:(Gv! "put")=false:=by decide+kernel
def lX:(Gv! "move")=false:=by decide+kernel
def lY:(Gv! "drop")=false:=by decide+kernel
def iW:(Gv! "cut")=false:=by decide+kernel
def nS:(Gv! "set")=false:=by decide+kernel
def lV:(Gv! "undo")=false:=by decide+kernel
def lW:(Gv! "redo")=false:=by decide+kernel
def mM:(GQ! "cut")=false:=by decide+kernel
def kK:(GF_ "cut")=false:=by decide+kernel
def kL:(GG! "cut")=false:=by decide+kernel
def iX:(Gu_ "cut")=false:=by decide+kernel
def mL:(GP_ "cut")=false:=by decide+kernel
def kI:(GG_ "cut")=false:=by decide+kernel
def kJ:(GH! "cut")=false:=by decide+kernel
def uB:(GQ! "set")=false:=by decide+kernel
def qX:(GF_ "set")=false:=by decide+kernel
def qY:(GG! "set")=false:=by decide+kernel
def nX:(Gu_ "set")=false:=by decide+kernel
def mJ:(GP! "set")=false:=by decide+kernel
def qV:(GG_ "set")=false:=by decide+kernel
def qW:(GH! "set")=false:=by decide+kernel
def qU:(GQ! "undo")=false:=by decide+kernel
def nV:(GF_ "undo")=false:=by decide+kernel
def nW:(GG! "undo")=false:=by decide+kernel
def lZ:(Gu_ "undo")=false:=by decide+kernel
def kE:(GP! "undo")=false:=by decide+kernel
def qT:(GP_ "undo")=false:=by decide+kernel
def nU:(GH! "undo")=false:=by decide+kernel
def rA:(GQ! "redo")=false:=by decide+kernel
def nZ:(GF_ "redo")=false:=by decide+kernel
def oA:(GG! "redo")=false:=by decide+kernel
def mB:(Gu_ "redo")=false:=by decide+kernel
def kF:(GP! "redo")=false:=by decide+kernel
def qZ:(GP_ "redo")=false:=by decide+kernel
def nY:(GG_ "redo")=false:=by decide+kernel
def dZ(a b:Str):DZ_ Be=ψ n9!:=by simp[Be,Bm,dep,oR]
def in2(k a b:Str):Ui θ jm! (.tup [.str a,.str b])=ψ (.bl (a==k||b==k)):=by let:=c6a k ac_;simpa only[FI,LL,IP,List.any_nil,OG]using this
def cZ(a b:Int):F9! Be=ψ n9!:=by simp[Be,Bm,dep,b1c]
abbrev Hl(ns:B_):D:=.lst mN_
def a1f{α:Type}{xs:A_}{i:Int}(h0:0<=i)(O:i<h!):∃x,Da xs i=ψ x/\x∈xs:=by exact#[xs[i.toNat]' a!,?_,IV _];delta Da Dd;rw[FE h0,FE O];simp
def c7j(ns:B_)(k:Int):∃c,Mc [Hl ns,b7!]=uY_ c:=by
 cases ns with
 |nil=>exact#[0,by push_cast[Mc,Qy,Hl,Lc]]
 |cons n r=>
  let hp:(0:Int)<eC!+1:=by omega
  let#[x,e,hx]:=a1f (xs:=xC_) (i:=k%ji_) (IK _ a!) (by simpa using HM k hp);let#[c,_,rfl]:=GJ.mp hx;exact#[c,?_];let e':C2_ xC_ (k%ji_)=uY_ c:=e;simp![FI]at e';simp[Mc,Qy,Hl,Bh,Ar,Al,Cn,Bb,Aa,Lc,f2,f1,Ab,Ad,Bi,As,Bu,hp,e']
def hV(ns:B_){k:Int}:∃m,Az [Hl ns,b7!]=ψ jn_/\0<=m/\m<4294967231:=by let#[c,hc]:=c7j ns k;exact#[_,by push_cast[Az,Vg,hc,Ry];rfl,IK _ a_,HM _ a_]
def iO{n:Int}(h:xs≠[]):∃x,Ed [.lst xs,a4_]=ψ x/\x∈xs:=by
 let hl:0<h!:=LV.mpr h;let hp:(0:Int)<id_:=by omega
 let#[x,e,hx]:=a1f (xs:=xs) (i:=n%id_) (IK _ a!) (HM n hp);exact#[x,?_,hx];let e':Ao af! (.int (n%id_))=ψ x:=e;simp[Ed,Tt,Bh,Ar,Aa,f2,f1,Ab,Ad,Bi,As,Bu,hp,e',hl]
def nQ{bnd:ac!}{q:aD_}(P:xD_):∀(ds:e!) (i:δ) (ρ:Ac),P i ρ->
  (∀(j:δ) (d:D) (ρ:Ac),ds[j]?=ψ d->P (i+j) ρ->∃a9 br,bnd d ρ=ψ a9/\q a9=DT_ br/\P (i+j+1) br)->
  ∃ρ',Gh bnd q ds ρ=ψ eU_/\P (i+e_) ρ'
 |[],i,ρ,h,_=>#[ρ,χ,h]
 |d::ds,i,ρ,h,hs=>by
  let#[a9,br,e1,e2,h2]:=hs 0 d ρ χ h;let#[ρ',e3,h3]:=nQ P ds u_ br h2 λj d ρ hd hp=>by
   let:=hs (j+1) d ρ (AM! hd) xF_;rw[xG!]at this;exact this
  exact#[ρ',?_,by rw[FN,xG_];exact h3];simp[Gh,e1,e2,e3]
def kX{bnd:ac!}{ft:Q_}{fe:g_}{ρ:Ac}(R:D->ν):∀(ds:e!),(∀d∈ds,∃a9 b,bnd d ρ=ψ a9/\ft a9=ψ b/\(b=τ->∃y,fe a9=ψ y/\R y))->
  ∃ys,Ce_ ρ=ψ ys/\H_<=e_/\∀y∈ys,R y
 |[],_=>#[[],χ,FF _,λy hy=>by cases hy]
 |d::ds,h=>by
  let#[a9,b,e1,e2,hy]:=h d EY;let#[ys,e3,hl,hr]:=kX R ds λx hx=>h x b5!
  cases b with
  |false=>exact#[ys,by simp[Cp,e1,e2,e3],a0!,hr]
  |true=>
   let#[y,e4,r4]:=hy χ;exact#[y::ys,by simp[Cp,e1,e2,e3,e4],a0!,ks!];obtain rfl|hz:=FD.mp hz
   .exact r4
   .exact hr z hz
def rP{bnd:ac!}{fe:g_}{ρ:Ac}:∀{ds ys:e!},Cp bnd D_ fe ρ ds=ψ ys->H_=e_
 |[],ys,e=>by cases e;rfl
 |d::ds,ys,e=>by
  delta Cp at e;let#[a9,e1,e]:=ET.mp e;simp![GX,IB]at e;let#[y,e3,e]:=ET.mp e;let#[zs,e4,rfl]:=EZ.mp e;simp[rP e4]
abbrev B0:Nat:=2000
def Hg(x:D):Prop:=∃a b,x=.tup jo!/\0<=a/\a<16/\1<=b/\b<=2000
def Fx(x:D):Prop:=x=.str "root"\/x=.str "bin"\/Hg x
def Pz(x:D):Prop:=x=.non\/Hg x
def Ub(x:D):Prop:=∃a b c,x=.tup gr!/\0<=a/\a<16/\1<=b/\b<=2000/\0<=c/\c<=15
def Mi(x:D):Prop:=x=.non\/Ub x
inductive DG:D->Prop
 |put {a b:D}:Fx a->Pz b->Cu_ [gr_,a,b]
 |move {a b c:D}:Fx a->Fx b->Pz c->Cu_ [jo_,a,b,c]
 |drop {a:D}:Fx a->Cu_ [jp!,a]
 |write {a b:D} {s:Str}:Fx a->Mi b->Lr s=τ->1<=E!->E!<=16->Cu_ xI_
 |cut {a:D} {x y z m:Int}:Fx a->Ub (.tup xJ!)->1<=m->z+m<=16->Cu_ [jj_,a,.tup xJ!,.int m]
 |set {a:D} {p n:Int}:Fx a->0<=p->p<=3->gs!<10 ^ 60->Cu_ [oa_,a,.int p,a4_]
 |undo {a:D}:Hg a->Cu_ [ob!,a]
 |redo {a:D}:Hg a->Cu_ [ob_,a]
def Um(o:D):Prop:=∃h n tm d,o=.tup oc!/\0<=h/\h<16/\1<=n/\n<=2000/\DG d
def a4q(h:DG d):∃k r,d=.tup gp_/\(k="write"->∃a b s,r=[a,b,.str s]/\E!<=16):=by
 cases h with
 |write _ _ _ _ h5=>exact#[_,_,χ,λ_=>#[_,_,_,χ,h5]]
 |_=>exact#[_,_,χ,λz=>ξ z d!]
def b9z{ops:e!}(h:jq!)(hl:jq_):∃its,Jq [.lst ops]=ψ od_/\3<=fL_/\fL_<=200/\∀x∈its,Fx x:=by
 let#[ys,e,l,hr]:=kX (ρ:=X!) (bnd:=Bj 0) (ft:=fT nC_) (fe:=Ay iP_)
  (oe!) ops (by
   intro o ho;let#[h',n,tm,d,rfl,b1,b2,b3,b4,hd]:=h o ho;let#[k,r,rfl,_]:=a4q hd;exact#[_,_,χ,by push_cast[dZ];rfl,xK_])
 let hc:E2! 1 [as!]=ψ ap_:=by
  show oe_;rw[bI!,e];rfl
 let a1:Ag (.lst [.str "root"]) ap_=ψ xM_:=by
  show(Dz_ 1 ([.str "root"]++ys))=_;rw[bI!];rfl
 let a2:Ff! xM_ jr_=qX_ (.str "root"::(ys++jr_)):=by
  show(if H_+1+2<=big then ψ (D.lst (.str "root"::ys++jr_))else υ)=_;rw[bI!];rfl
 exact#[.str "root"::(ys++jr_),by simp[Jq,Rw,Bh,Ar,f2,fC,hc,a1,a2],G_,a0!,bX!];simp at hx;obtain rfl|hx|rfl|rfl:=hx
 .exact dR_
 .exact Bb_ (hr x hx)
 .exact .inr q_
 .exact Bb_ #[9,9,χ,J!,J!,J!,J!]
def b6i{ops:e!}(h:jq!)(hl:jq_):∃ss,Jp [.lst ops]=qX_ ss/\ss≠[]/\∀x∈ss,Mi x:=by
 let -nondep P:δ->Ac->Prop:=λi ρ=>∃cf x y,ρ=[as!,of_,x,y]/\cf≠[]/\og!<=2+16*i/\∀z∈cf,Mi z
 let#[ρ',e,cf,x,y,rfl,f0,_,hf]:=nQ (bnd:=En 2) (q:=Cn vO! vR_ Bb)
  P ops 0 [as!,qX_ [.non,.tup [.int 9,.int 9,.int 3]],υ,υ] ⟨_,_,_,χ,by simp,by simp,by
   intro z hz;simp at hz;obtain rfl|rfl:=hz
   .exact dR_
   .exact .inr #[9,9,3,χ,J!,J!,J!,J!,J!,J!]⟩ (by
  rintro j d ρ hd ⟨cf,x,y,rfl,f0,fl,hf⟩;let hj:j<od!:=(FO.mp hd).1;let#[h',n,tm,d',rfl,b1,b2,b3,b4,ZO]:=h d (JE hd);let#[k,r,rfl,hw]:=a4q ZO;by_cases hk:k="write"
  .subst hk;let#[a,b,s,rfl,s16]:=hw χ;let ZP:E!<=big:=by delta big;omega
   let -nondep P2:δ->Ac->Prop:=λi ρ=>∃cf y,ρ=xQ!/\cf≠[]/\og!<=2+16*(0+j)+i/\∀z∈cf,Mi z
   let#[br,e2,UW,y2,rfl,ZQ,ZR,yu]:=nQ (bnd:=En 3) (q:=Mp 1 vQ_) P2 (Cw E!) 0
    (xQ!) #[cf,y,χ,f0,fl,hf] (by
     rintro i d ρ hd ⟨cf,y,rfl,f0,fl,hf⟩;delta Cw at hd;rw[GF]at hd;let#[i',ip,rfl]:=EZ.mp hd;let#[ax,he]:=FO.mp ip;rw[OD]at he;subst he;rw[IQ]at ax;let G:og!<big:=by delta big;omega
     exact#[_,_,χ,by push_cast[Mp,G];rfl,cf++[.tup [.int h',a4_,.int (i:δ)]],_,χ,G_,a0!,ks!];obtain hz|hz:=FL.mp hz
     .exact hf z hz
     .simp at hz;subst hz;exact .inr #[_,_,_,χ,b1,b2,b3,b4,n!,n!])
   let hr:-1000<=jh!/\jh!<=100000:=by omega
   exact#[_,[as!,ψ (.lst UW),xP_,y2],χ,by push_cast[dZ,Nl,Fv,ZP,hr,e2],UW,_,_,χ,ZQ,?_,yu];simp[Cw]at ZR;omega
  .exact#[_,[as!,of_,ψ (EL! gp_),y],χ,by push_cast[dZ,hk],cf,_,_,χ,f0,n!,hf])
 exact#[cf,?_,f0,hf];simp[Jp,Rv,Om,Bh,Al,Ab,Ad,fC,Nl,Ej,Aa,Ar,e]
abbrev letters:Str:=" abcXYZ.,;!019~[]\\\"'|{}<>@#$&*()-+/=_^:?`"
def qR:og_=41:=by decide+kernel
def a7j:letters.cps.toList.all El=true:=by decide+kernel
def b4w:(js_).cps=#[]:=by decide+kernel
def b4v:(js_).length=0:=by decide+kernel
def Oz(c:δ):D:=.str L!
def a1s:∀(xs:e!),(∀x∈xs,∃c,x=Oz c/\El c=τ)->∃cs:List Nat,xs=cs.map Oz/\cs.all El=τ
 |[],_=>#[[],χ,χ]
 |x::xs,h=>by
  let#[c,rfl,hc]:=h x EY;let#[cs,rfl,qr]:=a1s xs λy hy=>h y dj_
  exact#[c::cs,χ,by simp![JI,hc,qr,JB]]
def vW:∀(cs:b!),Mw oh!=ψ jt!
 |[]=>rfl
 |c::cs=>by simp![FI,Oz,Mw];rw[show List.map Oz cs=List.map Oz cs from χ,vW cs];rfl
def a4j:∀(cs:b!) (av:m0!),Dz! jt! js_=av++cs.toArray
 |[],av=>by simp
 |c::cs,av=>by
  rw[FI,List.foldl_cons,a4j cs,b4w];simp
def b9y(cs:b!):Txt.join js_ jt!=oh_:=by
 delta Txt.join Builtin.Str.glued;cases cs with
 |nil=>rfl
 |cons c cs=>
  show"#7";rw[a4j];simp
def a8m:∀(cs:b!),((jt!).map (·.length)).sum=a8!
 |[]=>rfl
 |c::cs=>by
  let ih:=a8m cs;simp![FI,MZ,FN];rw[ih];show 1+a8!=_;omega
def c2p{n most:Int}(O:1<=most)(h16:most<=16):∃s,Mb [a4_,.int most]=ψ cJ!/\Lr s=τ/\1<=E!/\E!<=16:=by
 let hm0:0<=n%most:=IK _ a!;let UX:n%most<most:=HM _ a!;obtain⟨N,hN⟩:∃N:Nat,(N:Int)=1+n%most:=#[(1+n%most).toNat,n!];let hN1:1<=N:=by omega
 let hN2:N<=16:=by omega
 let#[ys,e,l,hr]:=kX (ρ:=xS_) (bnd:=Bj 0) (ft:=oi!) (fe:=f2 Ao ab_ vT!)
  (λy=>∃c,y=Oz c/\El c=τ) eG_ (by
   intro d hd;delta Cw at hd;let#[i,hi,rfl]:=GJ.mp hd;let ip:=JN.mp hi;let z1:(0:Int)<1+3*(i:Int):=by omega
   let z2:1+3*(i:Int)<1073741824:=by omega
   let az:og_<=big:=by rw[qR];decide
   let hsz:((xS!:δ):Int)=41:=by
    let:xS!=41:=by rw[<-qR];simp[Str.length]
    omega
   let#[c,ec,hc]:=a1f (xs:=letters.cps.toList) (i:=n / (1+3*(i:Int))%41) (IK _ a_) (by rw[hsz];exact HM _ a_);let gk:Ao l4_ (.int (n / (1+3*(i:Int))%41))=ψ (Oz c):=by
    show(if og_<=big then(Da letters.cps.toList _).map _ else υ)=_;rw[FE az,ec];rfl
   exact#[_,τ,χ,χ,λ_=>#[Oz c,?_,c,χ,IM.mp a7j c hc]];simp[Bj,f2,Aa,fC,Ag,Br,Bu,Ry,Aw,As,z1,z2,gk])
 let l2:=rP e;let#[cs,rfl,qr]:=a1s ys hr;let b9:a8!=N:=by simpa[Cw]using l2
 let ZS:-1000<=(N:Int)/\(N:Int)<=100000:=by omega
 let hc:EK_ 1 xV_=qX_ oh!:=by
  let hi:Fv nG! xV_=ψ eG_:=by
   simp[Fv,f2,fC,Aa,As,Bu,show 0<most by omega,Ag,<-hN,ZS]
  delta Cs;rw[hi];show(AO_ eG_ (GZ! xS_ eG_))=_;rw[FE (by simp[Cw,big];omega),e];rfl
 let hj:Ng nF_ (.lst oh!)=Ce! oh_:=by
  delta Ng;simp![vW,GX,a8m,EX,b4v,Nat.mul_zero,Nat.add_zero,b9y];rw[bI!]
 exact#[oh_,?_,?_,?_,?_]
 .simp[Mb,Ts,Bh,Al,Bg,fC,Ar,Nh,hc,hj]
 .simp only[Lr,Str.length,FG,qr,Bool.and_true,FV];omega
 .simp only[Str.length,FG];omega
 .simp only[Str.length,FG];omega
def EO:Ac->ι Fl:=vU!
def EN:Ac->ι Fl:=vU_
def EL:Ac->ι Fl:=vV!
def EJ:Ac->ι Fl:=vW_
def DY:Ac->ι Fl:=vX_
def EI:Ac->ι Fl:=vZ!
def EH:Ac->ι Fl:=vZ_
def Wg:Ac->ι Fl:=v0!
def Wf:Ac->ι Fl:=v1!
def We:Ac->ι Fl:=v1_
def Pv:Ac->ι Fl:=v2!
def Pt:Ac->ι Fl:=v3!
def Ps:Ac->ι Fl:=v6!
def Pr:Ac->ι Fl:=v7_
def Pq:Ac->ι Fl:=v8_
def Pp:Ac->ι Fl:=wa!
def Ut:Ac->ι Fl:=(Al Wg (Al Wf (Al We (Al Pv (Al Pt (Al Ps (Al Pr (Al Pq Pp))))))))
def b2t:Nu=(Al EO (Al EN (Al EL (Al EJ (Al DY (Al EI (Al EH Ut))))))):=χ
def dC{q1 q2:aD_}{ρ ρ':Ac}(h:q1 ρ=ψ eU_):Al q1 q2 ρ=q2 ρ':=by simp[Al,h]
def fG{f:g_}{ρ:Ac}{i:δ}(h:aX_):Bg i f ρ=ψ gW_:=by simp[Bg,h]
abbrev Lx:μ D:=[gr_,gr_,gr_,jo_,jo_,jp_,jp_,jj_,oa_,ob!,ob_,jp!]
def KindOk(k:Str):Prop:=k="put"\/k="move"\/k="write"\/k="cut"\/k="set"\/k="undo"\/k="redo"\/k="drop"
def a4y{α:Type}{xs:A_}{lo hi:T_}{x:α}(h:xZ!):x∈xs:=NN xZ_
def Oy:D->D
 |.str _=>.non
 |d=>d
def a4b(h:Fx d\/d=.non):(Bz "str" d=ψ τ/\Oy d=.non)\/(Bz "str" d=ψ θ/\Oy d=d/\Pz d):=by
 rcases h with(rfl|rfl|⟨a,b,rfl,h⟩)|rfl
 .exact .inl aa_
 .exact .inl aa_
 .exact .inr #[χ,χ,.inr #[a,b,χ,h]]
 .exact .inr (Fv_ dR_)
def d1s(ns:B_){base most:Int}{ops:e!}(h:jq!)(hl:jq_):∃m0 its item nz k,0<=m0/\its≠[]/\(∀x∈its,Fx x)/\Fx item/\Pz nz/\KindOk k/\
  Nu x1_=Ut x2_:=by
 let#[m0,e0,p0,_]:=hV ns (k:=base);let#[m1,e1,_,_]:=hV ns (k:=base+1);let#[m2,e2,_,_]:=hV ns (k:=base+2);let#[its,ei,i3,i200,qk]:=b9z h hl;let xo:its≠[]:=by intro z;subst z;simp at i3
 let rl:x3!≠[]:=by
  intro z;let z2:=G3! z;simp[cutL,HT.sIx]at z2;omega
 let b9:(x4!).length+(x4_).length<=big:=by
  simp[cutL,HT.sIx,big];omega
 let#[item,ep,mp]:=iO (n:=m1) rl;let oa:Fx item:=by
  obtain z|z:=FL.mp mp
  .exact qk _ (a4y z)
  .exact qk _ (a4y z)
 let a1:Ff! (.lst x4!) x4_=qX_ x3!:=by
  show(if _<=big then _ else υ)=_;rw[FE b9]
 let a2:Ff! od_ iQ_=qX_ (its++iQ_):=by
  show(if fL_+2<=big then _ else υ)=_;rw[bI!]
 let#[db,eo,mo]:=iO (n:=m2) (xs:=its++iQ_) c_;let vw:Fx db\/db=.non:=by
  obtain z|z:=FL.mp mo
  .exact .inl (qk _ z)
  .simp at z;exact .inr z
 let ju:Pz (Oy db):=by
  obtain⟨_,z⟩|⟨_,z,y⟩:=a4b vw
  .rw[z];exact .inl χ
  .rw[z];exact y
 let#[kd,ek,mk]:=a1f (xs:=Lx) (i:=m0%12) (IK _ a_) (by show _<(12:Int);exact HM _ a_);obtain⟨k,rfl,hk⟩:∃k,kd=.str k/\KindOk k:=by
  simp[Lx]at mk;delta KindOk;obtain rfl|rfl|rfl|rfl|rfl|rfl|rfl|rfl:=mk<;>exact D9! G_
 let ZT:C2_ Lx (m0%12)=ψ jm!:=ek;exact#[m0,its,item,Oy db,k,p0,xo,qk,oa,ju,hk,?_];rw[b2t];rw[dC (ρ':=[R_,am!,as!,bb!,bI_,υ,υ,υ,υ,υ,υ,υ]) (E3! e0)];rw[dC (ρ':=[R_,am!,as!,bb!,bI_,b7_,υ,υ,υ,υ,υ,υ]) (E3! ei)];rw[dC (ρ':=[R_,am!,as!,bb!,bI_,b7_,cL_,υ,υ,υ,υ,υ]) (fG (by
  let b1:Ag dz! bF!=ψ om!:=χ;simp[f1,Ab,Aa,Ad,f2,Ci,Ak,Ah,Ai,fC,a1,b1,e1,ep]))]
 rw[dC (ρ':=[R_,am!,as!,bb!,bI_,b7_,cL_,ψ db,υ,υ,υ,υ]) (fG (by
  let b1:Ag dz! iv!=uY_ (base+2):=χ;simp[f1,Ab,Aa,Ad,f2,fC,a2,b1,e2,eo]))]
 rw[dC (ρ':=[R_,am!,as!,bb!,bI_,b7_,cL_,om_,υ,υ,υ,υ]) (by
  obtain⟨z1,z2⟩|⟨z1,z2,_⟩:=a4b vw<;>simp[DY,Cn,fT,Bv,Aa,z1,z2,Bb,Bg,fC])]
 rw[dC (ρ':=[R_,am!,as!,bb!,bI_,b7_,cL_,om_,gu!,υ,υ,υ]) (fG au_)];rw[dC (ρ':=[R_,am!,as!,bb!,bI_,b7_,cL_,om_,gu!,ψ jm!,υ,υ]) (fG (by simp[f2,Aa,fC,As,Bu,ZT]))]
def c6x(ns:B_){base most:Int}{ops:e!}(h:jq!)(hl:jq_)(UX:1<=most)(ZU:most<=16):∃d,Ic ya!=ψ d/\DG d:=by
 let#[m0,its,item,nz,k,p0,xo,qk,oa,vw,hk,hA]:=d1s ns (base:=base) (most:=most) h hl;let ak:∀d,Ut x2_=ψ ai!->Ic ya!=ψ d:=λd e=>by
  delta Ic Bh;rw[cv_];show(match Nu x1_ with|some (.rt d)=>ψ d|some (.nx _)=>ψ .non|none=>υ)=_;rw[hA,e]
 clear hA;let#[m1,e1,_,_]:=hV ns (k:=base+1);let#[m3,e3,_,_]:=hV ns (k:=base+3);let#[m4,e4,_,_]:=hV ns (k:=base+4);let#[m5,e5,_,_]:=hV ns (k:=base+5);let#[p1,vx,ZV]:=iO (n:=m1) xo;let#[p3,ZW,ZX]:=iO (n:=m3) xo;let ZY:=qk _ ZV;let ZZ:=qk _ ZX;let#[ss,es,QT,Z0]:=b6i h hl;let#[sg,eg,mg]:=iO (n:=m4) QT;let UY:=Z0 _ mg;let#[tx,et,Z1,QI,Z2]:=c2p (n:=m5) UX ZU;delta KindOk at hk;obtain rfl|rfl|rfl|rfl|rfl|rfl|rfl|rfl:=hk
 .exact#[.tup [gr_,p1,nz],ak _ (by push_cast[Ut,Wg,Wf,We,Pv,Pt,Ps,Pr,Pq,Pp,Cn,dZ,in2,rD,rG,rE,rJ,oB,nT,mK,mM,uC,uB,rB,qU,rC,rA,e1,vx]),.put ZY vw]
 .exact#[.tup [jo_,item,p3,nz],ak _ (by push_cast[Ut,Wg,Wf,We,Pv,Pt,Ps,Pr,Pq,Pp,Cn,dZ,in2,rG,rD,oG,oK,mD,lX,kG,kK,rF,qX,oE,nV,oF,nZ,e3,ZW]),.move oa ZZ vw]
 .exact#[.tup [jp_,item,sg,.str tx],ak _ (by push_cast[Ut,Wg,Wf,We,Pv,Pt,Ps,Pr,Pq,Pp,Cn,dZ,in2,nT,oB,lX,mD,lY,mE,iW,iX,nS,nX,lV,lZ,lW,mB,es,e4,eg,e5,et]),.write oa UY Z1 QI Z2]
 .
  obtain rfl|⟨a,b,c,rfl,O,h2,h3,h4,c0,Z3⟩:=UY
  .exact#[yb!,ak _ (by push_cast[Ut,Wg,Wf,We,Pv,Pt,Ps,Pr,Pq,Pp,Cn,dZ,in2,mM,mK,kK,kG,kL,kH,iX,iW,mL,mJ,kI,kE,kJ,kF,es,e4,eg]),yb_]
  .let hc:0<16 - c:=by omega
   let gh:c<16:=by omega
   let q1:0<=m0 / 12%(16 - c):=IK _ a!;let q2:m0 / 12%(16 - c)<16 - c:=HM _ hc;exact#[.tup [jj_,item,.tup gr!,.int (1+m0 / 12%(16 - c))],ak _ (by push_cast[Ut,Wg,Wf,We,Pv,Pt,Ps,Pr,Pq,Pp,Cn,dZ,in2,mM,mK,kK,kG,kL,kH,iX,iW,mL,mJ,kI,kE,kJ,kF,es,e4,eg,hc,gh]),.cut oa #[a,b,c,χ,O,h2,h3,h4,c0,Z3] a! a!]
 .exact#[yb!,ak _ (by push_cast[Ut,Wg,Wf,We,Pv,Pt,Ps,Pr,Pq,Pp,Cn,dZ,in2,uB,uC,qX,rF,qY,rH,nX,nS,mJ,mL,qV,qT,qW,qZ,es,e4,eg]),yb_]
 .
  let#[ys,e,l,hr]:=kX (ρ:=X!) (bnd:=Bj 0) (ft:=oi!) (fe:=Ay iP_)
   (oe!) ops (by
    intro o ho;let#[h',n,tm,d,rfl,b1,b2,b3,b4,_]:=h o ho;exact yc!)
  let hc:AT_ gf! gd! (BQ! "undo")=ψ ap_:=by
   show oe_;rw[bI!,e];rfl
  let a1:Ff! ap_ gu_=ψ yc_:=by
   show yd!;rw[bI!]
  let#[nm,en,mn]:=iO (n:=m1) (xs:=ys++gu_) c_;let nn:Hg nm:=by
   obtain z|z:=FL.mp mn
   .exact hr _ z
   .simp at z;subst z;exact yd_
  show"!N";exact#[.tup [ob!,nm],ak _ (by simp[Ut,Wg,Wf,We,Pv,Pt,Ps,Pr,Pq,Pp,Bh,Ar,Al,Cn,Bg,Bb,Au,Bx,Bd,Bs,Cy,Bo,fT,Bv,Aa,Bz,f2,Dw,Dj,Dr,Ee,Dx,Ax,Bu,f1,Ab,Ad,Ca,fC,Cb,Ap,Bt,Br,As,Aw,Bi,Ao,Da,Dd,Ay,Bl,Ci,Ak,Ai,Ah,An,Aj,Dt,cutL,HT.sIx,List.getElem?_cons_zero,List.getElem?_cons_succ,Cn,dZ,in2,qU,rB,nV,oE,nW,oH,lZ,lV,kE,kI,qT,qV,nU,nY,es,e4,eg,e1,hc,a1,b1,b4,b5,en]),.undo nn]
 .
  let#[ys,e,l,hr]:=kX (ρ:=X!) (bnd:=Bj 0) (ft:=oi!) (fe:=Ay iP_)
   (oe!) ops (by
    intro o ho;let#[h',n,tm,d,rfl,b1,b2,b3,b4,_]:=h o ho;exact yc!)
  let hc:AT_ gf! gd! (BQ! "redo")=ψ ap_:=by
   show oe_;rw[bI!,e];rfl
  let a1:Ff! ap_ gu_=ψ yc_:=by
   show yd!;rw[bI!]
  let#[nm,en,mn]:=iO (n:=m1) (xs:=ys++gu_) c_;let nn:Hg nm:=by
   obtain z|z:=FL.mp mn
   .exact hr _ z
   .simp at z;subst z;exact yd_
  show"!N";exact#[.tup [ob_,nm],ak _ (by simp[Ut,Wg,Wf,We,Pv,Pt,Ps,Pr,Pq,Pp,Bh,Ar,Al,Cn,Bg,Bb,Au,Bx,Bd,Bs,Cy,Bo,fT,Bv,Aa,Bz,f2,Dw,Dj,Dr,Ee,Dx,Ax,Bu,f1,Ab,Ad,Ca,fC,Cb,Ap,Bt,Br,As,Aw,Bi,Ao,Da,Dd,Ay,Bl,Ci,Ak,Ai,Ah,An,Aj,Dt,cutL,HT.sIx,List.getElem?_cons_zero,List.getElem?_cons_succ,Cn,dZ,in2,rA,rC,nZ,oF,oA,oJ,mB,lW,kF,kJ,qZ,qW,nY,nU,es,e4,eg,e1,hc,a1,b1,b4,b5,en]),.redo nn]
 .exact#[.tup [jp!,item],ak _ (by push_cast[Ut,Wg,Wf,We,Pv,Pt,Ps,Pr,Pq,Pp,Cn,dZ,in2,rJ,rE,oK,oG,mE,lY,kH,kL,rH,qY,oH,nW,oJ,oA,e1]),.drop oa]
def eM(h:Fx d):Di d=true:=by obtain rfl|rfl|⟨a,b,rfl,_⟩:=h<;>simp[Di,Dc]
def vZ(h:Pz d):Di d=true:=by obtain rfl|⟨a,b,rfl,_⟩:=h<;>simp[Di,Dc]
def tO(h:Hg d):Di d=true:=by let#[a,b,rfl,_]:=h;simp[Di,Dc]
def a5n(h:Mi d):Di d=true:=by obtain rfl|⟨a,b,c,rfl,_⟩:=h<;>simp[Di,Dc]
def a7t(h:DG d):Di d=true:=by
 cases h with
 |put O h2=>simp[Di,Dc,eM O,vZ h2]
 |move O h2 h3=>simp[Di,Dc,eM O,eM h2,vZ h3]
 |drop O=>simp[Di,Dc,eM O]
 |write O h2=>simp[Di,Dc,eM O,a5n h2]
 |cut O=>simp[Di,Dc,eM O]
 |set O=>simp[Di,Dc,eM O]
 |undo O=>simp[Di,Dc,tO O]
 |redo O=>simp[Di,Dc,tO O]
abbrev Tl:Ac->ι Fl:=(Al wb_
 (Al wc_
 (Al wd!
 (Al wd_
 (Al we!
 we_)))))
open TX NumText
def mH(s:Str):mk aq!=s:=by delta mk;simp
def a7x(w:b!):(aF_).cps.toList=w:=by simp[mk]
abbrev W(w:b!):D:=.str aF_
def gM(w:b!):(aF_).length=bq_:=by simp[mk,Str.length]
def d0k{a b:b!}(h:mk a=mk b):a=b:=by let:=A7_ (λs=>aq!) h;simpa[mk]using this
def a1d(a b:b!):(mk a==mk b)=decide (a=b):=by
 by_cases h:a=b
 .simp[h]
 .let:¬mk a=mk b:=λz=>h (d0k z);simp[h,this]
def a7s:oq!=(Dj! 46):=by decide+kernel
def uX:eI_=(Dj! 32):=by decide+kernel
def a3l:(qZ! "-")=mk [45]:=by decide+kernel
def a8z:gw!=mk or!:=by decide+kernel
def c2e:gw_=mk or_:=by decide+kernel
def uP:(gw!).cps.toList=or!:=by decide+kernel
def a0w:(gw_).cps.toList=or_:=by decide+kernel
def vY{c bo:δ}(w:b!)(hc:c<256):DL.Hk aF_ L! bo=(Dp c bo w).map mk:=by
 let QU:=b3c aF_ c bo;rw[a7x]at QU;let Z4:(bY_).length=1:=χ;delta DL.Hk;rw[Z4];split
 .rename_i h;let hk:BG! bY_=1:=by
   delta Builtin.Str.strKind;simp[hc]
  rw[JG,FV,FV,hk]at h;let UU:1<=Builtin.Str.strKind aF_:=by
   delta Builtin.Str.strKind;split
   .exact FF _
   .split<;>decide
  let h0:bq_<1:=by
   obtain h|h:=h
   .rwa[gM]at h
   .omega
  let hj:w=[]:=List.eq_nil_of_length_eq_zero a!;subst hj;rw[show Dp c bo []=[[]]by simp[Dp]];rfl
 .split
  .rename_i h;rw[List.isEmpty_iff]at h;rw[<-QU,h];delta Builtin.Str.partsBetween;simp[Builtin.Str.strSub,mk,Str.length]
  .exact QU
def c7g{c:δ}:∀{n:δ} {w:b!} {v:b!},v∈Dp c n w->v.length<=bq_/\∀x∈v,x∈w:=by
 intro n w
 induction w generalizing n with
 |nil=>intro v hv;simp[Dp]at hv;subst hv;simp
 |cons x w ih=>
  intro v hv;let UZ:∀{l:I!},(∀u∈l,u.length<=bq_/\∀y∈u,y∈w)->v∈Jr x l->v.length<=(x::w).length/\∀y∈v,y∈x::w:=by
   intro l hl hv;cases l with
   |nil=>simp[Jr]at hv;subst hv;simp
   |cons u us=>
    simp[Jr]at hv;obtain rfl|hv:=hv
    .let:=hl u EY;exact#[by simp;exact this.1,λy hy=>?_];obtain rfl|hy:=FD.mp hy
     .simp
     .exact EW _ (this.2 y hy)
    .let:=hl v m5_;exact yg!
  delta Dp at hv;split at hv
  .split at hv
   .exact yg_
   .obtain rfl|hv:=FD.mp hv
    .simp
    .let:=ih hv;exact yg!
  .exact yg_
def xJ{x:δ}{l:I!}(h:l≠[]):(Jr x l).length=bt_:=by
 cases l with
 |nil=>exact AS! h
 |cons u us=>rfl
def b1j(c:δ):∀(n:δ) (w:b!),(Dp c n w).length<=bq_+1:=by
 intro n w
 induction w generalizing n with
 |nil=>simp[Dp]
 |cons x w ih=>
  delta Dp;split
  .split
   .rw[yh!];let:=ih 0;simp;omega
   .rename_i m;let:=ih m;simp;omega
  .rw[yh!];let:=ih n;simp;omega
variable{t:Ck}
def Xd(t:Ck)(r:aw!)(M:Mh)(R:x!)(E:EK):Prop:=match r with|some d=>R d M|none=>C3! E
def Sn(w:b!):Prop:=bq_<=600/\∀c∈w,El c=τ
def a8h{w:b!}(h:Sn w):(reprText aF_).length+100<=sizeLine:=by
 let:=StrLaws.reprText_len aF_ (by
  intro c hc;rw[a7x]at hc;let:=h.2 c hc;simp[El]at this;omega)
 rw[gM]at this;let:=h.1;rw[HG];omega
def b5q{c n:δ}{w v:b!}(h:Sn w)(hv:v∈Dp c n w):Sn v:=by let:=c7g hv;exact#[by let:=h.1;omega,λx hx=>h.2 x (this.2 x hx)]
def Lu(w:b!):ι D:=(BC! aF_).map D.int
def a6y{w:b!}(h:Sn w){M:Mh}{R:x!}{E:EK}(k:BS! Xd (Lu w)):BS! Fi [W w]:=by
 let O:=h.1;let h2:=a8h h;exact#[χ,mk w,χ,by rw[gM];omega,n!,?_];delta Xd Lu at k;cases e:BC! aF_ with
 |none=>
  rw[e]at k;exact .inr #[χ,mk w,χ,n!,λ_=>k]
 |some n=>
  rw[e]at k;exact .inl #[n,χ,k]
def Ha(f:jz_):μ aL_->wY_ aB_
 |[]=>ψ []
 |w::ws=>(f w).bind λd=>(Ha f ws).map (d::·)
def sK{g:Mr}{f:jz_}{E:EK}:∀(ws:I!),(∀w∈ws,∀M R,Xd t (f w) M R E->g [W w] M R E)->∀{M:Mh} {R:jY!},(match Ha f ws with|some ds=>R ds M|none=>E t.NoDeed υ M)->
  Js r_ aR_ ev_ yj! X! a1! M R
 |[],h,M,R,k=>#[ο,k]
 |w::ws,h,M,R,k=>by
  exact dz_;show Cz 1 g E f8! gx! M (λy M2=>Js r_ aR_ ev_ yj! X! a1! M2 λys M3=>R (y::ys) M3);exact#[χ,h w EY _ _ ?_];delta Xd;delta Ha at k;cases e:f w with
  |none=>rw[e]at k;exact k
  |some d=>
   rw[e,GX]at k;exact sK ws (λv hv=>h v m5_) ?_;cases e2:Ha f ws with
   |none=>rw[e2]at k;exact k
   |some ds=>rw[e2]at k;exact k
def eqW(a b:b!):Be (W a) (W b)=GV_ (a=b):=by rw[dZ,a1d]
def d1e(w:b!):AR gx_ (W w)=GV_ (46∈w):=by show CF! (!(Builtin.Str.occurrences aF_ oq! 0 (aF_).length 1).isEmpty)=_;rw[a7s,d1d];congr 2
abbrev Tp:μ Nat:=or!
abbrev Ys:μ Nat:=or_
def Gg(w:b!):ι D:=if w=[45]then ψ .non else if w=Tp\/w=Ys then A5! w else if 46∈w then(Ha Lu yl!).map .tup else Lu w
def b6g{c:δ}{w:b!}(hc:c<256)(h:Sn w):Nq (W w) mF!=qX_ ((Dp c (bq_+1) w).map W):=by show(if(bY_).length≠0/\(aF_).length<=big then ψ (Qg (Hk aF_ L! ((aF_).length+1)))else υ)=_;let:=h.1;rw[FE #[yl_,ou!],vY w hc,gM];delta Qg;rw[HU];rfl
def ifS{ft:Q_}{b:Bool}{q1 q2:WS}{ρ:Ac}{M:Mh}{R:E_}(e:ft ρ=ψ b)(h:if b=τ then F1! q1 else F1! q2):C3_ (Iz ft):=by show(match ft ρ with|some d=>_|none=>False);rw[e];exact h
def c8v{f:g_}{ρ:Ac}{M:Mh}{R:E_}(e:aX_)(h:R ai! M):Ei eJ_ ρ M R:=by show ou_;rw[e];exact h
def c4e{w:b!}(h:Sn w){M:Mh}{R:x!}{E:EK}(k:BS! Xd (Gg w)):BS! Kw [W w]:=by
 exact I_;delta Xd Gg at k;show Ep_ gx! _;exact ifS (b:=decide (w=[45])) (by simp[fT,f2,Aa,fC,a3l,eqW]) ?_;by_cases O:w=[45]
 .rw[FE O]at k;rw[FE (FH O)];exact c8v χ k
 rw[FC O]at k;rw[FC (w4_ FV O)];exact ifS (b:=decide (w=Tp)||decide (w=Ys)) (by
  simp[Cy,fT,f2,Aa,fC,a8z,c2e,eqW];by_cases h2:w=Tp<;>simp[h2]) ?_
 by_cases h2:w=Tp\/w=Ys
 .rw[FE h2]at k;rw[FE yn_];exact c8v χ k
 rw[FC h2]at k;rw[FC yn_];exact ifS (ρ:=gx!) (ft:=HD! AR (fC gx_)) (b:=decide (46∈w)) (by simp[fT,f2,Aa,fC,d1e]) ?_;by_cases h3:46∈w
 .rw[FE h3]at k;rw[FE (FH h3)];let hs:=b6g (c:=46) a_ h;rw[<-a7s]at hs;show Jk ((Nx g! (fC gx_)) gx! |>.bind λd=>match d with|.lst xs=>ψ xs|_=>υ) _;rw[show Nx g! (fC gx_) gx!=Nq (W w) gx_ from χ,hs];exact#[?_,sK (f:=Lu) _ (λv hv M R z=>a6y (b5q h hv) z) ?_]
  .let:=b1j 46 (bq_+1) w;let:=h.1;rw[EX];delta big;omega
  .cases e:Ha Lu yl! with
   |none=>rw[e]at k;exact k
   |some ds=>rw[e]at k;exact k
 .rw[FC h3]at k;rw[FC (w4_ FV h3)];exact#[χ,a6y h k]
variable{t:Ck}
abbrev Eu:μ Nat:=[119,114,105,116,101]
def sL:jB!=mk Eu:=by decide+kernel
def c8e(a b:Str):Be yo_ yp_=ψ n9!:=by
 let:Dl yo_ yp_=c0_:=by
  delta Dl;delta Go;rw[oR];delta Go;simp
 delta Be;rw[this];simp[Bm,Cm,dep,Du]
def fQ{α β:Type}(f:α->β)(xs:A_)(lo hi:T_):HT_ (xs.map f)=(f7_).map f:=by delta cutL;rw[EX,List.map_take,List.map_drop]
def a0v{α:Type}(xs:A_):CO_ xs X_=xs.take 1:=by delta cutL;cases xs<;>simp[HT.sIx]
def gU{α:Type}{xs:A_}{lo hi:T_}{x:α}(h:xZ!):x∈xs:=NN xZ_
def iJ{α:Type}(xs:A_)(lo hi:T_):(f7_).length<=h!:=by delta cutL;rw[JK,HV];omega
def sT{f:jz_}:∀{ws:I!} {ds:e!},Ha f ws=ψ ds->e_=bl!
 |[],ds,e=>by cases e;rfl
 |w::ws,ds,e=>by
  delta Ha at e;let#[d,_,e]:=ET.mp e;let#[wj,e2,rfl]:=EZ.mp e;simp[sT e2]
def Ni(ws:I!):Int:=if ws.take 1=[Eu]then 3 else bl!
def Pf(ws:I!):ι D:=(Ha Gg (cutL ws X_ yq!)).map λps=>.tup ((jC!).map W++ps++(Bp! ws yq!).map W)
def c3a{f:g_}{i:δ}{ρ:Ac}{M:Mh}{R:E_}(e:aX_)(h:R gW_ M):Ce i eJ_ ρ M R:=by show ou_;rw[e];exact h
def wl2{g:jZ_}{fa:g_}{fb:WE}{ρ:Ac}{M:Mh}{R:x!}(e:fa ρ=ψ x)(h:fb ρ M λy M2=>match g M2 x y with|some d=>R d M2|none=>False):w2 g gy! fb ρ M R:=by show(match fa ρ with|some d=>_|none=>False);rw[e];exact h
def wlE{f:g_}{ρ:Ac}{M:Mh}{R:x!}(e:aX_)(h:R d M):wl f ρ M R:=by show ou_;rw[e];exact h
def a5a{di:ar!}{ds:e!}{nl:δ}{ix:b!}{bnd:ac!}{ft:WT}{fe:WE}{ρ:Ac}{M:Mh}{R:x!}(e:di ρ=ψ ds)(hl:iO!)
  (h:Js bnd aR_ ft fe iu! ds M λys M2=>R ap_ M2):Ho nl ix (Rk di) bnd ft fe ρ M R:=by
 show Jk (di ρ) _;rw[e];exact#[hl,h]
def c7m{xs ys:e!}{M:Mh}(h:h!+H_<=big):Ie M af! ap_=ψ iG!:=by show Ag af! ap_=_;show(Dz_ h! dL_)=_;rw[FE h]
def d1l{ws:I!}:(vx_) gz!=uY_ (Ni ws):=by
 let O:Ci g! Ai cF_ gz!=ψ yr_:=by
  show ψ ys!=_;rw[fQ,a0v]
 let h2:Be yr_ iI_=rJ! ys_:=by
  cases ws with
  |nil=>simp[Be,Bm,Cm,dep,Du,Dl,Go]
  |cons w r=>
   rw[show((w::r).take 1).map W=[W w]from χ,c8e,sL,a1d];simp
 let h3:fT vx! gz!=ψ ys_:=by
  delta fT f2;rw[O,GX,show fC iI_ gz!=ψ iI_ from χ,GX,h2];rfl
 delta Dt;rw[h3,GX];delta Ni;by_cases h:ws.take 1=[Eu]
 .simp[h,fC]
 .simp[h,f1,Ab,Ad,Aa,Bi]
def c6w{ws:I!}(hw:∀w∈ws,Sn w)(hl:bl!<=700){M:Mh}{R:x!}{E:EK}(k:BS! Xd (Pf ws)):BS! Kx [.lst a1!]:=by
 exact I_;show At _ _ gz! M _;exact c3a d1l ?_;generalize he:Ni ws=e;show Ei _ gz_ M _;show w1 _ _ gz_ M _;show Af _ _ gz_ M _;show w2 _ _ _ gz_ M _;show w2 _ _ _ gz_ M _;exact wl2 (x:=.lst ((jC!).map W)) (by show some ys!=_;rw[fQ]) ?_;let az:=iJ ws X_ bR!;exact a5a (ds:=(yt!).map W) (by show some (cutL a1! X_ bR!)=_;rw[fQ]) b8_ ?_;exact sK (f:=Gg) _ (λv hv M R z=>c4e yt_ z) ?_;delta Xd Pf at k;rw[he]at k;cases e2:Ha Gg yt! with
 |none=>rw[e2]at k;exact k
 |some ps=>
  rw[e2]at k;let O:=sT e2;let h2:=iJ ws υ X_;let h3:=iJ ws bR! υ;show(match Ie M (E3_ jC!) (.lst ps)with|some d=>_|none=>False);rw[c7m b8_];exact wlE (d:=.lst yu!) (HO_ bR!) ?_;show(match Ie M (.lst ((jC!).map W++ps)) (.lst yu!)with|some d=>_|none=>False);rw[c7m (by rw[FX,EX,EX];delta big;omega)];exact k
nonrec def wordsR(l:b!):μ aL_:=Dp 32 6 l
def Vi(l:b!):ι D:=(Ha Lu (CO_ gA! aG!)).bind λns=>(Pf (Bp! gA! aG!)).map λd=>D.tup ox_
def b6f{l:b!}(h:Sn l):F9_ W=GC! gA! W:=by let:=h.1;show(if(eI_).length≠0/\(gB!).length<=big/\(0:Int)<=6/\(6:Int)<=1000 then ψ (Qg (Hk gB! eI_ (limitOf gB! 6)))else υ)=_;rw[uX,FE #[yl_,ou!,J!,J!],vY l a_];delta Qg;rw[HU];rfl
def a9a{l:b!}(h:Sn l){M:Mh}{R:x!}{E:EK}
  (k:match Vi l with|none=>C3! E|some op=>∃b l',Cd t [op]=ψ V_/\Bm op=τ/\(b=τ->Do [op]=ψ (W l'))/\if b=τ/\l'=l then R op M else C3! E):BS! Jw [W l]:=by
 exact I_;show Ep_ [jE!,υ,υ] _;exact c3a (d:=E3_ gA!) (by
  show F9_ W=_;exact b6f h) ?_
 let hw:∀w∈wordsR l,Sn w:=λw hw=>b5q h hw;let az:(gA!).length<=700:=by
  let:=b1j 32 6 l;let:=h.1;delta wordsR;omega
 delta Vi at k;generalize hws:wordsR l=ws at k hw az ⊢;show At _ _ br! M _;show Ce _ _ br! M _;show w1 _ _ br! M _;show Af _ _ br! M _;show w2 _ _ _ br! M _;let hl3:=iJ ws none aG!;exact a5a (ds:=(yv_).map W) (by show some (cutL a1! none aG!)=_;rw[fQ]) b8_ ?_;exact sK (f:=Lu) _ (λv hv M R z=>a6y yt_ z) ?_;cases e2:Ha Lu yv_ with
 |none=>rw[e2]at k;exact k
 |some ns=>
  rw[e2,GX]at k;let O:=sT e2;let hl4:=iJ ws aG! υ;show Pm _ br! M _;show Af _ _ br! M _;show BT_ Cz br! M _;show Af _ _ br! M _;exact wlE (ρ:=br!) (f:=EK! w_) (d:=E3_ yw!) (HO_ aG!) ?_;exact#[χ,c6w (λv hv=>hw v (gU hv)) a! ?_];delta Xd;cases e3:Pf yw! with
  |none=>rw[e3]at k;exact k
  |some d=>
   rw[e3]at k;let#[b,l',ho,hn,hs,k]:=k;dsimp only at ho hn hs k;exact#[by show 1<=1000;decide,?_];show(match Ie M (.lst ns) (.lst [d])with|some d=>_|none=>False);rw[c7m (by show ns.length+1<=big;delta big;omega)];show Av br! M _;delta Av;dsimp only[Jk,Mm];show At _ _ [jE!,gy_,some (.tup ox_)] M _;generalize jg:D.tup ox_=op at *;let dr:f1 (Cd t) cH! yy!=some V_:=by show Cd t [op]=_;exact ho
   exact ifS (b:=!(b&&decide (l'=l))) ?_ ?_
   .delta Cy Bo fT;rw[dr];cases b with
    |false=>rfl
    |true=>
     let yh:f2 Ea (f1 Do cH!) g! yy!=rJ! (!decide (l'=l)):=by
      show(Do [op]).bind (λx=>(A5! l).bind λy=>Ea x y)=_;rw[hs χ];show Ea (W l') (W l)=_;delta Ea;rw[FE (by simp[Bm,dep]),oR,a1d]
     rw[yh];simp
   .by_cases hc:b=τ/\l'=l
    .rw[FE hc]at k;rw[FC (by simp[hc.1,hc.2])];delta Ff;show"#-";exact c8v χ k
    .rw[FC hc]at k;rw[FE (by
      cases b
      .rfl
      .simp at hc;simp[hc])]
     let hr:=a8h h;exact#[mk l,χ,n!,λ_=>k]
inductive Vq:D->Prop
 |non:Vq .non
 |root:Vq iv_
 |bin:Vq f2!
 |int {i:Int}:N_<10 ^ 61->Vq ae!
 |two {a b:Int}:cN_<10 ^ 61->cO!<10 ^ 61->Vq (.tup jo!)
 |three {a b c:Int}:cN_<10 ^ 61->cO!<10 ^ 61->jE_<10 ^ 61->Vq (.tup gr!)
def Tw:μ D->μ aL_
 |.int i::r=>intC i::Tw r
 |_=>[]
nonrec def wordC:D->μ δ
 |.non=>[45]
 |.str s=>aq!
 |.int i=>intC i
 |.tup ds=>Eq! (Tw ds)
 |_=>[]
def oX{fe:g_}{F:D->D}:∀(ds:e!),(∀d∈ds,fe [ψ d]=ψ (F d))->Co_ fe ds=ψ (ds.map F)
 |[],_=>rfl
 |d::ds,h=>by
  let ih:=oX ds λx hx=>h x b5!;let O:=h d EY;simp![Cp,ih,FI];simp[Bj,O]
def a8n:∀(ws:I!),Mw a1!=ψ m3_
 |[]=>rfl
 |w::ws=>by
  rw[FI,FI];show(Mw a1!).map _=_;rw[a8n ws];rfl
def b0q{c:δ}{ws:I!}(h:(ws.map gB_).sum+bl!<=big):Ng mF! (.lst a1!)=A5! in_:=by show(Mw a1!).bind (λys=>if(nU!).sum+H_*(bY_).length<=big then ψ (D.str (Txt.join L! ys))else υ)=_;rw[a8n,GX,HU,EX];let e:(List.map ((λx=>ap!)∘mk) ws)=ws.map gB_:=NW λw _=>gM w;rw[e,FE (by show _+ws.length*1<=big;omega),c5s]
def d0p{i:Int}(h:fS_):cp!<1920:=by
 by_cases h0:N_=0
 .rw[h0];decide
 .rw[Nat.log2_lt h0];exact FM h d!
def str_int{i:Int}(h:fS_):Jb [ck_]=A5! bm!:=by show(if cp!<1920 then ψ (D.str (toString i:String))else υ)=_;rw[FE (d0p h),W,c4z]
def c2i(h:Vq x\/∃s,x=.str s):Df [x]=A5! aP_:=by
 let key:∀{is:B_},jF!<=3->yA_->Nh iH_ vu! yB!=A5! jF_:=by
  intro is hl G;let hc:=oX (fe:=Fe_ Jb) (F:=λd=>match d with|.int i=>W bm!|d=>d) gC! (by
   intro d hd;let#[i,hi,rfl]:=GJ.mp hd;simp[f1,Ab,Aa,Ad,str_int (G i hi)])
  rw[HU]at hc;let qi:AT_ (Po g!) nr! yB!=ψ yB_:=by
   show(AO_ gC! (GZ! X! gC!))=_;rw[dB!,hc,HU];rfl
  let hs:(oA!).sum+(dA_).length<=big:=by
   let:∀(is:B_),yA_->(oA!).sum<=62*jF!:=by
    intro is
    induction is with
    |nil=>intro _;simp
    |cons i is ih=>
     intro G;let O:=fA (G i EY);let h2:=ih λj hj=>G j dF!;simp![FI,MZ,FN];omega
   let O:=this is G;rw[EX];delta big;omega
  delta Nh;rw[qi];show Ng (.str ".") yB_=_;rw[a7s,b0q hs]
 obtain h|⟨s,rfl⟩:=h
 .cases h with
  |non=>push_cast[Df,Ey,wordC,W,a3l]
  |root=>push_cast[Df,Ey,wordC,W,Jb,mH]
  |bin=>push_cast[Df,Ey,wordC,W,Jb,mH]
  |int hi=>push_cast[Df,Ey,wordC,str_int hi]
  |@two a b ha G=>
   let hk:=key (is:=ac_) c_ yC!;simp![FI,LL]at hk
   push_cast[Df,Ey,wordC,Tw,hk]
  |@three a b c ha G hc=>
   let hk:=key (is:=dM_) c_ yC_;simp![FI,LL]at hk
   push_cast[Df,Ey,wordC,Tw,hk]
 .push_cast[Df,Ey,wordC,W,Jb,mH]
def eN{i:Int}{c:δ}(h:c=32\/c=46\/c=114\/c=98):c∉intC i:=by intro hc;let:=mP i c hc;omega
def a0b{c:δ}(U0:c≠46):∀(is:B_),(∀i,c∉intC i)->c∉Eq! dA_
 |[],_=>by simp[joinL]
 |[i],h=>by simpa[joinL]using h i
 |i::j::r,h=>by
  rw[FI,cw_];intro z;obtain z|z:=FL.mp z
  .exact h i z
  .obtain z|z:=FD.mp z
   .exact U0 z
   .exact a0b U0 (j::r) h z
def a4a(i j:Int)(r:B_):46∈joinL 46 oA_:=by rw[FI,cw_];simp
def c2j(h:Vq x):32∉wordC x:=by
 cases h with
 |non=>decide
 |root=>show 32∉(gw!).cps.toList;rw[uP];decide
 |bin=>show 32∉(gw_).cps.toList;rw[a0w];decide
 |int=>exact eN q_
 |@two a b=>exact a0b a_ ac_ λi=>eN q_
 |@three a b c=>exact a0b a_ dM_ λi=>eN q_
def oN:∀(ws:I!) (c:δ),(in_).length<=(ws.map gB_).sum+bl!
 |[],c=>by simp[joinL]
 |[w],c=>by simp[joinL]
 |w::v::r,c=>by
  rw[cw_,FX,FN];let:=oN (v::r) c;simp![FI,MZ,FN]at this ⊢;omega
def b5o(h:Vq x):(aP_).length<=200:=by
 cases h with
 |non=>decide
 |root=>show(gw!).cps.toList.length<=200;rw[uP];decide
 |bin=>show(gw_).cps.toList.length<=200;rw[a0w];decide
 |int hi=>let:=fA hi;show(intC _).length<=200;omega
 |@two a b ha G=>
  let O:=fA ha;let h2:=fA G;let:=oN yD! 46;simp at this;show(Eq! yD!).length<=200;omega
 |@three a b c ha G hc=>
  let O:=fA ha;let h2:=fA G;let h3:=fA hc;let:=oN yD_ 46;simp at this;show(Eq! yD_).length<=200;omega
def a1j(c:δ):∀(ws:I!),bl!<=(in_).length+1
 |[]=>by simp
 |[w]=>by simp
 |w::v::vs=>by
  let ih:=a1j c (v::vs);rw[cw_,FX];simp![FN]at ih ⊢;omega
def WG(x:D):Prop:=Vq x\/∃s:Str,x=.str s/\E!<=100
def c2l(h:WG x):Df [x]=A5! aP_:=c2i (h.imp id λ⟨s,e,_⟩=>#[s,e])
def c8i(h:WG x):(aP_).length<=200:=by
 obtain h|⟨s,rfl,hs⟩:=h
 .exact b5o h
 .show dl!<=200;let:dl!=E!:=by simp[Str.length]
  omega
def b6c:∀(xs:e!),(∀x∈xs,WG x)->((oB!).map gB_).sum<=200*h!
 |[],_=>by simp
 |x::xs,h=>by
  let O:=c8i (h x EY);let h2:=b6c xs λy hy=>h y dj_;simp![FI,MZ,FN];omega
def Tu(xs:e!):μ Nat:=Ht! oB!
def a7y{xs:e!}{g:bH!}(hg:∀x∈xs,g [x]=A5! aP_):Co_ (f1 g aq_) xs=ψ ((oB!).map W):=by rw[oX (F:=λd=>W (wordC d)) xs λd hd=>by simp[f1,Ab,Aa,Ad,hg d hd],HU];rfl
def b6m{ds:e!}(hx:∀x∈h::n::tm::ds,WG x)(hl:e_<=10):Do [.tup oB_]=ψ oC_:=by
 let hc:=a7y (g:=Df) λx hm=>c2l (hx x hm);let hs:=b6c _ hx;let a1:Ag yG! dm_=AW! gD_:=by
  show(if 3+e_<=big then ψ (D.tup ([h,n,tm]++ds))else υ)=_;rw[bI!];rfl
 let c3:Ak (.tup oB_) υ aG!=ψ yG!:=by simp[Ak,cutL,HT.sIx]
 let hi:Po ns! jG!=ψ gD_:=by
  simp[DL.Po,f2,Ci,Aa,Ai,Ah,fC,c3,Ao,Da,Dd,a1]
 let qi:AT_ (Po ns!) (f1 Df aq_) jG!=ψ oD!:=by
  delta Cs;rw[hi];show(AO_ gD_ (GZ! X! _))=_;rw[D7_ FN,hc];rfl
 let hj:Ng nm! oD!=ψ oC_:=by
  rw[uX];exact b0q ?_;simp![FN,EX]at hs ⊢;delta big;omega
 let hq:Nt jG!=Hk! oC_:=by
  delta Nt Ar Nh;rw[qi];show((Ng nm! oD!).map Fl.rt)=_;rw[hj];rfl
 delta Do Bh;rw[cv_];show(match Nt jG! with|some (.rt d)=>ψ d|some (.nx _)=>ψ .non|none=>υ)=_;rw[hq]
variable{t:Ck}
inductive PN:D->Prop
 |non:PN .non
 |root:PN iv_
 |bin:PN f2!
 |two {a b:Int}:cN_<=Bk->cO!<=Bk->PN (.tup jo!)
 |three {a b c:Int}:cN_<=Bk->cO!<=Bk->jE_<=Bk->PN (.tup gr!)
def vL{i:Int}(h:jG_):N_<10 ^ 61:=by delta Bk at h;omega
def PN.pg(h:PN x):Vq x:=by
 cases h with
 |non=>exact .non
 |root=>exact .root
 |bin=>exact .bin
 |two a b=>exact .two (vL a) (vL b)
 |three a b c=>exact .three (vL a) (vL b) (vL c)
def Sa(k:Str)(j:δ):Prop:=k="write"/\j=2
def Qq(k:Str)(j:δ):Prop:=((k="cut"\/k="set")/\j=2)\/(k="set"/\j=1)
structure Yu(k:Str)(j:Nat)(x:D):Prop where
 mk::
 txt:Sa k j->∃s:Str,x=.str s/\E!<=16
 num:Qq k j->∃i:Int,x=.int i/\N_<=Bk
 nam:¬Sa k j->¬Qq k j->PN x
structure VO(h n tm:Int)(k:Str)(r:e!):Prop where
 mk::
 hh:h.natAbs<=Bk
 hn:gs!<=Bk
 ht:oD_<=Bk
 k32:32∉cO_
 kl:k.length<=100
 r1:r≠[]
 r3:W!<=3
 pos:∀j x,r[j]?=ψ x->Yu k j x
 wr:k="write"->W!=3
abbrev Sw(h n tm:Int)(k:Str)(r:e!):D:=.tup [cJ_,a4_,eF!,.tup gp_]
abbrev Qz(h n tm:Int)(k:Str)(r:e!):μ Nat:=Tu (.int h::.int n::.int tm::.str k::r)
def b8u(h:Ef x=τ):∃a b:Int,x=.tup jo!/\cN_<=Bk/\cO!<=Bk:=by
 delta Ef at h;show"!u"
 .rename_i a b;rw[FB]at h;delta belowK at h;delta Ec at h;let#[O,h2]:=h;split at O
  .split at h2
   .simp only[FB,FV]at O h2;exact#[_,_,χ,jH!,h2.1]
   .cases h2
  .cases O
 .cases h
def b6j(h:Ek x=τ):∃a b c:Int,x=.tup gr!/\cN_<=Bk/\cO!<=Bk/\jE_<=Bk:=by
 delta Ek at h;show"!u"
 .rename_i a b c;rw[FB,FB]at h;delta belowK at h;delta Ec at h;let#[#[O,h2],h3]:=h;split at O
  .split at h2
   .split at h3
    .simp only[FB,FV]at O h2 h3;exact#[_,_,_,χ,jH!,h2.1,jH!]
    .cases h3
   .cases h2
  .cases O
 .cases h
def zA(h:Ef x=τ):PN x:=by let#[a,b,rfl,O,h2]:=b8u h;exact .two O h2
def a8s(h:Ek x=τ):PN x:=by let#[a,b,c,rfl,O,h2,h3]:=b6j h;exact .three O h2 h3
def iY(h:Fh x=τ):PN x:=by
 rw[JG]at h;obtain h|h:=h
 .exact zA h
 .delta Nr at h;show"!u"
  .rename_i s;rw[JG,GS,GS]at h;obtain rfl|rfl:=h
   .exact .root
   .exact .bin
  .cases h
def b8n(h:Bf x=τ):PN x:=by
 delta Bf at h;show"!u"
 .exact .non
 .cases h
def b6l(h:Sr x=τ):PN x:=by rw[JG]at h;exact h.elim b8n zA
def d2e(h:Vp x=τ):PN x:=by rw[JG]at h;exact h.elim b8n a8s
def c5y(h:isInt x=τ):∃i:Int,x=.int i/\N_<=Bk:=by
 delta isInt at h;show"!u"
 .exact#[_,χ,by simpa using h]
 .cases h
def qC(h:Ec x=τ):∃i:Int,x=.int i/\N_<=Bk/\1<=i:=by
 delta Ec at h;show"!u"
 .rw[FB,FV,FV]at h;exact#[_,χ,h.1,h.2]
 .cases h
def xS{k:Int}(hk:k<=1000)(h:belowK k x=τ):∃i:Int,x=.int i/\N_<=Bk/\0<=i/\i<k:=by
 delta belowK at h;show"!u"
 .rw[FB,FV,FV]at h;exact#[_,χ,jH!,h.1,h.2]
 .cases h
def lJ{j:δ}(O:¬Sa k j)(h2:¬Qq k j)(h:PN x):Yu k j x:=#[λz=>ξ z O,λz=>ξ z h2,λ_ _=>h]
structure VD(k:Str)(r:e!):Prop where
 mk::
 k32:32∉cO_
 kl:k.length<=100
 r1:r≠[]
 r3:W!<=3
 pos:∀j x,r[j]?=ψ x->Yu k j x
 wr:k="write"->W!=3
def jG{k:Str}{r:e!}(k32:32∉cO_)(kl:k.length<=100)(hw:k≠"write")(hc:k≠"cut")(hs:k≠"set")(r1:r≠[])(r3:W!<=3)(h:∀x∈r,PN x):VD k r:=
 #[k32,kl,r1,r3,λj x e=>lJ (λz=>hw z.1) (λz=>z.elim (λz=>z.1.elim hc hs) λz=>hs z.1) (h x (JE e)),λz=>Fv! hw]
protected def c1i(h:Dm k r=τ):VD k r:=by
 delta Dm at h;show"!u"
 .show"!3";delta Vh at h;show"!u"
  .rw[FB]at h;exact CF_ (by simp[iY h.1,b6l h.2])
  .cases h
 show"!u"
 .show"!3";delta Rz at h;show"!u"
  .rw[FB,FB]at h;exact CF_ (by simp[iY h.1.1,iY h.1.2,b6l h.2])
  .cases h
 show"!u"
 .show"!3";delta Sf at h;show"!u"
  .exact CF_ (by simp[iY h])
  .cases h
 show"!u"
 .show"!3";delta Nz at h;show"!u"
  .rename_i a b c;rw[FB,FB]at h;let n1:¬(Str.ofString "write"=Str.ofString "cut"\/Str.ofString "write"=Str.ofString "set"):=by decide+kernel
   let nn:∀j,¬Qq jB! j:=λj z=>z.elim jH_ λz=>n1 (.inr z.1);exact oF!
   match j,e with
   |0,e=>simp at e;subst e;exact lJ eK_ (nn _) (iY h.1.1)
   |1,e=>simp at e;subst e;exact lJ eK_ (nn _) (d2e h.1.2)
   |2,e=>
    simp at e;subst e;exact#[λ_=>?_,λz=>ξ z (nn _),λz=>ξ aa_ z];let h3:=h.2;delta Ld at h3;split at h3
    .rw[FB,FV,FV]at h3;exact#[_,χ,h3.2]
    .cases h3
   |j+3,e=>simp at e
  .cases h
 show"!u"
 .show"!3";delta Vm at h;show"!u"
  .rename_i a b c;rw[FB,FB,FB]at h;let n1:¬qZ! "cut"=qZ! "write":=by decide+kernel
   let n2:¬qZ! "cut"=qZ! "set":=by decide+kernel
   exact oF!
   match j,e with
   |0,e=>simp at e;subst e;exact lJ jH_ yH! (iY h.1.1.1)
   |1,e=>simp at e;subst e;exact lJ jH_ yH! (a8s h.1.1.2)
   |2,e=>
    simp at e;subst e;let#[i,e,hi,_]:=qC h.1.2;exact (CG! (.inl #[dR_,χ]))
   |j+3,e=>simp at e
  .cases h
 show"!u"
 .show"!3";delta Va at h;show"!u"
  .rename_i a b c;rw[FB,FB]at h;let n1:¬qZ! "set"=qZ! "write":=by decide+kernel
   exact oF!
   match j,e with
   |0,e=>simp at e;subst e;exact lJ jH_ (λz=>z.elim eK_ λz=>ξ z.2 a_) (iY h.1.1)
   |1,e=>
    simp at e;subst e;let#[i,e,hi,_]:=xS a_ h.1.2;exact (CG! (.inr aa_))
   |2,e=>
    simp at e;subst e;let#[i,e,hi]:=c5y h.2;exact (CG! (.inl #[.inr χ,χ]))
   |j+3,e=>simp at e
  .cases h
 let U1:Kb r=τ->∃x,r=[x]/\PN x:=λh=>by
  delta Kb at h;show"!u"
  .exact#[_,χ,zA h]
  .cases h
 show"!u"
 .show"!d"
 show"!u"
 .show"!d"
 .cases h
def c9r(h:xx!=τ):∃(h n tm:Int) (k:Str) (r:e!),D.tup kI_=Da! Sw/\Da! VO:=by
 rw[FB,FB,FB]at h;let#[#[#[O,h2],h3],h4]:=h;let#[i1,rfl,g1,_]:=xS a_ O;let#[i2,rfl,g2,_]:=qC h2;let#[i3,rfl,g3,_]:=qC h3;delta Gm at h4;split at h4
 .rename_i k r;let v:=c1i h4;exact#[i1,i2,i3,k,r,χ,g1,g2,g3,v.k32,v.kl,v.r1,v.r3,v.pos,v.wr]
 .cases h4
variable{t:Ck}
def gK{i:Int}(h:jG_):Lu bm!=ψ ae!:=by delta Lu;rw[d4p (vL h)];rfl
def sS{α:Type}{f:jz_}{w:α->μ δ}{d:gF!}:∀(xs:A_),(∀x∈xs,f (w x)=ψ (d x))->Ha f (xs.map w)=ψ (xs.map d)
 |[],_=>rfl
 |x::xs,h=>by
  rw[FI,FI];delta Ha;rw[h x EY,GX,sS xs λy hy=>h y dj_];rfl
def xW{α:Type}:∀(r:A_),r≠[]->∃p l,r=p++[l]
 |[],h=>AS! h
 |[a],_=>#[[],a,χ]
 |a::b::r,_=>by
  let#[p,l,e]:=xW (b::r) c_;exact#[a::p,l,by rw[e];rfl]
def c1p{is:B_}(O:is≠[]):Dp 46 ((jF_).length+1) jF_=is.map intC:=by
 let#[p,l,rfl]:=xW is O;let e0:(p++[l]).map intC=p.map intC++[intC l]:=by simp
 rw[e0];exact oW _ _ _ (λw hw=>?_) ?_ (.inl (eN eL!))
 .let#[i,_,rfl]:=GJ.mp hw;exact eN eL!
 .let:=a1j 46 (p.map intC++[intC l]);rw[FX]at this;omega
def a0f{w:b!}(h:46∉w)(i j:Int)(r:B_):Eq! oA_≠w:=λz=>h (by rw[<-z];exact a4a i j r)
def wH{i j:Int}{r:B_}(h:∀x∈i::j::r,x.natAbs<=Bk):Gg (Eq! oA_)=AW! ((i::j::r).map D.int):=by delta Gg;rw[FC oI_,FC (λz=>z.elim oI_ oI_),FE (a4a i j r),c1p c_,sS _ λx hx=>gK (h x hx)];rfl
def b3d{i:Int}(h:jG_):Gg bm!=ψ ae!:=by delta Gg;rw[FC (c5z i).2,FC (λz=>z.elim (λz=>eN (i:=i) (c:=114) (.inr eL!) yI!) λz=>eN (i:=i) (c:=98) (Bb_ gF_) yI!),FC (eN eL!)];exact gK h
def a6n(h:PN x):Gg aP_=ψ x:=by
 cases h with
 |non=>rfl
 |root=>
  show Gg (gw!).cps.toList=_;rw[uP];delta Gg;rw[bD!,FE q_,a8z]
 |bin=>
  show Gg (gw_).cps.toList=_;rw[a0w];delta Gg;rw[bD!,FE gF_,c2e]
 |@two a b ha G=>exact wH (i:=a) (j:=b) (r:=[]) yC!
 |@three a b c ha G hc=>exact wH (i:=a) (j:=b) (r:=[c]) yC_
def VO.wg{h n tm:Int}(v:jJ_):∀x∈.int h::.int n::.int tm::.str k::r,WG x:=by
 intro x hx;simp![FD]at hx;obtain rfl|rfl|rfl|rfl|hx:=hx
 .exact CP! v.hh
 .exact CP! v.hn
 .exact CP! v.ht
 .exact .inr (D9! v.kl)
 .let#[j,e]:=Gl_ hx;let p:=v.pos j x e;by_cases O:Sa k j
  .let#[s,rfl,hs]:=p.txt O;exact .inr #[s,χ,n!]
  .by_cases h2:Qq k j
   .let#[i,rfl,hi]:=p.num h2;exact CP! hi
   .exact .inl (p.nam O h2).pg
def VO.shown{h n tm:Int}(v:jJ_):Do yK!=A5! yK_:=b6m v.wg (by let:=v.r3;simp;omega)
def VO.part{h n tm:Int}{r:e!}(v:jJ_){j:δ}(e:r[j]?=ψ x)(hj:¬Sa k j):32∉wordC x/\Gg aP_=ψ x:=by
 let p:=v.pos j x e;by_cases h2:Qq k j
 .let#[i,rfl,hi]:=p.num h2;exact#[dC_,b3d hi]
 .exact#[c2j (p.nam hj h2).pg,a6n (p.nam hj h2)]
def d4r{α:Type}(a b c:α)(r:A_):cutL (a::b::c::r) υ aG!=dM_:=by simp[cutL,HT.sIx]
def tl3{α:Type}(a b c:α)(r:A_):cutL (a::b::c::r) aG! υ=r:=by delta cutL;rw[show(3:Int)=((3:δ):Int)from χ,HT.sIx_nat];simp[HT.sIx]
def mid{α:Type}(a:α)(r:A_):cutL (a::r) X_ (ψ (((a::r).length:δ):Int))=r:=by delta cutL;rw[show(1:Int)=((1:δ):Int)from χ,HT.sIx_nat,HT.sIx_nat];simp
def las{α:Type}(r:A_):Bp! r (ψ ((W!:δ):Int))=[]:=by delta cutL;rw[HT.sIx_nat];simp
def qO{h n tm:Int}{k:b!}{ws:I!}{l:b!}(hh:h.natAbs<=Bk)(hn:gs!<=Bk)(ht:oD_<=Bk)(hw:wordsR l=intC h::intC n::intC tm::k::ws)(hd:Pf (k::ws)=ψ d):Vi l=AW! oc!:=by
 delta Vi;rw[hw,d4r,tl3,hd];let:Ha Lu [intC h,intC n,intC tm]=ψ [cJ_,a4_,eF!]:=by
  delta Ha;rw[gK hh,GX];delta Ha;rw[gK hn,GX];delta Ha;rw[gK ht,GX];rfl
 rw[this];rfl
def c5p{k:Str}(h:k≠"write"):cO_≠Eu:=λz=>h (by rw[<-mH k,z,<-sL])
def VO.back{h n tm:Int}(v:jJ_):Vi yK_=ψ (Da! Sw):=by
 by_cases hk:k="write"
 .subst hk;let h3:=v.wr χ;obtain⟨a,b,c,rfl⟩:∃a b c,r=[a,b,c]:=by
   match r,h3 with
   |[a,b,c],_=>exact#[a,b,c,χ]
  let pa:=v.part (j:=0) χ eK_;let pb:=v.part (j:=1) χ eK_;let#[s,rfl,hs]:=(v.pos 2 c χ).txt aa_;exact qO v.hh v.hn v.ht (k:=Eu) (ws:=[dD!,dD_,aq!]) ?_ ?_
  .let e:(jB!).cps.toList=Eu:=by decide+kernel
   let:=oW (c:=32) [intC h,intC n,intC tm,Eu,dD!,dD_] s.cps.toList 6 (by
    intro w hw;simp![FD,FU,MV]at hw;obtain rfl|rfl|rfl|rfl|rfl|rfl:=hw
    .exact dC_
    .exact dC_
    .exact dC_
    .decide
    .exact pa.1
    .exact pb.1) c_ gF_
   show Dp 32 6 (Ht! [intC h,intC n,intC tm,(jB!).cps.toList,dD!,dD_,aq!])=_;rw[e];exact this
  .let e1:Ni [Eu,dD!,dD_,aq!]=3:=χ;delta Pf;rw[e1,show cutL oK_ X_ aG!=[dD!,dD_]from by simp[cutL,HT.sIx],show CO_ oK_ X_=[Eu]from by simp[cutL,HT.sIx],show Bp! oK_ aG!=[s.cps.toList]from by simp[cutL,HT.sIx]];let:Ha Gg [dD!,dD_]=ψ ac_:=by
    delta Ha;rw[pa.2,GX];delta Ha;rw[pb.2,GX];rfl
   rw[this];show ψ (D.tup [W Eu,a,b,W aq!])=_;rw[W,<-sL,W,mH]
 .let pr:∀x∈r,32∉wordC x/\Gg aP_=ψ x:=λx hx=>by
   let#[j,e]:=Gl_ hx;exact v.part e λz=>hk z.1
  exact qO v.hh v.hn v.ht (k:=cO_) (ws:=r.map wordC) ?_ ?_
  .let#[p,l,rfl]:=xW r v.r1;let h3:=v.r3;rw[FX,IG]at h3;let:=oW (c:=32) yN! (wordC l) 6 (by
    intro w hw;simp![FD]at hw;obtain rfl|rfl|rfl|rfl|hw:=hw
    .exact dC_
    .exact dC_
    .exact dC_
    .exact v.k32
    .let#[x,hx,rfl]:=GJ.mp hw;exact(pr x jK!).1) ao! (.inl (pr l c_).1)
   let e:EL_ yN_=yN!++[wordC l]:=by
    rw[FI,FI,FI,FI,GO];rfl
   show Dp 32 6 (Ht! (EL_ yN_))=_;rw[e,this,GO];rfl
  .let e1:Ni yO!=(((yO!).length:δ):Int):=by
    delta Ni;rw[FC (by
     intro z;simp at z;exact c5p hk z)]
   delta Pf;rw[e1,mid,las,a0v,sS (w:=wordC) (d:=id) r (λx hx=>(pr x hx).2)];show ψ (D.tup ([W cO_]++r.map id++[]))=_;rw[FY,List.map_id,W,mH];rfl
variable{t:Ck}
def b6y(r:e!):Dm "put" r=Vh r:=by delta Dm;rw[S!]
def b2q(r:e!):Dm "move" r=Rz r:=by delta Dm;rw[G!,S!]
def b2r(r:e!):Dm "drop" r=Sf r:=by delta Dm;rw[G!,G!,S!]
def a6d(r:e!):Dm "write" r=Nz r:=by delta Dm;rw[G!,G!,G!,S!]
def b6z(r:e!):Dm "cut" r=Vm r:=by delta Dm;rw[G!,G!,G!,G!,S!]
def b6x(r:e!):Dm "set" r=Va r:=by delta Dm;rw[G!,G!,G!,G!,G!,S!]
def b2o(r:e!):Dm "undo" r=Kb r:=by delta Dm;rw[G!,G!,G!,G!,G!,G!,S!]
def b2p(r:e!):Dm "redo" r=Kb r:=by delta Dm;rw[G!,G!,G!,G!,G!,G!,G!,S!]
def zB(h:Hg x):Ef x=τ/\Ct Bk 1 x=true:=by
 let#[a,b,rfl,O,h2,h3,h4]:=h;let q1:cN_<=Bk:=by delta Bk;omega
 let q2:cO!<=Bk:=by delta Bk;omega
 simp[Ef,belowK,Ec,O,h2,h3,Ct,q1,q2]
def mO(h:Fx x):Fh x=τ/\Ct Bk 1 x=true:=by
 obtain rfl|rfl|h:=h
 .exact yO_
 .exact yO_
 .let:=zB h;simp[Fh,this.1,this.2]
def c7o(h:Pz x):Sr x=τ/\Ct Bk 1 x=true:=by
 obtain rfl|h:=h
 .exact aa_
 .let:=zB h;simp[Sr,this.1,this.2]
def a8t(h:Ub x):Ek x=τ/\Ct Bk 1 x=true:=by
 let#[a,b,c,rfl,O,h2,h3,h4,h5,h6]:=h;let q1:cN_<=Bk:=by delta Bk;omega
 let q2:cO!<=Bk:=by delta Bk;omega
 let q3:jE_<=Bk:=by delta Bk;omega
 let q4:c<16:=by omega
 simp[Ek,belowK,Ec,O,h2,h3,h5,q4,Ct,q1,q2,q3]
def c8q(h:Mi x):Vp x=τ/\Ct Bk 1 x=true:=by
 obtain rfl|h:=h
 .exact aa_
 .let:=a8t h;simp[Vp,this.1,this.2]
def d4u(h:DG d):Gm d=τ/\Ct Bk 2 d=true:=by
 cases h with
 |put O h2=>
  let a:=mO O;let b:=c7o h2;exact#[by show Dm "put" _=τ;rw[b6y];simp[Vh,a.1,b.1],by simp[Ct,a.2,b.2];decide+kernel]
 |move O h2 h3=>
  let a:=mO O;let b:=mO h2;let c:=c7o h3;exact#[by show Dm "move" _=τ;rw[b2q];simp[Rz,a.1,b.1,c.1],by simp[Ct,a.2,b.2,c.2];decide+kernel]
 |drop O=>
  let a:=mO O;exact#[by show Dm "drop" _=τ;rw[b2r];simp[Sf,a.1],oL!]
 |@write a b s O h2 h3 h4 h5=>
  let a:=mO O;let b:=c8q h2;exact#[by show Dm "write" _=τ;rw[a6d];simp[Nz,a.1,b.1,Ld,h4,h5],by simp[Ct,a.2,b.2,h3];decide+kernel]
 |@cut a x y z m O h2 h3 h4=>
  let a:=mO O;let b:=a8t h2;let#[x',y',z',e,g]:=id h2;simp![D.tup.injEq,LW,D.int.injEq,and_true]at e;let#[rfl,rfl,rfl]:=e;let q:m.natAbs<=Bk:=by delta Bk;omega
  let qx:x.natAbs<=Bk:=by delta Bk;omega
  let qy:y.natAbs<=Bk:=by delta Bk;omega
  let qz:z.natAbs<=Bk:=by delta Bk;omega
  exact#[by show Dm "cut" _=τ;rw[b6z];simp[Vm,a.1,b.1,Ec,h3,within,h4,q],by simp[Ct,a.2,q,qx,qy,qz];decide+kernel]
 |@set a p n O h2 h3 h4=>
  let a:=mO O;let q1:p.natAbs<=Bk:=by delta Bk;omega
  let q2:gs!<=Bk:=by delta Bk;omega
  let q3:p<4:=by omega
  exact#[by show Dm "set" _=τ;rw[b6x];simp[Va,a.1,belowK,isInt,h2,q3,q2],by simp[Ct,a.2,q1,q2];decide+kernel]
 |undo O=>
  let a:=zB O;exact (Dk_ "undo" b2o)
 |redo O=>
  let a:=zB O;exact Dk_ "redo" b2p
def SW(w:b!):Prop:=bq_<=62/\∀c∈w,El c=τ
def iM{i:Int}(h:fS_):SW bm!:=⟨fA h,λc hc=>by
 obtain rfl|⟨O,h2⟩:=mP i c hc
 .decide
 .delta El;simp;omega⟩
def a7m{i:Int}(h:N_<10 ^ 4):(bm!).length<=5:=by
 let hn:∀{m:δ},m<10 ^ 4->(Iv m).length<=4:=λ{m} h=>by
  delta Iv;rw[EX];exact FN_ h
 cases i with
 |ofNat m=>
  rw[m9!];let:=hn (m:=m) h;omega
 |negSucc m=>
  rw[kP,FN];let:=hn (m:=m+1) h;omega
def a8l{is:B_}(hl:jF!<=3)(h:∀i∈is,N_<10 ^ 4):SW jF_:=by
 show"#A"
 .let O:=oN dA_ 46;let h2:∀(is:B_),yP_->(oA!).sum<=5*jF!:=by
   intro is
   induction is with
   |nil=>intro _;simp
   |cons i is ih=>
    intro h;let a:=a7m (h i EY);let b:=ih λj hj=>h j dF!;simp![FI,MZ,FN];omega
  let h3:=h2 is h;rw[EX]at O;omega
 .let key:∀(is:B_),yP_->∀c∈joinL 46 dA_,El c=true:=by
   intro is
   induction is with
   |nil=>intro _ c hc;cases hc
   |cons i is ih=>
    intro h c hc;let hi:=(iM (i:=i) (by let:=h i EY;omega)).2;by_cases he:is=[]
    .subst he;exact hi c hc
    .rw[FI,dN (AM! he)]at hc;obtain hc|hc:=FL.mp hc
     .exact hi c hc
     .obtain rfl|hc:=FD.mp hc
      .decide
      .exact ih (λj hj=>h j dF!) c hc
  exact key is h
def sD(h:Hg x):SW aP_:=by let#[a,b,rfl,h]:=h;exact a8l (is:=ac_) c_ ao!
def a5m{s:Str}(hl:E!<=62)(h:Lr s=τ):D0! cJ!:=by delta Lr at h;rw[FB,IM]at h;exact#[by show dl!<=62;rw[IE];exact hl,h.2]
def iL(h:Fx x):SW aP_:=by
 obtain rfl|rfl|h:=h
 .exact a5m d! d!
 .exact a5m d! d!
 .exact sD h
def b6b:SW (wordC .non):=dE!
def b6a(h:Pz x):SW aP_:=by
 obtain rfl|h:=h
 .exact b6b
 .exact sD h
def a1r(h:Ub x):SW aP_:=by let#[a,b,c,rfl,h]:=h;exact a8l (is:=dM_) c_ ao!
def c2q(h:Mi x):SW aP_:=by
 obtain rfl|h:=h
 .exact b6b
 .exact a1r h
def jH{xs:e!}:(∀x∈xs,SW aP_)->∀w∈xs.map wordC,SW w:=λh w hw=>by
 let#[x,hx,rfl]:=GJ.mp hw;exact h x hx
def c1g(h:DG d):∃ds,d=.tup ds/\e_<=4/\∀w∈ds.map wordC,SW w:=by
 let kw:∀s:Str,Lr s=τ->E!<=62->D0! cJ!:=λs a b=>a5m b a;cases h with
 |put O h2=>exact (BI_ (by simp[iL O,b6a h2,kw "put" d! d!]))
 |move O h2 h3=>exact (BI_ (by simp[iL O,iL h2,b6a h3,kw "move" d! d!]))
 |drop O=>exact (GA! iL "drop")
 |@write a b s O h2 h3 h4 h5=>exact (BI_ (by simp[iL O,c2q h2,kw s h3 a!,kw "write" d! d!]))
 |@cut a x y z m O h2 h3 h4=>
  let hm:D0! jn_:=iM (by
   let#[x',y',z',e,g]:=h2;simp![D.tup.injEq,LW,D.int.injEq,and_true]at e;omega)
  exact (BI_ (by simp[iL O,a1r h2,hm,kw "cut" d! d!]))
 |@set a p v O h2 h3 h4=>
  let hp:D0! (.int p):=iM a!;let hv:D0! (.int v):=iM a!;exact (BI_ (by simp[iL O,hp,hv,kw "set" d! d!]))
 |undo O=>exact (GA! sD "undo")
 |redo O=>exact GA! sD "redo"
def d3p(nd:t.nd){h n tm:Int}(h0:0<=h)(O:h<16)(n0:1<=n)(n1:n<=2000)(t0:1<=tm)(t1:tm<=2000)(hd:DG d):
  ∃(k:Str) (r:e!),D.tup oc!=Da! Sw/\Da! VO/\Cd t yK!=ψ ae_/\(∀w∈(.int h::.int n::.int tm::.str k::r:μ D).map wordC,SW w):=by
 let hB:=d4u hd;let ho:=d4t nd (n:=2) (a:=cJ_) (b:=a4_) (c:=eF!) (d:=d) a_ χ χ χ hB.2;let G:(belowK 16 jL!&&Ec cp_&&Ec (.int tm)&&Gm d)=true:=by
  rw[hB.1];let q2:gs!<=Bk:=by delta Bk;omega
  let q3:oD_<=Bk:=by delta Bk;omega
  simp[belowK,Ec,h0,O,n0,t0,q2,q3]
 rw[G]at ho;let#[h',n',tm',k,r,e,v]:=c9r G;simp![Sw,D.tup.injEq,LW,D.int.injEq,and_true]at e;let#[rfl,rfl,rfl,rfl]:=e;let#[ds,e,_,hw]:=c1g hd;injection e with e
 subst e;exact#[k,r,χ,v,ho,λw hm=>?_];obtain rfl|hm:=FD.mp hm
 .exact iM a!
 obtain rfl|hm:=FD.mp hm
 .exact iM a!
 obtain rfl|hm:=FD.mp hm
 .exact iM a!
 exact hw w hm
section
open Classical
def b0o:∀(l:U_) (d v:D),Cu (Fu l d v) d=ψ v
 |[],d,v=>by simp[Fu,Cu]
 |(k,x)::r,d,v=>by
  delta Fu;by_cases h:k=d
  .rw[FE h];simp[Cu,h]
  .rw[FC h];simp[Cu,h,b0o r d v]
def c8b(h:d≠e):∀(l:U_) (v:D),Cu (Fu l d v) e=Cu l e
 |[],v=>by simp[Fu,Cu,h]
 |(k,x)::r,v=>by
  delta Fu;by_cases hk:k=d
  .rw[FE hk];subst hk;simp[Cu,h]
  .rw[FC hk];simp![Cu];rw[c8b h r v]
def b9v:∀{l:U_} {d:D},Cu l d≠υ↔d∈l.map q!
 |[],d=>by simp[Cu]
 |(k,x)::r,d=>by
  delta Cu;by_cases hk:k=d
  .subst hk;simp
  .rw[FC hk,b9v];simp[GI hk]
nonrec def lst:D->μ D->D
 |a,[]=>a
 |_,x::u=>lst x u
def eH{N:Mh}(G:N b≠υ)(hq:N q=υ):b≠q:=λz=>G (w4_ z hq)
def b1b{R:E_}(k:f ρ M λ_ M1=>R ba! M1):Gv f ρ M R:=k
structure Op where
 h:Int
 n:Int
 tm:Int
 d:D
nonrec def Op.v(o:Op):D:=.tup jM_
nonrec def Op.nm(o:Op):D:=.tup [gG_,.int o.n]
def a4h{k:α->Int×Int}(h:yT_)(x:α):∀l:List α,Rb k' (f x) kt_=(Rb k x l).map f
 |[]=>rfl
 |y::r=>by
  simp![FI,Rb,h];split
  .rfl
  .rw[a4h h x r];rfl
def a1u{k:α->Int×Int}(h:yT_):∀l:List α,Jf k' kt_=(Jf k l).map f
 |[]=>rfl
 |x::r=>by rw[FI];delta Jf;rw[a1u h r,a4h h]
def b7f(h:cP!)(hk:cT!)(hl:cW!):Ug M O! y v=ψ pm!:=by simp[Ug,h,hk,hl]
def t2(ha:∀K':D->Mh->Prop,K' d M->fa ρ M K')(G:fb ρ=ψ v)(hg:g d v=ψ V_)(k:K b M):wT (w2 o8! fa (wl fb)) ρ M K:=by exact ha _ ?_;simp![wl,G,hg];exact k
def a8o(o:Op):Ak o.v υ (ψ 2)=ψ o.nm:=by simp[Op.v,Op.nm,Ak,cutL,HT.sIx]
section
def cH(h:aX_)(K:x!):wl f ρ M K=K d M:=by simp![wl,h]
def BS(C:uv!)(x:Str)(fo:g_)(ρ:Ac)(y:D)(M:Mh)(Q:gY!):Prop:=wl fo ρ M λd M2=>match d with
 |.fn p=>(match M2 p with|some (.obj C' fs)=>C'=C/\aT!<100/\Q zO_|_=>False)
 |_=>False
def xZ{R:E_}(h:f ρ M λy M1=>E4! M1 λM2=>R ba! M2):Mu C x eL_ f ρ M R:=h
def sQ{R:E_}(h:f ρ M λy M1=>E4! M1 λM2=>q ρ M2 R):CG_ (Mu C x eL_ f):=h
def kZ(h0:gH!)(hM:M p=ψ (.obj C fs))(hl:aT!<100)(hf:Im x y fs=sx)(k:Q (CC_ (.obj C sx))):E4! M Q:=by delta BS;rw[cH h0];show(match M p with|some (.obj C' fs)=>C'=C/\aT!<100/\Q (CC_ zO!)|_=>False);rw[hM];subst hf;exact#[χ,hl,k]
variable{M0:Mh}
end
def Pu(f:WE)(ρ:Ac)(M:Mh)(d:D):Prop:=∀K:D->Mh->Prop,K d M->f ρ M K
def Pk(f:WT)(ρ:Ac)(M:Mh)(b:Bool):Prop:=∀K:Bool->Mh->Prop,K b M->f ρ M K
def Yt(g:WF)(ds:e!)(M:Mh)(d:D):Prop:=∀K:D->Mh->Prop,K d M->g ds M K
def eC(h:R x):Jk kf_ R:=h
def bD(h:aX_):Bi_ eJ_ d:=λK hK=>by rw[cH h];exact hK
def gZ(h:Bi_ fo cx_)(hM:M a=ψ (.obj C fs))(hv:BB! x=ψ v):Bi_ (Hj C x fo) v:=λK hK=>by
 exact h _ ?_;let:Wz C x M cx_=ψ v:=by simp![Wz,hM,IB,hv]
 rw[this];exact hK
def gG(ha:Bi_ fa x)(G:Bi_ fb y)(hg:g M x y=ψ d):Bi_ (w2 g fa fb) d:=λK hK=>by
 exact ha _ (G _ ?_);rw[hg];exact hK
def tH(ho:Bi_ fo O!)(ha:Bi_ fa y)(G:Bi_ fb z)(hp:cP!)(hk:cT!)(hd:(Cu h1 y).getD z=d):Bi_ (Ml fo fa fb) d:=λK hK=>by
 let c:Gr M O!=ψ pf_:=by simp[Gr,hp]
 exact ho _ ?_;rw[c];exact ha _ (G _ ?_);rw[c,hk];show K ((Cu h1 y).getD z) M;rw[hd];exact hK
def a2n(h:Bi_ f x)(hg:g M [x]=ψ d):Bi_ (w1 g (Af f Av)) d:=λK hK=>by
 exact h _ ?_;show Jk (g M [x]) λd=>K d M;rw[hg];exact hK
def iD{f1 f2:WE}(O:Bi_ f1 a)(h2:Bi_ f2 b)(hg:Yt g ac_ M d):Bi_ (Ep 2 g (Af f1 (Af f2 Av))) d:=λK hK=>by
 exact O _ (h2 _ yV_)
def tG{fo f1:WE}(h0:Bi_ fo (.fn o))(ho:Pc C m M (.fn o))(O:Bi_ f1 a)(hg:Yt g [.fn o,a] M d):Bi_ (Qd C m 2 g fo (Af f1 Av)) d:=λK hK=>by
 exact h0 _ #[ho,O _ yV_]
def rW(h:Bi_ f V_):EM! (wT f) b:=λK hK=>by delta wT;exact h _ hK
def jD(h:f ρ=ψ b):EM! (Iz f) b:=λK hK=>by delta Iz;rw[h];exact hK
def eI(h:jN_)(k:q b2_ M R):CG_ (Ce i f):=by exact h _ k
def fU(h:jN_)(k:R ai! M):Ei f ρ M R:=by delta Ei;exact h _ k
def gY(h:oO_)(k:F1! q1):C3_ ft:=by exact h _ ?_;rw[S!];exact k
def pH(h:yW_)(k:oP!):C3_ ft:=by exact h _ ?_;rw[aQ!];exact k
def gV(h:yW_)(k:oP!):FC! q1:=by exact pH h k
end
def lH(h:Hg x):Bm x=τ/\dep x<=1:=by let#[a,b,rfl,_]:=h;simp[Bm,Cm,dep,Du]
def dY(h:Fx x):Bm x=τ/\dep x<=1:=by
 obtain rfl|rfl|h:=h
 .simp[Bm,dep]
 .simp[Bm,dep]
 .exact lH h
def xY(h:Pz x):Bm x=τ/\dep x<=1:=by
 obtain rfl|h:=h
 .simp[Bm,dep]
 .exact lH h
def a8r(h:Mi x):Bm x=τ/\dep x<=1:=by obtain rfl|⟨a,b,c,rfl,_⟩:=h<;>simp[Bm,Cm,dep,Du]
def d4d(h:DG d):Bm d=τ/\dep d<=2:=by
 cases h with
 |put O h2=>simp![Bm,Cm,dep,Du,dY O,xY h2,JB,LX];let:=(eM_).2;let:=(xY h2).2;omega
 |move O h2 h3=>simp![Bm,Cm,dep,Du,dY O,dY h2,xY h3,JB,LX];let:=(eM_).2;let:=(dY h2).2;let:=(xY h3).2;omega
 |drop O=>simp![Bm,Cm,dep,Du,dY O,JB,LX];let:=(eM_).2;omega
 |write O h2=>simp![Bm,Cm,dep,Du,dY O,a8r h2,JB,LX];let:=(eM_).2;let:=(a8r h2).2;omega
 |cut O=>simp![Bm,Cm,dep,Du,dY O,JB,LX];let:=(eM_).2;omega
 |set O=>simp![Bm,Cm,dep,Du,dY O,JB,LX];let:=(eM_).2;omega
 |undo O=>simp![Bm,Cm,dep,Du,lH O,JB,LX];let:=(lH O).2;omega
 |redo O=>simp![Bm,Cm,dep,Du,lH O,JB,LX];let:=(lH O).2;omega
nonrec def hs(os:k!)(h:Int):μ Op:=os.filter λo=>decide (o.h=h)
structure Yy(l:k!):Prop where
 num:∀(i:δ) (o:Op),l[i]?=ψ o->o.n=oQ!+1
 tim:l.Pairwise λa b=>a.tm<b.tm
structure Es(o:Op):Prop where
 hh:0<=o.h/\o.h<16
 t1:1<=o.tm
 t2:o.tm<=1000
 n1:1<=o.n
 n2:o.n<=2000
 dg:DG o.d
structure Hd(os:k!):Prop where
 ch:∀h,Yy oQ_
 op:∀o∈os,Es o
def Yy.nil:Yy []:=#[λi o e=>by simp at e,oJ_]
def Yy.snoc{o:Op}(h:Yy l)(e:o.n=(bt_:δ)+1)(ht:∀x∈l,x.tm<o.tm):Yy (l++[o]):=by
 exact#[λi x hx=>?_,?_]
 .obtain c|c:=JA i bt_
  .rw[IF c]at hx;exact h.num i x hx
  .rw[HI c]at hx;obtain z|z:=Nat.eq_zero_or_pos (i - bt_)
   .rw[z]at hx;simp at hx;subst hx;rw[e];omega
   .rw[II ao!]at hx;cases hx
 .rw[List.pairwise_append];exact#[h.tim,List.pairwise_singleton _ _,λa ha b G=>by rw[FR.mp G];exact ht a ha]
def fJ{a b:k!}{h:Int}:hs cQ_ h=hs a h++hs b h:=by delta hs;rw[List.filter_append]
def mQ{o:Op}{h:Int}:hs [o] h=if o.h=h then[o]else[]:=by
 delta hs;by_cases c:o.h=h
 .rw[FE c,yX_];rfl
 .rw[FC c,yY!];rfl
def pT{os:k!}:o∈hs os h↔o∈os/\o.h=h:=by delta hs;rw[LU];simp
def Hd.nil:Hd []:=#[λh=>Yy.nil,λo ho=>by cases ho]
def Hd.snoc{os:k!}{o:Op}(h:Hd os)(hf:Es o)(e:o.n=((hs os o.h).length:δ)+1)(ht:∀x∈os,x.h=o.h->x.tm<o.tm):Hd (os++[o]):=by
 exact#[λk=>?_,bX!]
 .rw[fJ,mQ];by_cases c:o.h=k
  .rw[FE c];subst c;exact(h.ch _).snoc e λx hx=>ht x (pT.mp hx).1 (pT.mp hx).2
  .rw[FC c,FY];exact h.ch k
 .obtain z|z:=FL.mp hx
  .exact h.op x z
  .rw[b9!];exact hf
def c0d(os:k!)(h:Int):(oQ_).length<=eN_:=List.length_filter_le _ _
section
open Classical
def a0d{ep:δ}{M:Mh}(h:cP!)(hk:cT!):Kg M O! y=Cu h1 y:=by simp[Kg,h,hk]
def fV(o:Op):Ao o.v a8_=ψ cR!:=by simp[Op.v,Ao,Da,Dd]
def jP(o:Op):Ao o.v bF!=uY_ o.n:=by simp[Op.v,Ao,Da,Dd]
def jO(o:Op):Ao o.v iv!=ψ gK!:=by simp[Op.v,Ao,Da,Dd]
def iF:∀{ds:e!},(∀d∈ds,Bm d=τ)->Cm ds=τ
 |[],_=>by simp[Cm]
 |d::ds,h=>by
  delta Cm;rw[h d EY,iF λx hx=>h x b5!];rfl
def kU:∀{ds:e!},(∀d∈ds,dep d<=n)->Du ds<=n
 |[],_=>by simp[Du]
 |d::ds,h=>by
  delta Du;let O:=h d EY;let h2:=kU λx hx=>h x (EW d hx);omega
def fM{o:Op}(h:DG o.d):Bm o.v=τ/\dep o.v<=5:=by
 let#[O,h2]:=d4d h;show"#A"
 .show Cm jM_=τ;exact iF λd hd=>?_;simp![FD,FU,MV]at hd;obtain rfl|rfl|rfl|rfl:=hd
  .rfl
  .rfl
  .rfl
  .exact O
 .show Du jM_+1<=5;let:Du jM_<=2:=kU λd hd=>by
   simp![FD,FU,MV]at hd;obtain rfl|rfl|rfl|rfl:=hd
   .simp[dep]
   .simp[dep]
   .simp[dep]
   .exact h2
  omega
nonrec def hF(yy:Int)(ta wa:uv!)(bd:D):μ dv!:=[("ours",.int yy),("taken",.fn ta),("waiting",.fn wa),("outline",bd)]
def hF1:Eu_ y1_ dF_=ψ (D.int yy):=by kernel_rfl
def hF2:Eu_ y2! dF_=ψ (D.fn ta):=by kernel_rfl
def hF3:Eu_ y2_ dF_=ψ (D.fn wa):=by kernel_rfl
def hM1:List.lookup (qZ! "have") dF_=none:=by kernel_rfl
def hP1:Im y1_ gK_ []=[eO!]:=by kernel_rfl
def hP2:Im y2! (.fn ta) [eO!]=jP_:=by kernel_rfl
def hP3:Im y2_ cR_ jP_=jQ!:=by kernel_rfl
def hP4:Im y4! .non jQ!=hF yy ta wa .non:=by kernel_rfl
def hP5:Im y4! o2 dF_=hF yy ta wa o2:=by kernel_rfl
structure Dg(t:Ck)(M:Mh)(yy:Int)(a ta wa:uv!)(Wt:k!)(bd:D)(S:k!)(kl:B_)(ca:oS!):Prop where
 ob:M a=ψ (.obj t.B2 dF_)
 tk:∃ep,M ta=CV! jQ_ ep
 wt:M wa=qX_ ay!
 cl:∀h∈kl,M (ca h)=GC! gL_ Op.v
 nk:kl.Nodup
 mem:∀h,h∈kl↔hs S h≠[]
 cw:∀h∈kl,ca h≠wa
 ci:∀h∈kl,∀h'∈kl,ca h=ca h'->h=h'
 len:kl.length<=cS!
def Ow(a ta wa:uv!)(kl:B_)(ca:oS!)(b:uv!):Prop:=b=a\/b=ta\/b=wa\/∃h∈kl,b=ca h
structure Mv(M:Mh)(dq:oz_)(M':Mh)(O':oz_):Prop where
 k:∀b,M b≠υ->¬dq b->M' b=M b
 n:∀b,O' b->dq b\/M b=υ
def fH{g:Int->D}:∀{kl:B_} {x:Int},Cu (kl.map λh=>(D.int h,g h)) (.int x)=if x∈kl then Hr! g else υ
 |[],x=>by simp[Cu]
 |k::kl,x=>by
  rw[FI];delta Cu;by_cases e:k=x
  .subst e;simp
  .rw[FC λz=>e (D.int.inj z),fH];simp[GI e]
section
variable{t:Ck}{M:Mh}{yy:Int}{a ta wa:uv!}{Wt:List Op}{bd:D}{S:List Op}{kl:List Int}{ca:Int->Addr}
def Dg.nob(hA:as_)(hm:D2_ dF_ m=υ):Pc t.B2 m M cx_:=by show(match M a with|some (.obj C' fs)=>C'=t.B2/\fs.lookup m=υ|_=>False);rw[hA.ob];exact#[χ,hm]
def Dg.nol(hA:as_){h:Int}(hh:h∉kl):hs S h=[]:=Classical.byContradiction λz=>hh ((hA.mem h).mpr z)
def Dg.keep{M':Mh}(hA:as_)(k:∀b,M b≠υ->M' b=M b):Hw_ M' Wt:=by let#[ep,ht]:=hA.tk;exact{hA with ob:=(k a oS_).trans hA.ob,tk:=#[ep,(k ta oT!).trans ht],wt:=(k wa oT_).trans hA.wt,cl:=λh hh=>(k _ oU!).trans (Dv_ hh)}
def a0h{h:Int}(hA:as_):Yt (Fc t) [ay_,cJ_] M oV!:=λK hK=>by
 let#[ep,ht]:=hA.tk;exact I_;by_cases c:h∈kl
 .let hl:Jz M [.fn (ca h)]=ψ oV!:=by
   show(Cp_ oV_)=_;simp![Mo,Dv_ c,JF,EX]
  exact BK! FE
 .let hl:Jz M [.lst []]=ψ oV!:=by rw[hA.nol c];rfl
  exact BK! FC
def mX{o:Op}(hA:as_):Ga! Gj (Bt! jS_):=λK hK=>by
 exact I_;exact fU (gG (bD (jP o)) y6! χ) hK
def uE{o:Op}(hA:as_):Ga! Jx (.bl dG!):=λK hK=>by
 exact I_;exact fU (gG (bD (jP o)) (gG y6! (Ed! 1) (d:=.int (jS!+1)) χ) aR!) hK
nonrec def lt(S:k!)(h:Int):Int:=((gL_).getLast?.map Op.tm).getD 0
def c5u(h:xs.getLast?=ψ v):Da xs (-1)=ψ v:=by
 let hl:0<h!:=by cases xs with|nil=>cases h|cons a l=>simp
 delta Da Dd;rw[a5_,aS!];show xs[((-1:Int)+h!).toNat]?=_;rw[show((-1:Int)+xs.length).toNat=xs.length - 1 by omega,<-List.getLast?_eq_getElem?];exact h
def nR{h:Int}(hA:as_):Yt (Fa t) [ay_,cJ_] M y7_:=λK hK=>by
 let#[ep,ht]:=hA.tk;exact I_;show At vi! vi_ y8! M _;let hv:=rW (gG (g:=λ_=>Be) (ρ:=y8!) (tG gM_ (hA.nob hM1) (bD (f:=Aa 1) (d:=cJ_) χ) (a0h hA)) (bD (f:=fC a8_) χ) aR!);by_cases c:hs S h=[]
 .rw[c]at hv;delta At;exact gY hv (fU oX_ ?_);delta lt at hK;rw[c]at hK;exact hK
 .let hl:0<(gL_).length:=LV.mpr c;rw[show((oU_:Int)==0)=θ from by rw[FS];omega]at hv;exact gV hv ?_;let hk:=(hA.mem h).mpr c;obtain⟨o,ho⟩:∃o,(hs S h).getLast?=ψ o:=by cases e:(gL_).getLast? with|some o=>exact#[o,χ]|none=>exact Ac_ (G2! e) c
  let i1:Kg M (.fn ta) jL!=ψ oV_:=EM_ oW_;let i2:Kg M oV_ (.int (-1))=ψ o.v:=by
   simp![Kg,Dv_ hk];exact c5u (by rw[List.getLast?_map,ho];rfl)
  let e:lt S h=o.tm:=by delta lt;rw[ho];rfl
  rw[e]at hK;exact fU (gG (gG (gG jR_ oW! i1) (Ed! (-1)) i2) zb! (jO o)) hK
def b4a{ρ:Ac}{fy:g_}{R:x!}(hy:fy ρ=ψ gK_)(hR:∀a ta wa M',M a=υ->BN_ M' [] .non [] [] jT_->ca!->(∀b,Ow a ta wa [] jT_ b->M b=υ)->R cx_ M'):Ed_ (HU_ fy) ρ M R:=by
 delta Qe Af Av;rw[cH hy];exact#[rfl,λa ha=>I_];exact sQ ?_;rw[cH (f:=Aa 1) (d:=gN!) rfl];exact kZ (fs:=[]) rfl bL a_ hP1 ?_;generalize e1:mup (mup M a (.obj t.B2 [])) a zb_=M1;let a1:M1 a=some zb_:=by rw[<-e1];exact bL
 let o1:∀b,b≠a->M1 b=M b:=λb G=>by rw[<-e1,bC G,bC G]
 exact sQ ?_;intro ta QV;let vy:a≠ta:=eH (by rw[a1];simp) QV;exact kZ (fs:=[eO!]) rfl ((bC vy).trans a1) (by show 1<100;decide) hP2 ?_;generalize e2:mup (mup M1 ta cX_) a zc!=M2;let a2:M2 a=some zc!:=by rw[<-e2];exact bL
 let U2:M2 ta=ψ cX_:=by rw[<-e2,bC jU!];exact bL
 let o2:∀b,b≠a->b≠ta->M2 b=M b:=λb G hc=>by rw[<-e2,bC G,bC hc];exact o1 b G
 exact sQ ?_;exact#[J!,λwa xq=>?_];let xr:a≠wa:=eH (by rw[a2];simp) xq;let U3:ta≠wa:=eH (by rw[U2];simp) xq;exact kZ (fs:=jP_) rfl ((bC xr).trans a2) zd! hP3 ?_;generalize e3:mup (mup M2 wa eO_) a zd_=M3;let a3:M3 a=some zd_:=by rw[<-e3];exact bL
 let o3:∀b,b≠a->b≠wa->M3 b=M2 b:=λb G hc=>by rw[<-e3,bC G,bC hc]
 let w3:M3 wa=ψ eO_:=by rw[<-e3,D0_ xr];exact bL
 exact xZ ?_;rw[oY_];exact kZ (fs:=jQ!) χ a3 zd! hP4 ?_;exact#[χ,hR a ta wa _ ha #[bL,#[0,?_],?_,oZ!,LG,λh=>by simp[hs],oZ!,oZ!,FF _] dR! λb G=>?_]
 .rw[bC jU!,o3 ta jU! U3];exact U2
 .rw[D0_ xr];exact w3
 .let ba:b≠a:=eH G ha;let bt:b≠ta:=eH (N:=M1) (by rw[o1 b ba];exact G) QV;let bw:b≠wa:=eH (N:=M2) (by rw[o2 b ba bt];exact G) xq;rw[bC ba,o3 b ba bw,o2 b ba bt]
 .obtain rfl|rfl|rfl|⟨_,h,_⟩:=G
  .exact ha
  .rw[<-o1 _ jU!];exact QV
  .rw[<-o2 _ (GI xr) (GI U3)];exact xq
  .cases h
end
nonrec def nh(S:k!)(h:Int):Int:=(oU_:Int)
section
variable{t:Ck}{M:Mh}{ρ:Ac}{yy:Int}{a ta wa:uv!}{Wt:List Op}{bd:D}{S:List Op}{kl:List Int}{ca:Int->Addr}
def cW(hp:cP!):Gr M O!=ψ pf_:=by simp[Gr,hp]
def xM(hp:gO_):Nj M O!=ψ (p,xs):=by simp[Nj,hp]
def DD(fa:g_)(ρ:Ac)(d:D)(M:Mh)(R:x!):Prop:=F2_ M λ_=>wl fa ρ M λv M2=>F2_ M2 λq=>q.2.length<big/\EF! zH_
def c3c(h:fo ρ M λd M1=>DD fa ρ d M1 λ_ M2=>q ρ M2 R):CG_ (Gv (Rn fo gy!)):=h
def uY{xs:e!}{f:g_}{R:x!}(hp:gO_)(hf:oZ_)(hl:h!<big)(k:R .non (CC_ (.lst (xs++[v])))):DD f ρ O! M R:=by delta DD;rw[xM hp];exact eC ?_;rw[cH hf,xM hp];exact eC #[hl,k]
def c2x{h1:U_}{ep:δ}{fo:WE}{fa:g_}{K:x!}(ho:Bi_ fo O!)(O:o0!)(hp:cP!)(hk:cT!)(hl:cW!)
  (old:∀q v,M q=υ->Cu h1 y=ψ v->K v gP!)(new:∀q,M q=υ->Cu h1 y=υ->K eP! (mup gP! p (.dct (Fu h1 y eP!) cS_))):Gf fo gy! (Ti Av) ρ M K:=by
 delta Gf;exact ho _ ?_;rw[cW hp];exact eC ?_;rw[cH O];exact#[J!,λq hq=>?_];let pq:p≠q:=eH ze! hq;show Jk (Gr gP! O!) _;rw[cW (HD_ pq hp)];exact eC ?_;rw[hk];exact eC o0_;cases e:Cu h1 y with
 |some v=>exact old q v hq e
 |none=>exact new q hq e
def b5l{o:Op}{R:x!}(hA:as_)(hS:cS!<200)(hR:∀M' og oi,BN_ M' Wt .non (S++[o]) og oi->Mv M (Ow a ta wa kl ca) M' (Ow a ta wa og oi)->EF! M'):Ma t gM! M R:=by
 let#[ep,ht]:=hA.tk;exact I_;exact c3c ?_;let i0:BO! w_ cT_=ψ cR!:=fV o;let hkl:kl.length<200:=OC hA.len hS;let hlS:(bs!).length<200:=OC (c0d S o.h) hS;let at_:a≠ta:=λz=>by let:=hA.ob;rw[z,ht]at this;cases this
 let aw:a≠wa:=λz=>by let:=hA.ob;rw[z,hA.wt]at this;cases this
 let tw:ta≠wa:=λz=>by rw[z,hA.wt]at ht;cases ht
 let cA:∀h∈kl,ca h≠a:=λh hh z=>by let:=Dv_ hh;rw[z,hA.ob]at this;cases this
 let cT:∀h∈kl,ca h≠ta:=λh hh z=>by let:=Dv_ hh;rw[z,ht]at this;cases this
 exact c2x (k:=jV_) jR_ i0 ht χ b8_ (λq v hq e=>?_) (λq hq e=>?_)
 .let aq:a≠q:=eH oS_ hq;let tq:ta≠q:=eH oT! hq;let wq:wa≠q:=eH oT_ hq;let cq:∀h∈kl,ca h≠q:=λh hh=>eH oU! hq;rw[fH]at e;let c:o.h∈kl:=by
   by_cases c:o.h∈kl
   .exact c
   .rw[FC c]at e;cases e
  rw[FE c]at e;cases e;exact uY (p:=ca o.h) (v:=o.v) ((bC (cq _ c)).trans (hA.cl _ c)) rfl b8_ ?_;generalize e2:mup gP! jW! ze_=M2;let m2:∀b,b≠q->b≠ca o.h->M2 b=M b:=λb O h2=>by rw[<-e2,bC h2,bC O]
  let Z5:M2 jW!=ψ ze_:=by rw[<-e2];exact bL
  exact xZ ?_;rw[oY_];exact kZ (fs:=zf!) χ (Ga_ (GI (cA _ c))) zg! hP5 ?_;exact hR _ kl ca #[bL,#[ep,?_],?_,o1!,hA.nk,λh=>?_,hA.cw,hA.ci,?_] #[zg_,fY_]
  .rw[D0_ at_,m2 ta tq (GI (cT _ c))];exact ht
  .rw[D0_ aw,m2 wa wq (GI (hA.cw _ c))];exact hA.wt
  .rw[bC (cA h hh),fJ,mQ];by_cases z:o.h=h
   .rw[FE z,<-z,Z5,GO];rfl
   .rw[FC z,FY,m2 _ (cq h hh) λy=>z (hA.ci _ hh _ c y).symm];exact Dv_ hh
  .rw[fJ,mQ];by_cases z:o.h=h
   .rw[FE z];subst z;simp[c]
   .rw[FC z,FY];exact hA.mem h
  .rw[FX];let:=hA.len;omega
  .rw[zh!,m2 b o2! λz=>ho (.inr (Bb_ #[_,c,z]))]
 .let aq:a≠q:=eH oS_ hq;let tq:ta≠q:=eH oT! hq;let wq:wa≠q:=eH oT_ hq;let cq:∀h∈kl,ca h≠q:=λh hh=>eH oU! hq;rw[fH]at e;let c:o.h∉kl:=by
   by_cases c:o.h∈kl
   .rw[FE c]at e;cases e
   .exact c
  let Z6:Fu jQ_ cR! eP!=jQ_++zh_:=tU (λz=>by
   rw[HU]at z;let#[x,hx,ex]:=GJ.mp z;exact c (by rw[<-D.int.inj ex];exact hx))
  rw[Z6];exact uY (p:=q) (v:=o.v) (xs:=[]) ((bC (GI tq)).trans bL) rfl a_ ?_;generalize e2:mup (mup gP! ta zi_) q (.lst ([]++bd!))=M2;let m2:∀b,b≠q->b≠ta->M2 b=M b:=λb O h2=>by rw[<-e2,bC O,bC h2,bC O]
  let Z7:M2 q=qX_ bd!:=by rw[<-e2];exact bL
  let Z8:M2 ta=ψ zi_:=by rw[<-e2,bC tq];exact bL
  exact xZ ?_;rw[oY_];exact kZ (fs:=zf!) χ (Ga_ at_) zg! hP5 ?_;let nc:∀h∈kl,h≠o.h:=λh hh z=>c (z▸hh);let QT:hs S o.h=[]:=hA.nol c;exact hR _ (kl++[o.h]) (λh=>if h=o.h then q else ca h) #[bL,#[ep+1,?_],?_,o1!,?_,λh=>?_,o1!,λh hh h' ql ee=>?_,?_] #[zg_,c8_]
  .rw[D0_ at_,Z8,GO];congr 3
   .apply NW;intro h hh;rw[FC (nc h hh)]
   .show _=[(D.int o.h,D.fn (if o.h=o.h then q else ca o.h))];rw[S!]
  .rw[D0_ aw,m2 wa wq (GI tw)];exact hA.wt
  .show mup M2 a _ o4_=_;by_cases z:h=o.h
   .rw[FE z,D0_ aq,Z7,z,fJ,mQ,S!,QT];rfl
   .let ql:h∈kl:=(o5!).resolve_right λy=>z o5_;rw[FC z,bC (cA h ql),m2 _ (cq h ql) (cT h ql),fJ,mQ,FC (GI z),FY];exact Dv_ ql
  .rw[LD];exact#[hA.nk,GZ.mpr #[FU,LG],λx hx y hy=>by rw[FR.mp hy];exact nc x hx]
  .rw[fJ,mQ,FL,FR];by_cases z:o.h=h
   .rw[FE z];simp[z]
   .rw[FC z,FY,<-hA.mem h];simp[GI z]
  .show o4_≠wa;by_cases z:h=o.h
   .rw[FE z];exact GI wq
   .rw[FC z];exact hA.cw h ((o5!).resolve_right λy=>z o5_)
  .let g:∀x,x∈kl++[o.h]->x≠o.h->x∈kl:=λx hx z=>(gQ!).resolve_right λy=>z o5_;let sj:o4_=(if h'=o.h then q else ca h'):=ee;by_cases z:h=o.h
   .by_cases z':h'=o.h
    .rw[z,z']
    .rw[FE z,FC z']at sj;exact Ac_ sj.symm (cq h' (g h' ql z'))
   .by_cases z':h'=o.h
    .rw[FC z,FE z']at sj;exact Ac_ sj (cq h (g h hh z))
    .rw[FC z,FC z']at sj;exact hA.ci h (g h hh z) h' (g h' ql z') sj
  .rw[FX,FX];let:=hA.len;simp;omega
  .rw[zh!,m2 b o2! λz=>ho o6_]
  .obtain z|z|z|⟨h,hh,z⟩:=G
   .exact .inl em!
   .exact .inl o6_
   .exact G6_ o6_
   .let z':b=if h=o.h then q else ca h:=z
    by_cases e:h=o.h
    .rw[FE e]at z';rw[z'];exact .inr hq
    .rw[FC e]at z';exact G6_ (Bb_ #[h,(o5!).resolve_right λx=>e (FR.mp x),z'])
variable{kg:List Op}{s:Z9}{o:Op}
end
mutual
noncomputable def Ox:D->Bool
 |.non=>τ
 |.int _=>τ
 |.str _=>τ
 |.tup xs=>Sv xs
 |_=>θ
noncomputable def Sv:List D->Bool
 |[]=>τ
 |x::xs=>Ox x&&Sv xs
end
mutual
theorem c0y:∀(a b:D),Ox a=τ->Ox b=τ->Dl a b=τ->a=b
 |.non,b,_,G,e=>by cases b<;>first|rfl|(simp[Dl]at e)|(simp[Ox]at G)
 |.int i,b,_,G,e=>by cases b<;>first|(simp[Ox]at G;done)|(simp[Dl]at e;rw[e])|(simp[Dl]at e)
 |.str i,b,_,G,e=>by cases b<;>first|(simp[Ox]at G;done)|(simp[Dl]at e;rw[e])|(simp[Dl]at e)
 |.tup xs,b,ha,G,e=>by
  cases b with
  |tup ys=>
   let:=b1d xs ys (DI! Ox ha) (DI! Ox G) (DI! Dl e);rw[this]
  |_=>simp[Dl]at e
theorem b1d:∀(a b:e!),Sv a=τ->Sv b=τ->Go a b=τ->a=b
 |[],b,_,_,e=>by cases b with|nil=>rfl|cons=>simp[Go]at e
 |x::xs,b,ha,G,e=>by
  cases b with
  |nil=>simp[Go]at e
  |cons y ys=>
   simp![Sv,FB]at ha G;simp![Go,FB]at e;rw[c0y x y ha.1 G.1 e.1,b1d xs ys ha.2 G.2 e.2]
end
def nN(h:Hg x):Ox x=true:=by let#[a,b,rfl,_]:=h;rfl
def gP(h:Fx x):Ox x=true:=by
 obtain rfl|rfl|h:=h
 .rfl
 .rfl
 .exact nN h
def a8u(h:Pz x):Ox x=true:=by
 obtain rfl|h:=h
 .rfl
 .exact nN h
def b6k(h:Mi x):Ox x=true:=by
 obtain rfl|h:=h
 .rfl
 .let#[a,b,c,rfl,_]:=h;rfl
def a4r(h:DG d):Ox d=true:=by
 cases h with
 |put O h2=>simp[Ox,Sv,gP O,a8u h2]
 |move O h2 h3=>simp[Ox,Sv,gP O,gP h2,a8u h3]
 |drop O=>simp[Ox,Sv,gP O]
 |write O h2 _ _ _=>simp[Ox,Sv,gP O,b6k h2]
 |cut O h2 _ _=>simp[Ox,Sv,gP O]
 |set O _ _ _=>simp[Ox,Sv,gP O]
 |undo O=>simp[Ox,Sv,nN O]
 |redo O=>simp[Ox,Sv,nN O]
def c9s{x y:Op}(h:x.v=y.v):x=y:=by let#[a,b,c,d]:=x;let#[a',b',c',d']:=y;simp![Op.v,D.tup.injEq,LW,D.int.injEq,and_true]at h;let#[rfl,rfl,rfl,rfl]:=h;rfl
def a7r{x y:Op}(hx:Es x)(hy:Es y):Dl x.v y.v=decide (x=y):=by
 rw[JW,FV];show"#A"
 .intro e;exact c9s (c0y _ _ ?_ ?_ e)
  .simp[Op.v,Ox,Sv,a4r hx.dg]
  .simp[Op.v,Ox,Sv,a4r hy.dg]
 .rintro rfl;exact uL _ (fM hx.dg).1
def b8r{x y:Op}(hx:Es x)(hy:Es y):Ea x.v y.v=GV_ (x≠y):=by delta Ea;let O:=fM hx.dg;let h2:=fM hy.dg;rw[O.1,h2.1,a7r hx hy,show decide (dep x.v<=40)=τ from FH a!];by_cases c:x=y<;>simp[c]
section
variable{t:Ck}{M M0:Mh}{ρ:Ac}{yy:Int}{a ta wa p:uv!}{Wt:List Op}{bd:D}{S dn:List Op}{kl:List Int}{ca:Int->Addr}{E:EK}{o:Op}
def a5p{h1:U_}{ep:δ}{fo fa fb:g_}{K:x!}(h0:gH!)(O:o0!)(h2:fb ρ=ψ z)(hp:cP!)(hk:cT!)(hl:cW!)(hn:y∉h1.map q!)(hK:K z (CC_ (.dct (h1++[(y,z)]) cS_))):FC_ M:=by delta Gf;rw[cH h0,cW hp];exact eC ?_;rw[cH O,cU!,cW hp,hk];exact eC (eC o0_);rw[a3y hn,tU hn];exact hK
def a5o{h1:U_}{ep:δ}{fo fa fb:g_}{K:x!}(h0:gH!)(O:o0!)(h2:fb ρ=ψ z)(hp:cP!)(hk:cT!)(hl:cW!)(hn:Cu h1 y=ψ v)(hK:K v M):FC_ M:=by delta Gf;rw[cH h0,cW hp];exact eC ?_;rw[cH O,cU!,cW hp,hk];exact eC (eC o0_);rw[hn];exact hK
def a7a(o:Op):Ao o.nm a8_=ψ cR!:=by simp[Op.nm,Ao,Da,Dd]
def d0e(o:Op):Ao o.nm bF!=uY_ o.n:=by simp[Op.nm,Ao,Da,Dd]
def lS{x:Op}:x.nm=o.nm↔x.h=o.h/\x.n=o.n:=by simp[Op.nm]
def a6f{i:δ}{R:E_}(hd:zo!)(hs:Zf d)(h:E C υ M):Gn C E zp! ρ M R:=#[#[#[d,hd,hs],ο],λ_=>h]
def b8p(h:Es o):Zf o.nm:=by
 let O:=h.hh;let h2:=h.n1;let h3:=h.n2;let z:(2000:δ)<10 ^ 60:=by decide
 exact#[n!,n!]
def Ol(o x:Op):Bool:=decide zp_
def Nv(S:k!)(yy:Int)(o:Op)(dn:k!):GT! Op:=
 if o.n<=nh S o.h then(if bs![(cU_).toNat]?=ψ o then ψ dn else υ)
 else if o.h=yy then υ
 else match dn.find? gR_ with
  |some x=>if x=o then ψ dn else υ
  |none=>ψ j0!
def Pj(S:k!)(yy:Int):μ Op->μ Op->GT! Op
 |[],dn=>ψ dn
 |o::os,dn=>GW! o8_
def pV:∀{dn:k!},Cu cV! o.nm=(dn.find? gR_).map Op.v
 |[]=>rfl
 |x::dn=>by
  show(if x.nm=o.nm then ψ x.v else Cu cV! o.nm)=_;rw[IJ];by_cases c:x.nm=o.nm
  .rw[FE c,show Ol o x=τ from FH (lS.mp c)];rfl
  .rw[FC c,show Ol o x=θ from FA λz=>c (lS.mpr z)];exact pV
structure Fs(S dn:k!):Prop where
 op:∀o∈dn,Es o
 nd:(j0_).Nodup
 n:∀o∈dn,nh S o.h<o.n
def Fs.nil:Fs S []:=#[zr_,LG,zr_]
def Fs.step{jb:k!}(h:j1!)(ho:Es o)(e:EN! dn=ψ jb):Fs S jb/\jb.length<=gT!+1:=by
 delta Nv at e;show"!6"
 .show"!6"
  .cases e;exact#[h,KL _]
  .cases e
 .rename_i c;show"!6"
  .cases e
  .show"!6"
   .show"!6"
    .cases e;exact#[h,KL _]
    .cases e
   .rename_i f;cases e;exact#[#[bX!,?_,bX!],by rw[FX];exact FF _]
    .obtain z|z:=FL.mp hx
     .exact h.op x z
     .rw[b9!];exact ho
    .rw[GO,LD];exact#[h.nd,G_,λx hx y hy z=>?_];rw[FI,LL,FR]at hy;let#[x',rn,rfl]:=GJ.mp hx;let:=LY.mp f x' rn;exact this (FH (lS.mp (z.trans hy)))
    .obtain z|z:=FL.mp hx
     .exact h.n x z
     .rw[b9!];omega
def DQ(t:Ck)(E:EK):WS:=(At vj!
 (At vl!
 vm!))
def c4n{ep:δ}{R:E_}(hA:pa!)(hS:Hd S)(h0:M0 p=υ)(fr:∀b,M0 b≠υ->M b=M0 b)(ho:Es o)(hd:j1!)(hl:gT!<64)(hp:M p=ψ pa_)
  (hR:∀M' jb jd y,EN! dn=ψ jb->M' p=ψ zt!->eR!->Ff_ [Y_,eR_,aG_,az!,j1_,y])
  (hE:∀M',EN! dn=υ->eR!->DL_ t.Unlike):
  DQ t E zt_ M R:=by
 let mj:=hA.keep fr;let es:DM! ar_ zt_=ψ o.nm:=a8o o;exact GW_ es;let O:=rW (iD (ρ:=pb!) gM_ (bD (f:=Aa 3) χ) (mX (o:=o) mj));let js:∀(x:Op) (M2:Mh) (xt:k!) (rm:δ),Es x->(∀b,M0 b≠υ->M2 b=M0 b)->M2 p=CV! (xt.map λo=>o9_) rm->(x=o->Nv S yy o dn=ψ xt)->(x≠o->Nv S yy o dn=υ)->
   Dh vl_ np_ Ff pb_ M2 R:=λx M2 xt rm hx vt p2 k1 k2=>by
  let h3:fT vm_ pb_=ψ zu!:=by
   let:f2 Ea bp! ar_ pb_=rJ! zu!:=b8r hx ho;delta fT;rw[this];rfl
  by_cases c:x=o
  .rw[FA (λz=>z c)]at h3;exact pH (jD h3) (hR M2 xt rm _ (k1 c) p2 vt)
  .rw[FH c]at h3;exact gY (jD h3) (ET_ (hE M2 (k2 c) vt))
 delta At;by_cases c:o.n<=(jS!:Int)
 .rw[FH c]at O;exact gY O ?_;let#[jd,ht]:=mj.tk;let m1:=ho.n1;let ax:(cU_).toNat<(bs!).length:=by omega
  let gs:bs![(cU_).toNat]?=some bs![(cU_).toNat]:=GH ax;let mx:=(pT.mp (IV ax)).1;generalize bs![(cU_).toNat]=x at gs mx;let hk:o.h∈kl:=(hA.mem _).mpr λz=>by rw[z]at gs;cases gs
  let i1:Kg M (.fn ta) cR!=ψ (.fn jW!):=EM_ jV_;let i2:Kg M (.fn jW!) (.int cU_)=ψ x.v:=by
   simp![Kg,mj.cl _ hk];delta Da Dd;rw[aS!,FE j2_];show j3![(cU_).toNat]?=_;rw[GF,gs];rfl
  let e2:f2 Bt vk! v_ pb!=uY_ cU_:=by
   show(Ao o.nm bF!).bind (λz=>Bt z bF!)=_;rw[d0e];rfl
  delta Ce;exact gG (gG (gZ aQ_ mj.ob hF2) (bD (a7a o)) i1) (bD e2) i2 _ ?_;exact FD! hS.op mx λz=>?_
  .delta Nv;rw[zw_,FE (by rw[gs,z])]
  .delta Nv;rw[zw_,FC (by rw[gs];intro q;exact z (GN q))]
 .rw[FA c]at O;let c':¬o.n<=nh S o.h:=c;let h2:Pk vk_ pb! M (o.h==yy):=by
   exact rW (gG (bD (d:=gG_) (a7a o)) (gZ aQ_ mj.ob hF1) ?_);rw[cZ]
  exact pH O ?_;by_cases cy:o.h=yy
  .rw[GS.mpr cy]at h2;exact gY h2 (ET_ (hE M ?_ fr));delta Nv;rw[FC c',FE cy]
  .rw[Dk! cy]at h2;exact pH h2 ?_;delta Ce;cases f:dn.find? gR_ with
   |some x=>
    exact a5o (p:=p) (y:=o.nm) (z:=o.v) (v:=x.v) (k:=pc_) χ χ χ hp χ b8_ (by rw[pV,f];rfl) ?_;exact FD! hd.op (List.mem_of_find?_eq_some f) λz=>?_
    .show"#K";exact FE z
    .show"#K";exact FC z
   |none=>
    let vz:o.nm∉Cy_ cV!:=λz=>by
     let:=b9v.mpr z;rw[pV,f]at this;exact this χ
    exact a5p (p:=p) (y:=o.nm) (z:=o.v) (k:=pc_) χ χ χ hp χ b8_ vz ?_;exact js o _ j0! cS_ ho zy! (by rw[bL,GO];rfl) (λ_=>?_) λz=>AS! z;show"#K"
def a9t(hA:pa!)(hS:Hd S)(h0:M0 p=υ):∀(os dn:k!) (x1:D) (y3 y4 y5:aw!) (ep:δ) (M:Mh) (R:E_),zy_->(∀o∈os,Es o)->Fs S dn->gT!+eN_<64->M p=ψ pa_->
  (∀M' jb jd QW QX QY,BX_ os dn=ψ jb->Fs S jb->jb.length<64->M' p=ψ zt!->eR!->Ff_ [Y_,eR_,aG_,QW,QX,QY])->
  (∀M',BX_ os dn=υ->eR!->DL_ t.Unlike)->
  Md f6_ aR_ (DQ t E) eS_ [Y_,eR_,aG_,y3,y4,y5] M R
 |[],dn,x1,y3,y4,y5,ep,M,R,fr,_,hd,hl,hp,hR,_=>#[ο,hR M dn ep y3 y4 y5 χ hd (AM! hl) hp fr]
 |o::os,dn,x1,y3,y4,y5,ep,M,R,fr,hf,hd,hl,hp,hR,hE=>by
  exact dz_;rw[FN]at hl;let ho:=hf o EY;exact c4n hA hS h0 fr ho hd a! hp (λM' jb jd y e cr lm=>?_) λM' e lm=>hE M' (by show(eQ_).bind o8_=_;rw[e];rfl) lm;let#[jc,l']:=hd.step ho e;let ee:Pj S yy (o::os) dn=BX_ os jb:=by
   show GW! o8_=_;rw[e];rfl
  rw[ee]at hR hE;exact a9t hA hS h0 os jb x1 _ _ _ jd M' R lm (FD_ hf) jc a! cr hR hE
def a6z{ms:k!}{R:x!}(hA:as_)(hS:Hd S)(hw:zA!)(hm:∀o∈ms,Es o)(hl:a2!+ms.length<64)
  (hR:∀M' p dn ep,BX_ j6! []=ψ dn->Fs S dn->gT!<64->M' p=ψ pa_->ca!->R O! M')
  (hE:∀M',BX_ j6! []=υ->ca!->DL_ t.Unlike):BS! Ga [ay_,.lst pd!]:=by
 exact I_;intro p hp;let fr:∀b,M b≠υ->CC_ cX_ b=M b:=λb G=>bC (eH G hp);let sk:=hA.keep fr;delta At Ja Rl;let Z':Ie (CC_ cX_) cR_ (.lst pd!)=GC! j6! Op.v:=by
  simp![Ie,sk.wt];rw[D7_ EX,GO]
 exact gG (gZ aQ_ sk.ob hF3) (bD (d:=.lst pd!) χ) Z' _ ?_;exact a9t (p:=p) hA hS hp j6! [] _ υ υ υ 0 _ _ fr (λo ho=>(FL.mp ho).elim (hw o) (hm o)) .nil (by rw[FX];simp;omega) bL (λM' dn jd y3 y4 y5 e hd g0 g1 g2=>fU j6_ (hR M' p dn jd e hd g0 g1 g2)) hE
end
section
variable{t:Ck}{M M0:Mh}{ρ:Ac}{yy:Int}{a ta wa p q:uv!}{Wt:List Op}{bd:D}{S dn:List Op}{kl:List Int}{ca:Int->Addr}{E:EK}{o:Op}
def d2s{h1:U_}{ep:δ}{fo fi f:g_}{R:E_}(h0:gH!)(O:fi ρ=ψ y)(h2:oZ_)(hp:cP!)(hk:cT!)(hl:cW!)(k':R ba! pm!):Pl eL_ (wl fi) eJ_ ρ M R:=by delta Pl;rw[cU!,cH h0,cH O,b7f hp hk hl];exact k'
def b0n{f:Op->D}{g:Op->D}:∀{l:k!},(kt_).Nodup->∀{o:Op},o∈l->Cu (l.map λo=>(f o,g o)) (f o)=ψ (g o)
 |[],_,o,h=>by cases h
 |x::l,nd,o,h=>by
  rw[FI,GZ]at nd;rw[FI];delta Cu;obtain rfl|h:=FD.mp h
  .rw[S!]
  .rw[FC λz=>nd.1 (by rw[z];exact GU h),b0n nd.2 h]
def Ku(o:Op):Int×Int:=(o.h,o.n)
def Vn:μ Op->(Int->Int)->Bool
 |[],_=>τ
 |o::qs,f=>if o.tm<=f o.h then θ else Vn qs λh=>if h=o.h then o.tm else f h
def c1t{qs:k!}{f:co_}(c:o.tm<=f o.h):Vn (o::qs) f=false:=by rw[Vn,FE c]
def c1s{qs:k!}{f:co_}(c:¬o.tm<=f o.h):Vn (o::qs) f=Vn qs λh=>if h=o.h then o.tm else f h:=by rw[Vn,FC c]
def d3r(i j:Int):Dj ae! cc_=rJ! hJ!:=χ
def b2h{ft:WT}{i:δ}{q2:WS}{R:E_}(h:oO_)(hd:zo!)(hs:Zf d)(hE:E C υ M):FC! (Gn C E zp!):=by delta At;exact gY h (a6f hd hs hE)
def EQ(t:Ck)(E:EK):WS:=(At vn!
 (At vp!
 vp_))
def c7h{e0:δ}(hA:pa!)(U4:M0 p=CV! h1 e0)(h0:M0 q=υ):∀(qs:k!) (f:co_) (sm:U_) (ep:δ) (y3 y4:aw!) (M:Mh) (R:E_),zy_->(∀o∈qs,Cu h1 o.nm=ψ o.v/\Es o)->M q=CV! sm ep->
  (∀h,(Cu sm jL!).getD y7_=.int (f h))->sm.length+qs.length<1000->
  (Vn qs f=τ->∀M' QW QX,eR!->Ff_ [Y_,aG_,ψ eP!,QW,QX])->
  (Vn qs f=θ->∀M',eR!->DL_ t.NoTime)->
  Md f6_ aR_ (EQ t E) (qs.map Op.nm) [Y_,aG_,ψ eP!,y3,y4] M R:=by
 intro qs
 induction qs with
 |nil=>intro f sm ep y3 y4 M R fr _ _ _ _ hR _;exact#[ο,hR χ M y3 y4 fr]
 |cons o qs ih=>
  intro f sm ep y3 y4 M R fr hk hq ht hl hR hE;exact dz_;let mj:=hA.keep fr;let hp:=(fr p (by rw[U4];simp)).trans U4;let#[QN,ho]:=hk o EY;simp![FN]at hl;let i1:Kg M O! o.nm=ψ o.v:=(a0d (k:=pc_) hp χ).trans QN;let i2:Kg M o.v iv!=ψ gK!:=jO o;exact eI (gG (gG j6_ (Dw! o.nm) i1) zb! i2) ?_;let ix:BO! ar_ zC_=ψ cR!:=a7a o;let hc:Pk vo_ zC_ M (decide (o.tm<=f o.h)):=
   rW (gG (Dw! jM!) (tH (bD (d:=.fn q) χ) (bD ix) (iD zD! (bD ix) (nR mj)) hq (k:=jV_) χ (ht o.h)) (d3r _ _))
  by_cases c:o.tm<=f o.h
  .rw[FH c]at hc;let e:=c1t (qs:=qs) c;exact b2h (i:=3) (d:=o.nm) hc χ (b8p ho) (hE e M fr)
  .rw[FA c]at hc;let e:=c1s (qs:=qs) c;rw[e]at hR hE;exact gV hc ?_;exact d2s (p:=q) (y:=gG_) (v:=jM!) (k:=jV_) χ ix χ hq χ xL_ ?_;exact ih _ _ _ (ψ o.nm) (ψ gK!) _ R zy! (FD_ hk) bL (λh=>?_) (by let:=tV sm cR! gK!;omega) hR hE;by_cases d:h=o.h
   .rw[d,b0o,S!];rfl
   .rw[c8b λz=>d (D.int.inj z).symm,FC d];exact ht h
def Wv(S dn:k!):Bool:=Vn gV_ (lt S)
def Fs.key(h:j1!):(pe!).Nodup:=by let hn:=h.nd;rw[List.nodup_iff_pairwise_ne,List.pairwise_map]at hn ⊢;exact hn.imp λ{x y} z e=>z zD_
def uS{e0:δ}{R:x!}(hA:as_)(hd:j1!)(hl:gT!<64)(hp:M p=CV! cV! e0)
  (hR:Wv S dn=τ->∀M',ca!->EF! M')(hE:Wv S dn=θ->∀M',ca!->DL_ t.NoTime):BS! Gx [ay_,bL_]:=by
 exact I_;intro q hq;let qp:q≠p:=GI (eH ze! hq);let hp1:mup M q cX_ p=CV! cV! e0:=(D0_ qp).trans hp;let nk:=hd.key;delta Ja Rl;let QZ:(gV_).Perm dn:=gD dn;let hsort:Qu (mup M q cX_) [bL_]=GC! gV_ Op.nm:=by
  show((Gr (mup M q cX_) O!).bind λq=>(Uz kF!).map D.lst)=_;rw[cW hp1];show(Uz (Cy_ cV!)).map D.lst=_;let e1:Cy_ cV!=dn.map Op.nm:=by rw[HU];rfl
  let e2:(j0_).map La=dn.map Ku:=by rw[HU];rfl
  rw[e1];delta Uz;rw[FE #[IM.mpr λd hd=>by let#[o,_,rfl]:=GJ.mp hd;rfl,by rw[e2];exact nk,yH_]];show GE_ (Jf La j0_)=_;rw[a1u (f:=Op.nm) (k:=Ku) (k':=La) λo=>χ]
 exact a2n j6_ hsort _ ?_;exact c7h hA hp hq gV_ (lt S) [] 0 υ υ _ _ (λb G=>bC o2!) (λo ho=>#[b0n hd.nd zE!,hd.op o zE!]) bL (λh=>χ) (by rw[QZ.length_eq];simp;omega) (λe M' y3 y4 h=>hR e M' h) λe M' h=>hE e M' h
end
section
variable{t:Ck}{M M0:Mh}{ρ:Ac}{yy:Int}{a ta wa p q:uv!}{Wt:List Op}{bd:D}{S dn kg:List Op}{kl:List Int}{ca:Int->Addr}{E:EK}{o:Op}{s:Z9}
def c1y{g:Mr}{f1 f2:g_}{K:x!}(O:pe_)(h2:f2 ρ=ψ c)(k:g [b,c] M K E):Cz 2 g E j9_ ρ M K:=by delta Cz Af Av;rw[cH O,cU!];exact#[χ,k]
def c7l{g:Mr}{f1:g_}{f2:WE}{K:x!}(O:pe_)(k:f2 ρ M λc M1=>[b,c].length=2/\g [b,c] M1 K E):Cz 2 g E (CO! (wl f1) f2) ρ M K:=by delta Cz Af Av;rw[cH O];exact k
end
end
variable{t:Ck}{o:Op}{l:List Nat}
abbrev Dk:μ Nat:=[119,97,105,116,115,32]
def a1k:cW_=mk Dk:=by decide+kernel
def b6d(l:b!):Gm! gB! cW_=decide (l.take 6=Dk):=by
 rw[a1k];show(decide (0+6<=(gB!).length)&&(l.toArray.extract 0 (0+6)==Dk.toArray))=_;rw[gM];let e:l.toArray.extract 0 (0+6)=(l.take 6).toArray:=by simp[List.extract_eq_drop_take]
 rw[e];by_cases c:l.take 6=Dk
 .let hl:0+6<=bt_:=by let:=G3! c;rw[JK]at this;simp at this;omega
  rw[c,FH hl,dE_];simp
 .rw[FA c];let:((l.take 6).toArray==Dk.toArray)=false:=by
   rw[FS];exact λz=>c (by let:=GA_ z;simpa using this)
  rw[this,LH]
structure Vs(o:Op)(l:b!):Prop where
 sh:Do bd!=A5! l
 ln:bt_<=450
 sg:∀c∈l,El c=τ
 op:Vi l=ψ o.v
 hd:∃c r,l=c::r/\48<=c/\c<=57
def b0p:∀(ws:I!),(∀w∈ws,SW w)->(Ht! ws).length<=63*bl!/\∀c∈joinL 32 ws,El c=τ
 |[],_=>#[by simp[joinL],λc hc=>by cases hc]
 |[w],h=>by
  let hw:=h w EY;let:=hw.1;exact#[by show bq_<=63*1;omega,hw.2]
 |w::v::ws,h=>by
  let hw:=h w EY;let ih:=b0p (v::ws) λx hx=>h x b5!;rw[cw_];show"#A"
  .let:=hw.1;let:=ih.1;simp![FX,FN]at this ⊢;omega
  .intro c hc;obtain hc|hc:=FL.mp hc
   .exact hw.2 c hc
   .obtain rfl|hc:=FD.mp hc
    .decide
    .exact ih.2 c hc
def yR(nd:t.nd)(h:Es o):Cd t bd!=ψ ae_/\Bm o.v=τ/\∃l,Vs o l:=by
 let#[k,r,e,v,ho,hw]:=d3p nd h.hh.1 h.hh.2 h.n1 h.n2 h.t1 (Int.le_trans h.t2 a_) h.dg;let ev:o.v=Sw o.h o.n o.tm k r:=e;exact#[by rw[ev];exact ho,(fM h.dg).1,Qz o.h o.n o.tm k r,?_];let hj:=b0p _ hw;let hl:((.int o.h::.int o.n::.int o.tm::.str k::r:μ D).map wordC).length<=7:=by
  let:=v.r3;simp;omega
 exact#[by rw[ev];exact v.shown,by let:=hj.1;show(Ht! _).length<=450;omega,hj.2,by rw[ev];exact v.back,?_];let e1:Qz o.h o.n o.tm k r=intC o.h++32::joinL 32 zH!:=by
  show joinL 32 (wordC cR!::EL_ zG!)=_;rw[cw_];rfl
 let#[m,hm]:=KS h.hh.1;let e2:intC o.h=Iv m:=by rw[hm];exact iI m
 cases e3:Iv m with
 |nil=>exact Ac_ e3 (nL m)
 |cons c rs=>
  let hc:c∈intC o.h:=by rw[e2,e3];exact EY
  exact#[c,rs++32::joinL 32 zH!,by rw[e1,e2,e3];rfl,?_];let:=eU m c (w4_ e3 EY);obtain z|z:=mP o.h c hc
  .exfalso;rw[z]at this;revert this;decide
  .exact z
def Vs.wd(h:dH_):Sn l:=#[by let:=h.ln;omega,h.sg]
def Vs.no(h:dH_):l.take 6≠Dk:=by let#[c,r,rfl,O,h2]:=h.hd;intro z;rw[NV]at z;let:=(pg!).1;omega
def c3l{M:Mh}{R:x!}{E:EK}(nd:t.nd)(h:Es o)(hl:dH_)(k:R o.v M):BS! Jw [W l]:=by let#[O,h2,_]:=yR nd h;exact a9a hl.wd ?_;rw[hl.op];exact#[τ,l,O,h2,λ_=>hl.sh,by rw[FE aa_];exact k]
def c3m{M:Mh}{R:x!}{E:EK}(hl:Sn l)(h:Vi l=υ)(k:C3! E):BS! Jw [W l]:=by exact a9a hl ?_;rw[h];exact k
open Classical
variable{S Wt:List Op}{o:Op}{yy:Int}
def a3q{x y:Op}(h:Fw! Ku=τ)(e:x.h=y.h):x.n<y.n:=by simp![Lw,AM,Ku,e,IB,FV]at h;exact h
def b1k:∀(qs:k!) (f:co_),Vn qs f=τ↔(∀x∈qs,f x.h<x.tm)/\qs.Pairwise λa b=>a.h=b.h->a.tm<b.tm
 |[],f=>by simp[Vn]
 |o::qs,f=>by
  by_cases c:o.tm<=f o.h
  .rw[c1t c];show"#A"
   .intro z;cases z
   .rintro⟨z,_⟩;let:=z o EY;omega
  .rw[c1s c,b1k qs,HL];show"#A"
   .rintro⟨O,h2⟩;exact#[bX!,zI!,h2]
    .obtain rfl|hx:=FD.mp hx
     .omega
     .let:=O x hx;split at this
      .rename_i e;rw[e];omega
      .exact this
    .let:=O x hx;rw[FE e.symm]at this;exact this
   .rintro⟨O,h2,h3⟩;exact#[bX!,h3];split
    .rename_i e;exact h2 x hx e.symm
    .exact O x b5!
def c8z{l:k!}(O:l.Pairwise λa b=>Lw (Ku a) (Ku b)=τ):(l.Pairwise λa b=>a.h=b.h->a.tm<b.tm)↔∀a∈l,∀b∈l,a.h=b.h->a.n<b.n->a.tm<b.tm:=by
 show"#A"
 .intro h2
  induction l with
  |nil=>intro a ha;cases ha
  |cons x l ih=>
   rw[HL]at O h2;let ih:=ih O.2 h2.2;intro a ha b G e hn;obtain ea|U5:=FD.mp ha
   .obtain eb|RA:=FD.mp G
    .rw[ea,eb]at hn;omega
    .rw[ea]at e ⊢;exact h2.1 b RA e
   .obtain eb|RA:=FD.mp G
    .let:=a3q (O.1 a U5) (B6! eb e.symm);rw[eb]at hn;omega
    .exact ih a U5 b RA e hn
 .intro h;exact O.imp_of_mem λ{a b} ha G z e=>h a ha b G e (a3q z e)
def b9l(hS:Hd S)(ho:1<=o.tm):lt S o.h<o.tm↔∀x∈S,x.h=o.h->x.tm<o.tm:=by
 delta lt;let ht:=(hS.ch o.h).tim;show"#A"
 .intro h x hx e;let hm:x∈hs S o.h:=pT.mpr #[hx,e];cases g:(bs!).getLast? with
  |none=>rw[G2! g]at hm;cases hm
  |some y=>
   rw[g]at h;let h:y.tm<o.tm:=h;let#[p,hp]:=List.getLast?_eq_some_iff.mp g;rw[hp]at hm ht;obtain z|z:=FL.mp hm
   .let:=(List.pairwise_append.mp ht).2.2 x z y (FR.mpr χ);omega
   .rw[b9!];exact h
 .intro h;cases g:(bs!).getLast? with
  |none=>show(0:Int)<o.tm;omega
  |some y=>
   let hm:=pT.mp (List.mem_of_getLast? g);exact h y hm.1 hm.2
def c7u(hS:Hd S){x:Op}(hx:x∈S):x.n<=nh S x.h:=by let hm:x∈hs S x.h:=pT.mpr #[hx,χ];let#[i,hi,e]:=List.getElem_of_mem hm;let:=(hS.ch x.h).num i x (by rw[GH hi,e]);delta nh;omega
structure Ua(S Wt:k!)(yy:Int):Prop where
 op:∀x∈Wt,Es x
 n:∀x∈Wt,nh S x.h+1<x.n
 y:∀x∈Wt,x.h≠yy
 nd:(cd!).Nodup
 t:∀x∈Wt,lt S x.h<x.tm
 p:∀a∈Wt,∀b∈Wt,a.h=b.h->a.n<b.n->a.tm<b.tm
 l:a2!<=8
def Ua.nil:Ua S [] yy:=#[dI!,dI!,dI!,LG,dI!,dI!,GT _]
def a9w:∀(a b:k!) (dn:k!),BX_ cQ_ dn=(Pj S yy a dn).bind (BX_ b)
 |[],b,dn=>rfl
 |o::a,b,dn=>by
  show GW! (BX_ cQ_)=(GW! (BX_ a)).bind _;cases Nv S yy o dn with
  |none=>rfl
  |some d=>exact a9w a b d
def a9u{dn:k!}(O:pi!)(h2:o.h≠yy)(h3:o.nm∉dn.map Op.nm):EN! dn=ψ j0!:=by
 delta Nv;rw[a5_,FC h2];let:dn.find? gR_=none:=LY.mpr λx hx z=>h3 (by
  let:=lS.mpr (HC z);rw[<-this];exact GU hx)
 rw[this]
def b8k:∀(a dn:k!),(∀x∈a,nh S x.h<x.n/\x.h≠yy)->((dn++a).map Op.nm).Nodup->BX_ a dn=ψ (dn++a)
 |[],dn,_,_=>by rw[FY];rfl
 |o::a,dn,h,nd=>by
  let h0:=h o EY;let hn:o.nm∉dn.map Op.nm:=by
   rw[GO,LD]at nd;exact λz=>nd.2.2 _ z _ (GU EY) χ
  show GW! (BX_ a)=_;rw[a9u h0.1 h0.2 hn];show BX_ a j0!=_;rw[b8k a _ (FD_ h) (w4_ LF nd),LF];rfl
def a9v(hW:dI_)(O:pi!)(ho:o∉Wt):BX_ cd_ []=if o.h≠yy/\o.nm∉Gb! Op.nm then ψ cd_ else none:=by
 rw[a9w,b8k Wt [] (λx hx=>#[by let:=hW.n x hx;omega,hW.y x hx]) (w4_ PF hW.nd),PF];show(EN! Wt).bind (Pj S yy [])=_;by_cases c1:o.h=yy
 .rw[FC λz=>z.1 c1];delta Nv;rw[a5_,FE c1];rfl
 .by_cases c2:o.nm∈Gb! Op.nm
  .rw[FC λz=>z.2 c2];delta Nv;rw[a5_,FC c1];cases f:Wt.find? gR_ with
   |none=>
    let#[x,hx,e]:=GJ.mp c2;exact Ac_ (FH (lS.mp e)) (LY.mp f x hx)
   |some x=>
    let:x≠o:=λz=>ho (z▸List.mem_of_find?_eq_some f);show(if x=o then ψ Wt else υ).bind _=υ;rw[FC this];rfl
  .rw[FE #[c1,c2],a9u O c1 c2];rfl
def a9r{dn:k!}(nk:(pe!).Nodup):Wv S dn=τ↔(∀x∈dn,lt S x.h<x.tm)/\∀a∈dn,∀b∈dn,a.h=b.h->a.n<b.n->a.tm<b.tm:=by delta Wv;let hp:(gV_).Perm dn:=gD dn;rw[b1k,c8z (sO nk)];simp![hp.mem_iff]
variable{S Wt:List Op}{o:Op}{yy:Int}
def Nm(x o:Op):Prop:=x.h=o.h->x≠o->x.n≠o.n/\x.tm≠o.tm/\(x.n<o.n↔x.tm<o.tm)
def Et(S Wt:k!)(yy:Int)(w:Bool)(o:Op):Prop:=¬(w=θ/\Wt≠[])/\pi_/\¬o.n<=nh S o.h/\(o.n=nh S o.h+1↔w=θ)/\(w=τ->o.h≠yy/\a2!≠8/\o.nm∉Wt.map Op.nm)
def Qf(S Wt:k!)(o:Op):Prop:=Wt=[]/\o.n=nh S o.h+1/\lt S o.h<o.tm
nonrec def waitP(S Wt:k!)(yy:Int)(o:Op):Prop:=o.n≠nh S o.h+1/\¬o.n<=nh S o.h/\o∉Wt/\a2!≠8/\∃dn,BX_ cd_ []=ψ dn/\Wv S dn=τ
def b0y(hS:Hd S)(ho:Es o)(hn:pi!):(∀x∈S,Nm x o)↔lt S o.h<o.tm:=by
 rw[b9l hS ho.t1];show"#A"
 .intro h x hx e;let O:=c7u hS hx;rw[e]at O;let hl:x.n<o.n:=by omega
  exact(h x hx e λz=>by rw[z]at hl;omega).2.2.mp hl
 .intro h x hx e _;let O:=c7u hS hx;rw[e]at O;let h2:=h x hx e;exact#[n!,n!,n!]
def a1q(hS:Hd S)(ho:Es o):Bi! θ↔Qf S Wt o:=by
 show"#A"
 .rintro⟨O,h2,h3,h4,_⟩;let e:Wt=[]:=Classical.byContradiction λz=>O pj!;subst e;rw[FY]at h2;exact#[χ,h4.mpr χ,(ka_).mp h2]
 .rintro⟨rfl,O,h2⟩;exact#[λz=>z.2 χ,?_,n!,#[bj_,λ_=>O],λz=>by cases z];rw[FY];exact(ka_).mpr h2
def c7t{dn:k!}(h:(j0_).Nodup):(pe!).Nodup:=by rw[List.nodup_iff_pairwise_ne,List.pairwise_map]at h ⊢;exact h.imp λ{x y} z e=>z zD_
def b8t(hW:dI_)(h:zL_):((cd_).map Op.nm).Nodup:=by rw[GO,LD];exact#[hW.nd,G_,λa ha b G z=>?_];rw[FI,LL,FR]at G;exact h (by rw[<-G,<-z];exact ha)
def a3b(hW:dI_)(h:zL_):Wv S cd_=τ↔lt S o.h<o.tm/\∀x∈Wt,x.h=o.h->(x.n<o.n->x.tm<o.tm)/\(o.n<x.n->o.tm<x.tm):=by
 rw[a9r (c7t (b8t hW h))];let mo:o∈Wt++[o]:=FQ _ (FR.mpr χ);show"#A"
 .rintro⟨O,h2⟩;exact#[O o mo,λx hx e=>#[λz=>h2 x jK! o mo e z,λz=>h2 o mo x jK! e.symm z]]
 .rintro⟨O,h2⟩;exact#[bX!,λa ha b G e hn=>?_]
  .obtain z|z:=FL.mp hx
   .exact hW.t x z
   .rw[b9!];exact O
  .obtain za|za:=FL.mp ha
   .obtain zb|zb:=FL.mp G
    .exact hW.p a za b zb e hn
    .rw[FR.mp zb]at e hn ⊢;exact(h2 a za e).1 hn
   .rw[FR.mp za]at e hn ⊢;obtain zb|zb:=FL.mp G
    .exact(h2 b zb e.symm).2 hn
    .rw[FR.mp zb]at hn;omega
def a1m(hW:dI_):DM_ S↔nh S o.h+1<o.n/\a2!≠8/\o.h≠yy/\o.nm∉Gb! Op.nm/\Wv S cd_=true:=by
 show"#A"
 .rintro⟨O,h2,h3,h4,dn,h5,h6⟩;let hn:nh S o.h<o.n:=by omega
  rw[a9v hW hn h3]at h5;split at h5
  .rename_i c;cases h5;exact#[n!,h4,c.1,c.2,h6]
  .cases h5
 .rintro⟨O,h2,h3,h4,h5⟩;let ho:o∉Wt:=λz=>h4 (GU z);exact#[n!,n!,ho,h2,Wt++[o],?_,h5];rw[a9v hW a! ho,FE #[h3,h4]]
def a1l(hS:Hd S)(hW:dI_)(ho:Es o):Bi! τ↔DM_ S:=by
 rw[a1m hW];show"#A"
 .rintro⟨_,h2,h3,h4,h5⟩;let#[a,b,c]:=h5 χ;let hn:nh S o.h+1<o.n:=by
   let:o.n≠nh S o.h+1:=λz=>by let:=h4.mp z;cases this
   omega
  exact#[hn,b,a,c,(a3b hW c).mpr #[(ka_).mp λx hx=>h2 x jK!,zI!]];let am:x≠o:=λz=>c (by rw[<-z];exact GU hx);let#[f1,f2,f3]:=h2 x (FQ _ hx) e am;exact#[f3.mp,jV!];let h9:¬x.tm<o.tm:=λy=>Ac_ (f3.mpr y) a!;omega
 .rintro⟨O,h2,h3,h4,h5⟩;let#[g1,g2]:=(a3b hW h4).mp h5;exact#[λz=>(by cases z.1),bX!,n!,#[λz=>a!,λz=>(CH! z)],λ_=>#[h3,h2,h4]];obtain z|z:=FL.mp hx
  .exact(ka_).mpr g1 x z
  .intro e am;let vz:x.n≠o.n:=λy=>h4 (by rw[<-lS.mpr #[e,y]];exact GU z);let#[k1,k2]:=g2 x z e;exact#[vz,λy=>?_,k1,λy=>?_]
   .obtain c|c:=Int.lt_or_gt_of_ne vz
    .let:=k1 c;omega
    .let:=k2 c;omega
   .obtain c|c:=Int.lt_or_gt_of_ne vz
    .exact c
    .let:=k2 c;omega
def b5z(hS:Hd S)(ho:Es o)(h:Qf S Wt o):Hd (S++[o]):=hS.snoc ho h.2.1 ((b9l hS ho.t1).mp h.2.2)
def b5s(hW:dI_)(ho:Es o)(h:DM_ S):Ua S cd_ yy:=by
 let#[O,h2,h3,h4,h5]:=(a1m hW).mp h;let#[g1,g2]:=(a9r (c7t (b8t hW h4))).mp h5;let sp:∀{P:Op->ν},(∀x∈Wt,P x)->P o->∀x∈Wt++[o],P x:=λa b x hx=>(gQ!).elim (a x) λz=>by rw[b9!];exact b
 exact#[sp hW.op ho,sp hW.n O,sp hW.y h3,b8t hW h4,g1,g2,?_];let:=hW.l;rw[FX,IG];omega
section
variable{t:Ck}{M:Mh}{ρ:Ac}{yy:Int}{a ta wa:uv!}{Wt:List Op}{bd:D}{S:List Op}{kl:List Int}{ca:Int->Addr}{E:EK}{o:Op}{l:List Nat}
def b7g{f g:WT}{x y:Bool}(O:pl_)(h2:EM! g y):EM! (Zd f g) (x||y):=λK hK=>by
 delta Zd;exact O _ ?_;cases x with
 |true=>exact hK
 |false=>exact h2 K hK
def c9a{f:WT}{x:Bool}(O:pl_):EM! (Wk f) (!x):=λK hK=>by
 delta Wk;exact O _ hK
def sR{ft:WT}{f:WE}{q:WS}{R:E_}(h:oO_)(hf:jN_)(k:R ai! M):CG_ (Dh ft (Ei f) Ff):=by delta At;exact gY h (fU hf k)
def eG{f:g_}(h:aX_):Ab f Ad ρ=ψ [d]:=by delta Ab;rw[h];rfl
def uI{g:bH!}{fs:ar!}(h:gX!):f1 g fs ρ=g ds:=by delta f1;rw[h];rfl
def b5d{R:x!}(nd:t.nd)(hA:as_)(hS:Hd S)(hw:zA!)(ho:Es o)(hl:a2!<=8)
  (hR:zQ!->∀M',ca!->EF! M')
  (hE:¬zQ!->∀M' c,c=ga!\/c=ga_->ca!->DL_ c):BS! Gc [ay_,.lst bd!]:=by
 exact I_;let jg:=(yR nd ho).1;let hc:AT_ ev! vq_ zQ_=qX_ [fi_]:=by
  show(if(bd!:μ D).length<=big then Option.map D.lst (GZ! X! bd!)else υ)=_;rw[FE (Fg! 1 big),oX (F:=λ_=>D.bl τ) bd! λd hd=>by rw[FR.mp hd];exact jg];rfl
 let h:Bo vr_ zQ_=ψ false:=by
  delta Bo fT;rw[uI (eG hc)];rfl
 exact gV (jD h) (b1b ?_);exact c7l (b:=ay_) χ (c1y (b:=ay_) (c:=.lst ([o].map Op.v)) χ χ (a6z hA hS hw (λx hx=>by rw[FR.mp hx];exact ho) ao! (λM1 p dn ep e hd l0 hp fr=>?_) λM' e fr=>hE (λ⟨dn,z,_⟩=>by rw[e]at z;cases z) M' _ q_ fr));let tr:∀{M':Mh},(∀b,M1 b≠υ->M' b=M1 b)->∀b,M b≠υ->M' b=M b:=λv0 b G=>(v0 b (by rw[fr b G];exact G)).trans (fr b G);exact#[χ,uS (hA.keep fr) hd l0 hp (λe2 M' v0=>hR #[dn,e,e2] M' (tr v0)) λe2 M' v0=>hE (λ⟨jb,z,z2⟩=>by rw[e]at z;cases z;rw[e2]at z2;cases z2) M' _ gF_ (tr v0)]
def b9q(hA:as_):Pu nx_ cT_ M (.int gX_):=by exact a2n zS! ?_;show(Cp_ cR_)=_;simp![Mo,hA.wt,JF,EX]
def b9j(hA:as_):Ga! Fj (Bt! pm_):=λK hK=>by
 exact I_;let O:Pk vB_ cT_ M (decide (gX_>0)):=rW (gG (b9q hA) oX_ χ);let h2:=b7g O (c9a (rW zT!));by_cases c:Wt=[]/\o.n=nh S o.h+1
 .let c1:decide (gX_>0)=false:=FA (by rw[c.1];simp);let c2:dG!=true:=GS.mpr c.2;rw[c1,c2]at h2;exact gV h2 ?_;let h3:=iD (ρ:=cT_) gM_ (bD (f:=BO! w_) (d:=gG_) (fV o)) (nR (h:=o.h) hA);exact fU (gG (bD (d:=jM!) (jO o)) h3 (d:=.bl (decide zT_)) χ) ?_;let e:decide pm_=decide zT_:=by
   congr 1;exact propext #[λz=>z.2.2,λz=>#[c.1,c.2,z]]
  rw[e]at hK;exact hK
 .let e:decide pm_=false:=FA λz=>c #[z.1,z.2.1];rw[e]at hK;let h3:(decide (gX_>0)||! dG!)=true:=by
   by_cases c1:Wt=[]
   .let:dG!=false:=FS.mpr λz=>c pn!;rw[this];simp
   .let:0<a2!:=LV.mpr c1;rw[FH (by omega:pn_>0)];rfl
  rw[h3]at h2;exact sR h2 po! hK
def d3u(hA:as_)(hw:kf!)(ho:Es o):EN_ Sb=rJ! zU!:=by
 let e0:EN_ Sb=EN_ Sb.inS:=by simp![Sb,hA.wt]
 rw[e0];show((Mo M cR_).bind λds=>if(Fg_ ds ds)=τ then ψ (D.bl (ds.any λd=>Dl d o.v))else υ)=_;let e:Mo M cR_=ψ ay!:=by simp![Mo,hA.wt]
 rw[e];let O:Cm ay!=true:=iF λd hd=>by let#[x,hx,rfl]:=GJ.mp hd;exact(zU_).1
 let h2:Du ay!<=40:=kU λd hd=>by let#[x,hx,rfl]:=GJ.mp hd;exact GB (zU_).2 a_
 show(if(Fg_ ay! ay!)=τ then ψ (D.bl ((ay!).any λd=>Dl d o.v))else υ)=_;rw[(fM ho.dg).1,O,FH h2];show CF! _=_;congr 2;by_cases c:o∈Wt
 .rw[FH c];exact Gm_ #[o.v,GU c,by rw[a7r ho ho];exact FH χ]
 .show"!v";rw[a7r (hw x hx) ho];exact λz=>c (HC z▸hx)
def a3p{R:x!}(nd:t.nd)(hA:as_)(hS:Hd S)(hw:kf!)(ho:Es o)(hl:a2!<=8)
  (hR:∀M',ca!->R (Bt! (waitP S Wt yy o)) M'):Ib t gM! M R:=by
 exact I_;let b1:=rW zT!;let b2:=rW (iD (ρ:=cT_) gM_ zS_ (mX (o:=o) hA));let b3:Pk vC_ cT_ M zU!:=rW (gG (Dw! o.v) zS! (d3u hA hw ho));let h2:=b7g b1 (b7g b2 b3);let rf:∀b,M b≠υ->M b=M b:=λ_ _=>χ;by_cases c:o.n≠nh S o.h+1/\¬o.n<=nh S o.h/\o∉Wt
 .let c1:dG!=false:=FS.mpr c.1;let c2:decide jS_=false:=FA c.2.1;rw[c1,c2,FA c.2.2]at h2;exact gV h2 ?_;let h3:Pk vD_ cT_ M (gX_==8):=rW (gG (b9q hA) (Ed! 8) aR!);by_cases c8:a2!=8
  .rw[GS.mpr (by omega:pn_=8)]at h3;exact sR h3 po! ?_;let:=hR M rf;rw[FA (λz=>z.2.2.2.1 c8)]at this;exact this
  .rw[zV_]at h3;exact gV h3 ?_;delta At Uv Gv;exact c1y (b:=ay_) (c:=.lst bd!) χ χ (b5d nd hA hS hw ho hl (λz M' fr=>?_) λz M' cc hc fr=>?_)
   .exact fU (Dw! fi_) ?_;let:=hR M' fr;rw[FH (show waitP S Wt yy o from#[c.1,c.2.1,c.2.2,c8,z])]at this;exact this
   .exact#[FH ?_,?_]
    .obtain rfl|rfl:=hc<;>simp
    .let:=hR M' fr;rw[FA (λy:waitP S Wt yy o=>z y.2.2.2.2)]at this;exact this
 .let h4:(dG!||(decide jS_||decide (o∈Wt)))=true:=by
   by_cases c1:o.n=nh S o.h+1
   .rw[show dG!=τ from GS.mpr c1];rfl
   .by_cases c2:o.n<=nh S o.h
    .rw[show decide jS_=τ from FH c2];simp
    .by_cases c3:o∈Wt
     .rw[FH c3];simp
     .exact Ac_ #[c1,c2,c3] c
  rw[h4]at h2;exact sR h2 po! ?_;let:=hR M rf;rw[FA (λz:waitP S Wt yy o=>c #[z.1,z.2.1,z.2.2.1])]at this;exact this
end
section
variable{t:Ck}{M:Mh}{ρ:Ac}{yy:Int}{a ta wa:uv!}{Wt:List Op}{bd:D}{S:List Op}{kl:List Int}{ca:Int->Addr}{E:EK}{o:Op}{l:List Nat}{w:Bool}{k:Int}
def Uh(w:Bool)(l:b!):μ Nat:=if w then Dk++l else l
nonrec def stp(S Wt:k!)(w:Bool)(o:Op):μ Op×μ Op:=if w then(S,Wt++[o])else(S++[o],Wt)
structure AZ(k:Int):Prop where
 a:eb_<1920
 b:(Str.ofString "line "++Str.ofString l3_++Str.ofString " is wrong").length<=big
def smK(h0:0<=k)(O:k<=1000):AZ k:=by
 let hk:k.natAbs<10 ^ 60:=by
  let:(1001:δ)<10 ^ 60:=by decide
  omega
 exact#[a3r hk,?_];let:=a3u hk;let e1:(qZ! "line ").length=5:=by decide+kernel
 let e2:(qZ! " is wrong").length=9:=by decide+kernel
 simp![Str.length_append];delta big;omega
def d4m:B4_ Bi ex! ρ=ψ iK!:=by
 show Bi [.str cW_]=_;let:(cW_).length=6:=by decide+kernel
 show DN! cW_=_;rw[this];rfl
def d4v{J:b!}(h:z2!):Qv (W J) (ψ 6) υ=A5! (J.drop 6):=by show(if(0:Int)<=6/\(mk J).length<=big then ψ (D.str #[((mk J).cps.toList.drop (6:Int).toNat).toArray])else υ)=_;rw[FE #[J!,ou!],a7x];rfl
def d2f{J:b!}{b:Bool}(h:z2!):Dt iM! vF_ w_ [x0,gY_,x2,ψ V_,x4]=A5! (if b then J.drop 6 else J):=by
 cases b with
 |true=>
  show(((nz_) ps_).bind λl=>((Ai ps_).bind λh=>Qv (W J) l h))=_;let e:(nz_) ps_=AY_ 6:=by
   delta Ah;rw[d4m];rfl
  rw[e];exact d4v h
 |false=>rfl
def itT{A B:ν}(h:A):(match D.bl τ with|.bl b=>z6!|_=>False):=h
def itF{A B:ν}(h:B):(match D.bl θ with|.bl b=>z6!|_=>False):=h
def b6n{f:g_}{i ik:δ}{kh:fL!}{g:Mr}{q:WS}{R:E_}(e:aX_)(h:g [d] M (λd' M2=>q (ρ.set i (ψ d')) M2 R) λc ln M2=>kh c=τ/\ln=υ/\∃v:Int,ρ[ik]?=ψ mG!/\cu!<1920/\(dh!).length<=big/\E C an! M2):
  At (Th 1 i ik kh C n1 n2 E g (Af eJ_ Av)) q ρ M R:=by
 delta At Th Af Av;rw[cH e];exact pu!
def b0u{ft:Q_}{g:WF}{f1 f2:g_}{q1 q2:WS}{R:E_}(e:pv!)(O:f1 ρ=ψ x)(h2:f2 ρ=ψ y)(h:g [x,y] M λd M1=>match d with|.bl b=>(if b=τ then q1 ρ M1 R else q2 ρ M1 R)|_=>False):
  Dh (Kk (Iz ft) (wT (Ep 2 g j9_))) q1 q2 ρ M R:=by
 delta Dh Kk Iz;rw[e];show wT (Ep 2 g j9_) ρ M _;delta wT Ep Af Av;rw[cH O,cU!];exact pu!
def b7h{g:WF}{f1 f2:g_}{R:x!}(O:f1 ρ=ψ x)(h2:f2 ρ=ψ y)(h:g [x,y] M R):Ep 2 g j9_ ρ M R:=by delta Ep Af Av;rw[cH O,cU!];exact pu!
def b0v{ft:Q_}{fu:WT}{q1 q2:WS}{R:E_}(e:pv_)(h:oP!):C3_ (Kk (Iz ft) fu):=by delta Dh Kk Iz;rw[e];exact h
def CO(t:Ck)(E:EK):WS:=vI_
def AO(t:Ck)(E:EK):WS:=Dh vH_ vI! (CO t E)
def Vb(R:x!):Fl->Mh->Prop:=λf M'=>match f with|.rt d=>R d M'|.nx _=>EF! M'
def a3s{J:b!}{R:x!}(hJ:Sn J)(hk:AZ k){Rd:wY_ Op}(ww:∀(R':x!) (E':EK),(match Rd with|some o=>R' o.v M|none=>E' t.NoDeed υ M)->Jw t [W pw!] M R' E')
  (h:match Rd with
   |none=>Eq_ E km! M
   |some o=>AO t E [Y_,gY_,eW!,ψ px!,az!] M (Vb R)):
  Eo t z8! M R E:=by
 exact I_;let e1:Re w_ ex! [Y_,gY_,eW!,υ,υ]=ψ px!:=by
  show Qs (W J) (.str cW_)=_;show CF! (PySem.Txt.startswith (mk J) cW_)=_;rw[b6d]
 exact GW_ e1;show At _ (AO t E) [Y_,gY_,eW!,ψ px!,υ] M (Vb R);exact b6n (d2f (J:=J) (b:=decide pw_) (x0:=Y_) (x2:=eW!) (x4:=υ) (by let:=hJ.1;omega)) ?_;let e3:(if decide pw_=τ then J.drop 6 else J)=pw!:=by
  by_cases c:J.take 6=Dk
  .rw[FE c,FH c];rfl
  .rw[FC c,FA c];rfl
 rw[e3];exact ww _ _ ?_;cases Rd with
 |none=>exact#[G_,χ,k,χ,hk.a,hk.b,h]
 |some o=>exact h
def b4d{J:b!}{R:x!}(hJ:Sn J)(hk:AZ k)(hn:Vi pw!=υ)(h:Eq_ E km! M):BS! Eo z8!:=by
 exact a3s (Rd:=υ) hJ hk (λR' E' z=>c3m ?_ hn z) h;split
 .exact#[by rw[HV];let:=hJ.1;omega,λc hc=>hJ.2 c (NN hc)]
 .exact hJ
def Dg.wait(hA:as_):Hw_ (mup M wa (.lst (ay!++bd!))) cd_:=by
 let#[ep,ht]:=hA.tk;let aw:a≠wa:=λz=>by let:=hA.ob;rw[z,hA.wt]at this;cases this
 let tw:ta≠wa:=λz=>by rw[z,hA.wt]at ht;cases ht
 exact{hA with ob:=HD_ aw hA.ob,tk:=#[ep,(bC tw).trans ht],wt:=by rw[bL,GO];rfl,cl:=λh hh=>HD_ (hA.cw h hh) (Dv_ hh)}
def b9o(hl:dH_):Sn cY_:=by
 cases w with
 |true=>exact⟨by show(Dk++l).length<=600;let:=hl.ln;simp;omega,λc hc=>by
   obtain z|z:=FL.mp hc
   .clear hc;revert z c;decide
   .exact hl.sg c z⟩
 |false=>exact hl.wd
def b9n{R:x!}(nd:t.nd)(hA:as_)(hS:Hd S)(hW:dI_)(hl:cS!<200)(ho:Es o)(hn:dH_)(hk:AZ k)
  (hR:Bi! w->∀M' RB og oi,BN_ M' (O_).2 RB (O_).1 og oi->Hd (O_).1->Ua (O_).1 (O_).2 yy->EF! M')
  (hE:¬Bi! w->∀M',Eq_ E km! M'):BS! Eo [ay_,W cY_,b7!]:=by
 exact a3s (Rd:=ψ o) (b9o hn) hk (λR' E' z=>?_) ?_
 .let e:(if(cY_).take 6=Dk then(cY_).drop 6 else Uh w l)=l:=by
   cases w with
   |true=>rfl
   |false=>exact FC hn.no
  rw[e];exact c3l nd ho hn z
 .let eb:decide ((cY_).take 6=Dk)=w:=by
   cases w with
   |true=>rfl
   |false=>exact FA hn.no
  rw[eb];generalize W cY_=J;let rs:∀{M':Mh} {R2:E_},(¬Et S Wt yy w o)->Jt t.NoSave "line " " is wrong" E cG! [Y_,some J,eW!,some (.bl w),az!] M' R2:=λz=>#[k,rfl,hk.a,hk.b,hE z _];cases w with
  |true=>
   exact b0u (x:=ay_) (y:=o.v) χ χ χ (a3p nd hA hS hW.op ho hW.l λM1 fr=>?_);let sk:=hA.keep fr;by_cases c:DM_ S
   .rw[FH c];exact itT (b1b ?_);let:=uY (M:=M1) (p:=wa) (ρ:=[Y_,ψ J,eW!,ψ ae_,az!]) (xs:=Gb! Op.v) (f:=Aa 4) (v:=o.v) (R:=λ_ M2=>EF! M2) sk.wt χ (by rw[EX];let:=hW.l;delta big;omega) (hR ((Aa_).mpr c) _ bd kl ca sk.wait hS (b5s hW ho c));exact gZ aQ_ sk.ob hF3 _ this
   .rw[FA c];exact itF (b0v χ (rs λz=>c ((Aa_).mp z)))
  |false=>
   exact b0v χ ?_;exact b0u (x:=ay_) (y:=o.v) χ χ χ (b9j (o:=o) hA _ ?_);by_cases c:Qf S Wt o
   .rw[FH c];exact itT (b1b (b7h (x:=ay_) (y:=o.v) χ χ (b5l hA hl λM' og oi h' _=>?_)));exact hR ((a1q hS ho).mpr c) M' .non og oi h' (b5z hS ho c) ?_;show Ua (S++[o]) Wt yy;rw[c.1];exact Ua.nil
   .rw[FA c];exact itF (rs λz=>c ((a1q hS ho).mp z))
end
section
variable{t:Ck}{M:Mh}{ρ:Ac}{yy:Int}{a ta wa p:uv!}{Wt:List Op}{bd:D}{S:List Op}{kl:List Int}{ca:Int->Addr}{E:EK}{o:Op}{l:List Nat}{w:Bool}{k:Int}
abbrev Tx:μ Nat:=[104,97,110,100,32]
def b0w:py!=mk Tx:=by decide+kernel
def Lz(i:Int):μ Nat:=Tx++intC i
def b9h(a b:b!):mk a++mk b=mk cQ_:=by show(#[a.toArray++b.toArray]:Str)=#[(cQ_).toArray];simp
def d1c(i:Int):qZ! bV_=mk bm!:=(mH _).symm
def a4f{i j:Int}(hi:jG_)(hj:j.natAbs<=Bk)(h:intC i=intC j):i=j:=by let a:=gK hi;let b:=gK hj;rw[h,b]at a;exact(D.int.inj (GN a)).symm
def b4q{i:Int}(h0:0<=i)(O:i<16):Db [ck_]=ψ py_:=by
 let hk:N_<10 ^ 60:=by
  let:(16:δ)<10 ^ 60:=by decide
  omega
 let hl:=a3u hk;let e5:(py!).length=5:=by decide+kernel
 let e:Vl "hand " g! [ψ ae!]=ψ py_:=by
  show(if cp!<1920/\(Ad_).length<=big then ψ (D.str Ad_)else υ)=_;rw[FE #[a3r hk,by rw[Str.length_append,e5];delta big;omega],b0w,d1c,b9h];rfl
 simp[Db,Jh,Bh,Ar,e]
def a8q{i:δ}{ol oh:dr_}{lo hi:T_}{R:x!}(hv:Aa i ρ=ψ O!)(hM:gO_)(el:ol ρ=ψ lo)(eh:oh ρ=ψ hi)(k:R (.lst f7_) M):Rm (wl (Aa i)) ol oh ρ M R:=by
 delta Rm;rw[cH hv,el,eh];exact eC (eC ?_);let:lstM M O!=ψ xs:=by simp![lstM,hM]
 rw[this];exact eC k
def CM(t:Ck):WS:=vA!
def a9x{l0:b!}(hM:Ag_){R:E_}:∀(is:B_) (y:aw!),(∀i∈is,0<=i/\i<16)->
  (∀i∈is,l0=Lz i->Ed_ f6! gZ! M λd M'=>R ai! M')->((∀i∈is,l0≠Lz i)->∀y,R (.nx [aG_,y]) M)->
  Md (En 1) aR_ (CM t) gC! [aG_,y] M R
 |[],y,_,_,h2=>#[ο,h2 (λi hi=>by cases hi) y]
 |i::is,y,G,O,h2=>by
  exact dz_;let QR:=G i EY;let e2:Bl vy_ gZ!=qX_ [W (Lz i)]:=by
   let e:f1 Db cF! gZ!=ψ py_:=b4q QR.1 QR.2;delta Bl;rw[eG e];rfl
  let ht:Pk vz! gZ! M (decide (l0=Lz i)):=by
   exact rW (gG (x:=.lst [W l0]) (y:=.lst [W (Lz i)]) (λK hK=>a8q (lo:=υ) (hi:=ψ 1) χ hM χ χ ?_) (bD e2) ?_)
   .rw[a0v];exact hK
   .rw[c8e,a1d]
  show CM t gZ! M _;by_cases c:l0=Lz i
  .rw[FH c]at ht;exact gY ht (O i EY c)
  .rw[FA c]at ht;exact pH ht ?_;exact a9x hM is _ (λj hj=>G j dF!) (λj hj e=>O j dF! e) λz=>h2 λj hj=>by
    obtain rfl|hj:=FD.mp hj
    .exact c
    .exact z j hj
def d0f{l0:b!}{R:x!}(hM:Ag_)
  (O:∀i,0<=i->i<16->l0=Lz i->∀a ta wa M',Dg t M' i a ta wa [] .non [] [] jT_->ca!->R cx_ M')(h2:pz!->Eq_ E X_ M):BS! Ez [bL_]:=by
 exact I_;let hr:(Cw 16)=((Ah!).map D.int):=by
  delta Cw;rw[HU];rfl
 let mem:∀i:Int,i∈Ah!↔0<=i/\i<16:=λi=>by
  rw[GJ];show"#A"
  .rintro⟨j,hj,rfl⟩;rw[JN]at hj;omega
  .rintro⟨a,b⟩;exact#[i.toNat,JN.mpr a!,n!]
 show DQ_ (CM t) [aG_,υ] M (Vb R);delta At Ja Rk;exact eC (x:=Cw 16) ?_;rw[hr];exact a9x hM _ υ (λi hi=>(mem i).mp hi) (λi hi e=>?_) λz y=>?_
 .let#[g1,g2]:=(mem i).mp hi;exact b4a (yy:=i) χ λa ta wa M' _ hA fr _=>O i g1 g2 e a ta wa M' hA fr
 .let hk:=smK (k:=1) a_ a_;exact#[1,χ,hk.a,hk.b,h2 λi a b=>z i ((mem i).mpr pA!)]
def Ev(yy:Int):μ pB!->μ Op->μ Op->Int->Int
 |[],_,_,_=>0
 |none::_,_,_,k=>k
 |some (w,o)::r,S,Wt,k=>if Bi! w then Dw_ r Q! else k
def Te:wY_ pA_->μ δ->ν
 |some (w,o),L=>Es o/\∃l,Vs o l/\L=Uh w l
 |none,L=>Sn L/\Vi (if L.take 6=Dk then L.drop 6 else L)=υ
inductive Fp:List pB!->List aL_->Prop
 |nil:Fp [] []
 |cons {g L gs Ls}:Te g L->Fp gs Ls->Fp (g::gs) (L::Ls)
def DR(t:Ck)(E:EK):WS:=Gv vJ_
abbrev DX(q:D×δ):D:=Gb_ (q.2+2:δ)
def d1z{g:Mr}{f1 f2 f3:g_}{K:x!}(O:pe_)(h2:f2 ρ=ψ c)(h3:f3 ρ=ψ d)(k:g [b,c,d] M K E):Cz 3 g E (Af (wl f1) (CO! (wl f2) (wl f3))) ρ M K:=by delta Cz Af Av;rw[cH O,cU!,cH h3];exact#[χ,k]
def c2s:(O_).1.length<=cS!+1:=by delta stp;cases w<;>simp
def b4c(nd:t.nd){R:E_}:∀(gs:dJ!) (Ls:I!) (n:δ) (S Wt:k!) (bd:D) (kl:B_) (ca:oS!) (M:Mh) (y2 y3:aw!),Fp gs Ls->Hw_ M Wt->Hd S->Ua S Wt yy->cS!+eW_<200->n+eW_<=900->
  (A5_ gs bM!=0->∀M' y2 y3,Ff_ [x0,Y_,y2,y3])->(Ev yy gs S Wt bM!≠0->∀M',E t.NoSave (ψ (A5_ gs bM!)) M')->
  Md (Sh 2 3) aR_ (DR t E) (Gc! n) [x0,Y_,y2,y3] M R:=by
 intro gs
 induction gs with
 |nil=>
  intro Ls n S Wt bd kl ca M y2 y3 hL hA hS hW O h2 hR hE;cases hL;exact#[ο,hR χ M y2 y3]
 |cons g gs ih=>
  intro Ls n S Wt bd kl ca M y2 y3 hL hA hS hW O h2 hR hE;cases hL with
  |@cons _ L _ Ls hg hL=>
  rw[FN]at O h2;exact dz_;exact eC (x:=[x0,Y_,ψ (.int bM!),ψ (W L)]) ?_;let hk:AZ bM!:=smK a! a!;exact b1b (d1z (b:=ay_) (c:=W L) (d:=.int bM!) χ χ χ ?_);cases g with
  |none=>exact b4d hg.1 hk hg.2 (hE (by show bM!≠0;omega) M)
  |some wo=>
   let#[w,o]:=wo;let#[ho,l,hl,rfl]:=hg;let er:∀c:Et S Wt yy w o,A5_ Ai_ bM!=Dw_ gs ((n+1+2:δ):Int):=λc=>by
    show g0_=_;rw[FE c];congr 1
   exact b9n nd hA hS hW a! ho hl hk (λc M' RB og oi mj hS' hW'=>?_) λc M'=>?_
   .rw[er c]at hR hE;exact ih Ls bq! _ _ RB og oi M' _ _ hL mj hS' hW' (by let:=c2s (S:=S) (Wt:=Wt) (w:=w) (o:=o);omega) a! hR hE
   .let e:A5_ Ai_ bM!=bM!:=FC c;rw[e]at hE;exact hE a! M'
def d2m{α:Type}(x:α)(xs:A_)(hl:h!<=1000):Bp! fy_ X_=xs:=by simp[cutL,HT.sIx]
def b4b{l0:b!}{Ls:I!}{gs:dJ!}{R:x!}(nd:t.nd)(hM:pC_)(hL:Fp gs Ls)(az:eW_<=100)
  (h:(∃i,0<=i/\i<16/\l0=Lz i/\(Ev i gs [] [] 2=0->∀M' d,R d M')/\(Ev i gs [] [] 2≠0->∀M',E t.NoSave (ψ (Ev i gs [] [] 2)) M'))\/(pz!/\∀M',E t.NoSave X_ M')):BS! Gb [bL_]:=by
 exact I_;show C9_ (DR t E) Ak! M (Vb R);let hLl:kl!<=100:=by
  let:∀{gs Ls},Fp gs Ls->eW_=kl!:=λh=>by
   induction h with
   |nil=>rfl
   |cons _ _ ih=>simp[ih]
  rw[<-this hL];exact az
 let step:∀{i:Int} {Q:WS} {R2:E_},Ez t [bL_] M (λd M'=>Q [aG_,ψ d,υ,υ] M' R2) E->At nA_ Q Ak! M R2:=λz=>by
  delta At Ce Cz Af Av;rw[cH (f:=Aa 0) (d:=bL_) χ];exact pj!
 exact step (i:=0) (d0f hM (λi i0 i1 e a ta wa M1 hA fr=>?_) λz=>?_)
 .obtain⟨i',g0,g1,e',hR,hE⟩|⟨z,_⟩:=h
  .let:i=i':=by
    rw[e]at e';exact a4f kl_ kl_ (FE! e')
   subst this;let hM1:M1 p=ψ Aj_:=(fr p o3_).trans hM;delta At Ja Tg;exact a8q (lo:=ψ 1) (hi:=υ) χ hM1 χ χ ?_;rw[d2m _ _ j2_];show Md _ _ _ (Gc! 0) _ _ _;exact b4c nd gs Ls 0 [] [] .non [] jT_ M1 υ υ hL hA .nil .nil ao! a! (λz M' y2 y3=>?_) λz M'=>hE z M';exact fU zD! (hR z M' _)
  .exact ξ e (z i i0 i1)
 .obtain⟨i',g0,g1,e',_⟩|⟨_,hE⟩:=h
  .exact Ac_ e' (z i' g0 g1)
  .exact hE M
def b6v:∀(gs:dJ!) (i:δ) (S Wt:k!) (k:Int),1<=k->i<eW_->A5_ Al! k=if A5_ gs k=0\/A5_ gs k>k+i then k+i else Ev yy gs S Wt k:=by
 intro gs
 induction gs with
 |nil=>intro i S Wt k _ h;simp at h
 |cons g gs ih=>
  intro i S Wt k hk hi;let pos:∀{gs:dJ!} {S Wt:k!} {k:Int},1<=k->A5_ gs k=0\/A5_ gs k>=k:=by
   intro gs
   induction gs with
   |nil=>intro S Wt k _;exact .inl χ
   |cons g gs ih=>
    intro S Wt k hk;cases g with
    |none=>exact .inr ce!
    |some wo=>
     show"!l"
     .show"#'"
     .rw[FC c];exact .inr ce!
  cases i with
  |zero=>
   show k=_;let:=pos (gs:=g::gs) (S:=S) (Wt:=Wt) hk;split
   .simp
   .rename_i c;simp at c;omega
  |succ i=>
   rw[FN]at hi;cases g with
   |none=>
    show k=if k=0\/k>k+eY! then _ else k
    rw[a5_]
   |some wo=>
    let#[w,o]:=wo;let e:∀U6,A5_ (ψ (w,o)::U6) k=if Bi! w then Dw_ U6 Q! else k:=λ_=>χ
    rw[List.set_cons_succ,e,e];by_cases c:Bi! w
    .rw[FE c,FE c,ih i _ _ Q! a! a!];let:k+1+(i:Int)=k+eY!:=by omega
     rw[this]
    .rw[FC c,FC c,a5_]
end
section
variable{ρ:Ac}{yy:Int}{S Wt:List Op}{o x:Op}{w:Bool}{k:Int}
def a8x{N:l!}{n:δ}{q:aD_}{ds:e!}(hn:e_=n)(h:q ez_=ψ ai!):Bh N n q ds=ψ d:=by delta Bh;rw[FE hn,h]
def aP{g:eq!}{fa fb:g_}{x:D}(ha:fa ρ=ψ x)(G:fb ρ=ψ y)(hg:g x y=ψ d):f2 g fa fb ρ=ψ d:=by delta f2;rw[ha,G];exact hg
def dQ{f:g_}{b:Bool}(h:f ρ=ψ V_):fT f ρ=ψ b:=by delta fT;rw[h];rfl
def kQ{f g:Q_}{a b:Bool}(O:pD_)(h2:g ρ=ψ b):Cy f g ρ=ψ (a||b):=by delta Cy;rw[O,h2];cases a<;>rfl
def sJ{f g:Q_}{a b:Bool}(O:pD_)(h2:g ρ=ψ b):Bs f g ρ=ψ (a&&b):=by delta Bs;rw[O,h2];cases a<;>rfl
def b0z{f:Q_}{a:Bool}(O:pD_):Bo f ρ=ψ (!a):=by delta Bo;rw[O];rfl
def c6c{ft:Q_}{q1 q2:aD_}(h:pv!):Fo! Cn ρ=q1 ρ:=by delta Cn;rw[h];rfl
def c6d{ft:Q_}{q1 q2:aD_}(h:pv_):Fo! Cn ρ=q2 ρ:=by delta Cn;rw[h];rfl
def sE{ft:Q_}{f:g_}{q:aD_}(h:pv!)(hf:aX_):Al (Cn ft (Ar f) Bb) q ρ=ψ ai!:=by delta Al;rw[c6c h];delta Ar;rw[hf];rfl
def mY{ft:Q_}{q1 q:aD_}(h:pv_):Al (Cn ft q1 Bb) q ρ=q ρ:=by delta Al;rw[c6d h];rfl
def c4r(a b:Int):F9! Ea=rJ! (! c0_):=by simp[Ea,Bm,dep,b1c]
def a9y(a b:Str):DZ_ Ea=rJ! (! c0_):=by simp[Ea,Bm,dep,oR]
def b8s(a b:Bool):Ea (.bl a) V_=rJ! (a != b):=by cases a<;>cases b<;>simp[Ea,Bm,dep,Dl]
def Yc:Ac->ι Fl:=(Cn (Bs nN_ nO!) (Al wh_
 wj_) Bb)
def c8o(hx:Es x)(ho:Es o):Yc dK!=ψ (if Nm x o then .nx dK! else .rt aK!):=by
 let t1:Bs nN_ nO! dK!=ψ Am!:=
  sJ (dQ An_) (dQ (aP (x:=x.v) (y:=o.v) χ χ (b8r hx ho)))
 let t2:Cy wf_ wg_ dK!=ψ Ao!:=
  kQ (dQ (aP Ao_ kn! aR!)) (dQ (aP Ap! Ap_ aR!))
 let t3:fT wi_ dK!=ψ pE_:=
  dQ (aP (aP Ao_ kn! χ) (aP Ap! Ap_ χ) (b8s _ _))
 delta Yc;by_cases c:x.h=o.h/\x≠o
 .rw[GS.mpr c.1,FH c.2]at t1;rw[c6c t1];by_cases c2:x.n=o.n\/x.tm=o.tm
  .let:Ao!=true:=by
    obtain z|z:=c2
    .rw[GS.mpr z];rfl
    .rw[GS.mpr z,MB]
   rw[this]at t2;rw[sE t2 χ,FC];intro z;let:=z c.1 c.2;obtain y|y:=c2
   .exact this.1 y
   .exact this.2.1 y
  .let n1:x.n≠o.n:=λz=>c2 em!;let n2:x.tm≠o.tm:=λz=>c2 im!;rw[Dk! n1,Dk! n2]at t2;rw[mY t2];by_cases c3:x.n<o.n↔x.tm<o.tm
   .let:pE_=false:=by simp[c3]
    rw[this]at t3;rw[c6d t3,FE]
    .rfl
    .exact λ_ _=>#[n1,n2,c3]
   .let:pE_=true:=by
     rw[bne_iff_ne];exact λz=>c3 (by constructor<;>intro y<;>simpa[y]using z)
    rw[this]at t3;rw[c6c t3,FC]
    .rfl
    .exact λz=>c3 (z c.1 c.2).2.2
 .let:Am!=false:=by
   by_cases c1:x.h=o.h
   .let:¬x≠o:=λz=>c pn!;rw[FA this,LH]
   .rw[Dk! c1];rfl
  rw[this]at t1;rw[c6d t1,FE]
  .rfl
  .exact λa b=>Ac_ pA! c
def a8j(ho:Es o):∀(xs:k!) (y:aw!),(EO! xs)->∃y',FE_ [ψ y0,az!,y]=ψ (if∀x∈xs,Nm x o then .nx [ψ y0,az!,y']else .rt aK!)
 |[],y,_=>#[y,by rw[FE λx hx=>(CH! hx)];rfl]
 |x::xs,y,h=>by
  let e:=c8o (y0:=y0) (h x EY) ho;let#[y',ih]:=a8j ho xs (ψ x.v) λz hz=>h z kq!
  exact#[y',?_];show((Yc dK!).bind λr=>match r with|.nx br=>Gh ey! Yc aH! br|.rt d=>ψ ai!)=_;rw[e];by_cases c:Nm x o
  .rw[FE c];show FE_ dK!=_;rw[ih];congr 1;by_cases c2:∀x∈xs,Nm x o
   .rw[FE c2,FE λz hz=>Dg_ hz (λe=>e▸c) (c2 z)]
   .rw[FC c2,FC λz=>c2 λu hu=>z u (EW _ hu)]
  .rw[FC c,FC λz=>c (z x EY)];rfl
def c6q{xs:k!}(hx:∀x∈xs,Es x)(ho:Es o):Fo [.lst aH!,o.v]=ψ Ar!:=by
 let#[y',e]:=a8j (y0:=.lst aH!) ho xs υ hx;let e2:Lq Ar_=Hk! Ar!:=by
  show((FE_ Ar_).bind λr=>match r with|.nx ρ'=>Ar (fC ae_) ρ'|.rt d=>ψ ai!)=_;rw[e];by_cases c:∀x∈xs,Nm x o
  .rw[FE c,FH c];rfl
  .rw[FC c,FA c];rfl
 exact a8x χ e2
def Nf(w:Bool):Str:=if w then "waits " else ""
def Bw(q:Bool×Op):D:=.tup [.str (Nf q.1),q.2.v]
def b9w:(Nf w==Str.ofString "")=!w:=by cases w<;>decide+kernel
def b1m{x0:D}(ho:Es o):∀(S:k!),Cp r_ (fT gh_) g! [υ,az!] ce_=ψ j3!
 |[]=>rfl
 |x::S=>by
  let ih:=b1m (x0:=x0) ho S;let e:fT gh_ pF!=A0! x.h o.h:=dQ An_;show((fT gh_ pF!).bind λb=>if b=τ then(Aa 0 pF!).bind λy=>(GZ! _ ce_).map gc! else Cp _ _ _ _ ce_)=_;rw[e,ih];delta hs;by_cases c:x.h=o.h
  .rw[yX_,GS.mpr c];rfl
  .rw[yY!,FS.mpr c];rfl
def a4z{fe:g_}{f:Op->D}:∀(xs:k!),(FF! [gU_])->Co_ fe aH!=ψ (xs.map f)
 |[],_=>rfl
 |x::xs,h=>by
  let ih:=a4z xs λy hy=>h y dj_;show((fe [gU_]).bind λy=>(Co_ fe aH!).map gc!)=_;rw[h x EY,ih];rfl
def wP:∀(xs:k!),Dc (xs.map Op.nm)=τ
 |[]=>by simp[Dc]
 |x::xs=>by
  rw[FI];delta Dc;rw[wP xs];simp[Op.nm,Di,Dc]
def c8d:Dl x.nm o.nm=decide (x.nm=o.nm):=by
 by_cases c:x.nm=o.nm
 .rw[FH c];let:=lS.mp c;simp[Op.nm,Dl,Go,this.1,this.2]
 .rw[FA c];let:¬zp_:=λz=>c (lS.mpr z);simp[Op.nm,Dl,Go];intro a b;exact this pA!
def d3v:Sb θ M0 o.nm g1_=GV_ At!:=by
 show(if(Bm o.nm&&Cm cd!&&decide (Du cd!<=40))=τ then ψ (D.bl ((cd!).any λd=>Dl d o.nm))else υ)=_;let h0:Bm o.nm=true:=by simp[Op.nm,Bm,Cm]
 let O:Cm cd!=true:=iF λd hd=>by let#[x,hx,rfl]:=GJ.mp hd;simp[Op.nm,Bm,Cm]
 let h2:Du cd!<=40:=kU λd hd=>by let#[x,hx,rfl]:=GJ.mp hd;simp[Op.nm,dep,Du]
 rw[h0,O,FH h2];show CF! _=_;congr 2;by_cases c:o.nm∈Gb! Op.nm
 .rw[FH c];exact Gm_ #[o.nm,c,by rw[c8d];exact FH χ]
 .show"!v";rw[c8d];exact λz=>c (by rw[<-HC z];exact hd)
def Wj:Ac->ι Fl:=(Al wl!
 (Al wl_
 (Al wo_
 (Al wq!
 (Al ws!
 (Al wu!
 (Al wv_
 ww_)))))))
abbrev Kj(yy:Int)(rows:be_)(S Wt:k!)(y4 y5 y6 y7 y8:aw!):Ac:=[eZ!,ψ g2!,ψ (.lst ce_),ψ (.lst ay!),y4,y5,y6,y7,y8]
def a6b{rows:be_}{i:δ}(h:At_):Ao g2! g2_=ψ dK_:=by let hl:=(FO.mp h).1;show Da bu! (i:Int)=_;delta Da Dd;rw[aS!,FE j2_];show bu![((i:Int)).toNat]?=_;rw[show((i:Int)).toNat=i from χ,GF,h];rfl
def c8h{rows:be_}{i:δ}(h:At_)(hr:pG_)(ho:Es o)(hS:∀x∈S,Es x)(hW:kf!)(hl:cS!+a2!<=200):
  ∃QY y6' y7' y8',Wj pH!=ψ (if Et S Wt yy w o then .nx (Kj yy rows (O_).1 (O_).2 aS_ QY y6' y7' y8')else .rt (.int eZ_)):=by
 exact#[ψ g3!,az!,ψ ko_,ψ g1_,?_];let e5:BO! iW_ pH!=ψ g3!:=Bv_ Av!;delta Wj;rw[FF_ e5];show Al _ _ Av_=_;let e6:Er! iW_ Av_=ψ o.v:=Bv_ Av!;rw[FF_ e6];show Al _ _ cZ_=_;let er:∀{y7 y8:aw!},f2 Ag R! al_ cZ_=uY_ eZ_:=χ;let ek:∀{y7 y8:aw!},f2 Be bp! b4_ cZ_=rJ! (!w):=λ{y7 y8}=>Dc! dZ;let t1:Cy wm! wn_ cZ_=ψ (θ||(Aw!||!decide pi_)):=by
  exact kQ (dQ (aP (x:=o.v) (y:=.non) χ χ χ)) (kQ (sJ (dQ ek) χ) (b0z (dQ ?_)));let ea:f2 Ag ab_ ar_ cZ_=qX_ Ax!:=by
   exact aP (x:=.lst ce_) (y:=.lst ay!) χ χ ?_;show(if(ce_).length+(ay!).length<=big then ψ (D.lst (S.map Op.v++Wt.map Op.v))else υ)=_;rw[Ax_,GO]
  let ea2:Ab wn! nL! cZ_=ψ [.lst Ax!,o.v]:=by
   delta Ab;rw[ea];rfl
  rw[uI ea2];exact c6q (λx hx=>(gQ!).elim (hS x) (hW x)) ho
 by_cases c1:Aw!||!decide pi_
 .rw[c1]at t1;rw[sE t1 er,FC];intro z;let#[z1,z2,_]:=z;rw[FH z2]at c1;cases w with
  |true=>simp at c1
  |false=>exact z1 #[χ,λy=>by rw[y]at c1;simp at c1]
 rw[OU]at c1;rw[c1]at t1;rw[mY t1];let e7:Me wp_ cZ_=ψ ko_:=by
  let ec:E4_ 1 cZ_=qX_ j3!:=by
   show(if(ce_).length<=big then(GZ! [υ,az!] ce_).map D.lst else υ)=_;rw[dB!,b1m (x0:=.non) ho];rfl
  delta Me;rw[uI (eG ec)];show((DN! j3!).bind λd=>if Di d=τ then ψ d else υ)=_;rw[EX];rfl
 rw[FF_ e7];show Al _ _ kp_=_;let t2:Cy wr! wr_ kp_=ψ (decide Ay!||((pI!) != !w)):=
  kQ (dQ (Bv_ kn!)) (dQ (aP (aP kn! (Fh! (nh S o.h)) aR!) ek (b8s _ _)))
 by_cases c2:decide Ay!||((pI!) != !w)
 .rw[c2]at t2;rw[sE t2 er,FC];rintro⟨_,_,z3,z4,_⟩;rw[FA z3,Bool.false_or,bne_iff_ne]at c2;apply c2;cases w with
  |true=>rw[FS.mpr λy=>(by let:=z4.mp y;cases this)];rfl
  |false=>rw[GS.mpr (z4.mpr χ)];rfl
 rw[OU]at c2;rw[c2]at t2;rw[mY t2];let e8:Se ws_ kp_=ψ g1_:=by
  let ec:AT_ (Ej ar_) nk_ kp_=ψ g1_:=by
   show(A3! ay! ay!)=_;rw[dB!,a4z Wt λx hx=>a8o x];rfl
  delta Se;rw[ec];show(if Dc cd!=τ then ψ (D.lst cd!)else υ)=_;rw[FE (wP Wt)]
 rw[FF_ e8];show Al _ _ pI_=_;let t3:Bs wt_ wv! pI_=ψ (!(!w)&&AA!):=
  sJ (dQ (Dc! a9y)) (kQ (dQ (aP An! (y:=gN!) χ aR!)) (kQ (dQ (aP (x:=.int Az!) χ χ aR!)) (dQ (aP (x:=o.nm) (a8o o) χ d3v))))
 by_cases c3:!(!w)&&AA!
 .rw[c3]at t3;rw[sE t3 er,FC];rintro⟨_,_,_,_,z5⟩;cases w with
  |false=>simp at c3
  |true=>
   let#[a,b,c]:=z5 χ;rw[FS.mpr a,FA c,EX,zV_]at c3;simp at c3
 rw[OU]at c3;rw[c3]at t3;rw[mY t3];let ok:Bi! w:=by
  rw[LN]at c1 c2;let#[RC,c12]:=c1;let#[c21,c22]:=c2;let c12':∀x∈S++Wt,Nm x o:=HC (AM! c12);let c21':=of_decide_eq_false c21;let RD:pI!=!w:=by simpa[bne]using c22
  exact#[jV!,c12',c21',?_,jV!]
  .rw[z.1]at RC;simp at RC;exact z.2 RC
  .cases w with
   |true=>exact#[λy=>(by rw[GS.mpr y]at RD;cases RD),λy=>(CH! y)]
   |false=>exact#[bj_,λ_=>GS.mp RD]
  .subst z;rw[Bool.not_not,Bool.true_and,LN,LN,EX]at c3;exact#[FS.mp c3.1,λy=>by let:=FS.mp c3.2.1;omega,of_decide_eq_false c3.2.2]
 rw[FE ok];let tk:fT iX! pI_=ψ (!w):=dQ ek;cases w with
 |true=>
  rw[c6d tk];show(CH_ ay!)=_;rw[dB!];simp[stp,Kj]
 |false=>
  rw[c6c tk];show(CH_ ce_)=_;rw[dB!];simp[stp,Kj]
end
section
variable{yy:Int}{S Wt:List Op}{o x:Op}{w:Bool}{k:Int}
def c8p(hS:∀x∈S,Es x)(hW:kf!)(ho:Es o):(∀x∈(O_).1,Es x)/\(∀x∈(O_).2,Es x)/\(O_).1.length+(O_).2.length=cS!+a2!+1:=by
 let sp:∀{l:k!},(EO! l)->∀x∈l++[o],Es x:=λh x hx=>(gQ!).elim (h x) λz=>by rw[b9!];exact ho
 delta stp;cases w with
 |true=>exact#[hS,sp hW,a0!]
 |false=>exact#[sp hS,hW,a0!]
def c2h{rows:be_}(hr:pG_)(jg:AB_):∀(n i:δ) (S Wt:k!) (y4 y5 y6 y7 y8:aw!),i+n=bN!->(EO! S)->(EO! Wt)->cS!+a2!<=i->
  (A5_ kr! eZ_=0/\∃ρ',Ht_ AC!=ψ eU_)\/
  (A5_ kr! eZ_≠0/\Ht_ AC!=Hk! (.int (A5_ kr! eZ_))):=by
 intro n
 induction n with
 |zero=>
  intro i S Wt y4 y5 y6 y7 y8 hi _ _ _;rw[List.drop_of_length_le a!];exact .inl #[χ,_,χ]
 |succ n ih=>
  intro i S Wt y4 y5 y6 y7 y8 hi hS hW hl;let ax:i<bN!:=by omega
  let hd:rows.drop i=rows[i]::rows.drop u_:=GV ax;let hg:rows[i]?=some rows[i]:=GH ax;let ho:=jg _ (IV ax);generalize rows[i]=q at hd hg ho;let#[w,o]:=q;let ho:Es o:=ho;let#[a5,a6,a7,a8,e]:=c8h (yy:=yy) (S:=S) (Wt:=Wt) (y5:=y5) (y6:=y6) (y7:=y7) (y8:=y8) hg hr ho hS hW a!;let ee:Ev yy kr! S Wt eZ_=if Et S Wt yy w o then Ev yy ((rows.drop u_).map some) (O_).1 (O_).2 (eY!+2)else(i:Int)+2:=by
   rw[hd,FI];show(if Et S Wt yy w o then Ev yy _ _ _ ((i:Int)+2+1)else _)=_;rw[show(i:Int)+2+1=eY!+2 by omega]
  let el:∀{c:Bool},Ht_ (Ee! i bq!)=((Wj pH!).bind λr=>match r with|.nx br=>Gh du! Wj (Ee! u_ n) br|.rt d=>ψ ai!):=by
   intro c;rw[List.range'_succ];rfl
  rw[el (c:=τ),e,ee];by_cases c:Bi! w
  .rw[FE c,FE c];let#[g1,g2,g3]:=c8p (w:=w) hS hW ho;exact ih u_ _ _ _ _ _ _ _ a! g1 g2 a!
  .rw[FC c,FC c];exact .inr #[n!,χ]
def b5n{rows:be_}(hr:pG_)(jg:AB_):Jn [gN!,.lst bu!]=ψ AD!:=by
 exact a8x χ ?_;let hl:Fv iz! g4!=ψ AD_:=by
  let e:f1 Bi cF! g4!=uY_ ks_:=by
   show ψ AE!=_;rw[EX]
  delta Fv;rw[e];show(if -1000<=ks_/\ks_<=100000 then ψ (Cw (ks_).toNat)else υ)=_;rw[aS!,KA];delta Cw;rw[List.range_eq_range']
 let es:Ou AE_=((Gh du! Wj AD_ g4!).bind λr=>match r with|.nx ρ'=>Ar y_ ρ'|.rt d=>ψ ai!):=by
  show((Fv iz! g4!).bind λds=>Gh du! Wj ds g4!).bind _=_;rw[hl];rfl
 show Ou AE_=_;rw[es];let:=c2h (yy:=yy) hr jg rows.length 0 [] [] υ υ υ υ υ a! AG! AG! c_;rw[MD]at this;obtain⟨a,ρ',e⟩|⟨a,e⟩:=this
 .rw[e];let a:Ev yy g3_ [] [] 2=0:=a;rw[a];rfl
 .rw[e];rfl
end
def dJ(h:aX_)(g:gX!):Ab f fs ρ=ψ cy!:=by delta Ab;rw[h,g];rfl
def b1a(h:gX!)(e:g ds=ψ d):f1 g fs ρ=ψ d:=by delta f1;rw[h];exact e
def zH(h:0<j):As ae! cc_=uY_ (i%j):=by show(if decide (0<j)=τ then _ else _)=_;rw[FE (FH h)]
section
def pG(h:gX!)(hl:Nat.ble ds.length 1000=τ):Ay fs ρ=ψ dm_:=by delta Ay;rw[h];show AG_=_;rw[FE (Nat.le_of_ble_eq_true hl)]
end
structure HW(i:Nat)(os:k!)(c t:co_):Prop where
 hist:Hd os
 len:eN_=i
 q:∀h,c h=((oQ_).length:δ)
 u:∀x∈os,x.tm<=t x.h
 b:∀h,0<=t h/\t h<=3*i
 s:∀x∈os,x.h=0\/x.h=5\/x.h=15
def Es.ok{o:Op}(h:Es o):Um o.v:=#[o.h,o.n,o.tm,o.d,χ,h.hh.1,h.hh.2,h.n1,h.n2,h.dg]
def HW.step{i:δ}{os:k!}{c t:co_}{a m:Int}(hw:HW i os c t)(ha:a=0\/a=5\/a=15)(h0:0<=m)(hi:i<100)(hd:DG dd):HW u_ (os++[#[a,c a+1,t a+1+m / 3%3,dd]]) (λh=>if h=a then c a+1 else c h) (λh=>if h=a then t a+1+m / 3%3 else t h):=by
 let m1:0<=m / 3%3:=IK _ a_;let m2:m / 3%3<3:=HM _ a_;let hc:=hw.q a;let G:=hw.b a;let hl:=c0d os a;rw[hw.len]at hl;exact#[hw.hist.snoc #[by obtain z|z|z:=ha<;>(show 0<=a/\a<16;omega),by show 1<=t a+1+m / 3%3;omega,by show t a+1+m / 3%3<=1000;omega,by show 1<=c a+1;omega,by show c a+1<=2000;omega,hd] (by show c a+1=((hs os a).length:δ)+1;omega) (λx hx (hh:x.h=a)=>by let:=hw.u x hx;rw[hh]at this;show x.tm<t a+1+m / 3%3;omega),by rw[FX,hw.len];rfl,λh=>?_,λx hx=>?_,λh=>?_,λx hx=>(gQ!).elim (hw.s x) λz=>by rw[b9!];exact ha]
 .show(if h=a then c a+1 else c h)=_;rw[fJ,mQ,FX];by_cases e:h=a
  .rw[FE e,e,S!,hc];simp
  .rw[FC e,FC (GI e),hw.q h];simp
 .show _<=if x.h=a then t a+1+m / 3%3 else t x.h
  obtain z|z:=FL.mp hx
  .let:=hw.u x z;split
   .rename_i e;rw[e]at this;omega
   .exact this
  .rw[b9!,S!];exact HE _
 .show 0<=AH_/\AH_<=_;let:=hw.b h;split<;>omega
def b7e(hv:fv ρ=ψ d)(hx:AI!)(hl:pL!)(hk:Dd ds.length j=ψ k):Ss i fx fv ρ=DT_ v6_:=by delta Ss;rw[hv,hx,hl];show(nL_).map _=_;rw[hk];rfl
def a0c(hx:AI!)(hl:pL!)(h:Da ds j=ψ d):Pe i fx ρ=ψ d:=by delta Pe;rw[hx,hl];exact h
def d2g(hf:aX_)(hl:pL!)(G:e_<big):Mp i f ρ=ψ v3_:=by delta Mp;rw[hf,hl];show(if e_<big then _ else _)=_;rw[FE G]
def c6j(h:aX_)(n:Di d=τ):Me f ρ=ψ d:=by delta Me;rw[h];show(if Di d=τ then _ else _)=_;rw[FE n]
def b8z:Br (.int 7) cc_=uY_ (7*j):=χ
def b5m{base j m kk a c t:Int}{os cs ts:e!}(em:Az [Hl ns,.int (base+7*j)]=ψ jn_)(ed:Ic [Hl ns,.int (base+7*j+1),.lst os,.int 5]=ψ dd)(nd:Di dd=τ)(z:m%3=kk)
  (hc:Da cs kk=uY_ c)(ht:Da ts kk=uY_ t)(kc:Dd cs.length kk=ψ k)(kt:Dd ts.length kk=ψ k)(gh:Da AJ! kk=uY_ (c+1))(ht':Da AK! kk=ψ AJ_)
  (ha:Da [D.int 0,.int 5,.int 15] kk=ψ jk_)(G:eN_<big):
  Tl [R_,am!,ψ N,qX_ os,qX_ cs,qX_ ts,ψ cc_,x7,x8,x9]=DT_ [R_,am!,ψ N,ψ (.lst (os++[.tup [.int a,.int (c+1),.int (t+1+m / 3%3),dd]])),ψ (.lst AJ!),ψ (.lst AK!),ψ cc_,ψ jn_,ψ (.int kk),ψ dd]:=by
 exact(FF_ (b1a (dJ χ (dJ pL_ χ)) em)).trans ?_;exact(FF_ (aP χ χ ((zH a_).trans (by rw[z])))).trans ?_;exact HV_ (b7e (Bv_ (G8_ hc)) χ χ kc);exact HV_ (b7e (aP (Bv_ (G8_ ht)) (aP kv_ χ (zH a_)) χ) χ χ kt);exact HV_ (fG (c6j (b1a (dJ χ (dJ (Bv_ pL_) (dJ χ (FG! dJ)))) ed) nd));exact d2g (pG (dJ (aP χ χ ha) (dJ (G8_ gh) (dJ (G8_ ht') (FG! dJ)))) χ) χ G
def b1u(ns:B_)(base:Int)(N:δ)(hN:N<=100):∃os:List Op,Jo [Hl ns,.int base,.int N]=ψ g5!/\eN_=N/\Hd os/\(∀x∈os,x.tm<=3*N)/\∀x∈os,x.h=0\/x.h=5\/x.h=15:=by
 let -nondep P:δ->Ac->Prop:=λi ρ=>∃(os:k!) (c t:co_) (x6 x7 x8 x9:aw!),ρ=pR_/\eN_=i/\HW i os c t
 let#[ρ',e,os,c,t,x6,x7,x8,x9,rfl,hl,hw]:=nQ (bnd:=En 6) (q:=Tl) P eG_ 0
  g6!
  #[[],λ_=>0,λ_=>0,υ,υ,υ,υ,χ,χ,.nil,χ,bj_,dI!,λ_=>by simp,dI!] (by
   rintro j d ρ hd ⟨os,c,t,x6,x7,x8,x9,rfl,hl,hw⟩;delta Cw at hd;rw[GF]at hd;let#[i',ip,rfl]:=EZ.mp hd;let#[ax,he]:=FO.mp ip;rw[OD]at he;subst he;rw[IQ]at ax;let ho:∀o∈os.map Op.v,Um o:=λo ho=>by let#[x,hx,rfl]:=GJ.mp ho;exact(hw.hist.op x hx).ok
   let wu:(eS_).length<=100:=by rw[EX];omega
   let#[m,em,m0,_]:=hV ns (k:=base+7*(j:δ));let#[dd,ed,hd]:=c6x ns (base:=base+7*(j:δ)+1) (most:=5) ho wu a_ a_;let nd:=a7t hd;let G:(eS_).length<big:=by delta big;omega
   let hat:m%3=0\/m%3=1\/m%3=2:=by omega
   obtain z|z|z:=hat
   .exact A2! q_
   .exact A2! eL!
   .exact A2! (.inr gF_))
 exact#[os,?_,by simpa[Cw]using hl,hw.hist,(λx hx=>by let:=hw.u x hx;let:=hw.b x.h;simp[Cw]at this;omega),hw.s];let hr:-1000<=(N:Int)/\(N:Int)<=100000:=by omega
 let hf:Nl (Fv ab_) (En 6) Tl g6!=DT_ pR_:=by
  let hi:Fv ab_ g6!=ψ eG_:=by
   simp[Fv,Aa,hr]
  delta Nl;rw[hi];exact e
 let hq:Ov pT_=Hk! g5!:=by
  show Bv! Tl _=_;rw[dC (ρ':=[R_,am!,e1_,ψ eO_,υ,υ,υ,υ,υ,υ]) χ];rw[dC (ρ':=[R_,am!,e1_,ψ eO_,lk!,υ,υ,υ,υ,υ]) χ];rw[dC (ρ':=g6!) χ];rw[dC hf];rfl
 delta Jo Bh;rw[cv_];show(match Ov pT_ with|some (.rt d)=>ψ d|some (.nx _)=>ψ .non|none=>υ)=_;rw[hq]
section
variable{L:List Nat}
def mF{l v:b!}{ws:I!}(h:wordsR l=v::ws)(hn:BC! (mk v)=υ):Vi l=none:=by
 delta Vi;rw[h];let e:cutL (v::ws) υ aG!=v::CO_ ws (ψ 2):=by
  simp[cutL,HT.sIx];rw[show min 3 (ws.length+1)=min 2 ws.length+1 by omega,NV]
 rw[e];let:Lu v=none:=by delta Lu;rw[hn];rfl
 delta Ha;rw[this];rfl
def Jm(L:b!):δ->μ δ
 |0=>[]
 |1=>kE_
 |2=>g7_
 |3=>32::L
 |4=>pV!
 |5=>g8!
 |_=>pV_
def b4g(hl:L.length<=500)(hs:∀c∈L,El c=τ)(j:δ):Te υ (Jm L j):=by
 delta Jm;split
 .exact#[dE!,by rw[bD!];exact mF (v:=[]) (ws:=[]) d! d!]
 .exact#[dE!,by rw[bD!];exact mF (v:=g8!) (ws:=[[49,54]]) d! d!]
 .exact Cq_ g7_
 .exact#[#[a0!,jj!],?_]
  .obtain rfl|hc:=FD.mp hc
   .decide
   .exact hs c hc
  .rw[FC (by intro z;rw[NV]at z;let:=(pg!).1;omega)];exact mF (v:=[]) (ws:=Dp 32 5 L) au_ d!
 .exact#[dE!,by rw[FE a_];exact mF (v:=g7_) (ws:=[[49]]) d! d!]
 .exact Cq_ g8!
 .exact#[dE!,by rw[FE a_];exact mF (v:=[]) (ws:=[[120]]) d! d!]
def b4h(j:δ){i:Int}(h0:0<=i)(O:i<16):Jm L j≠Lz i:=by
 let hd:∀{l:b!} {c:δ} {r:b!},l=c::r->c≠104->l≠Lz i:=λe hc z=>by
  rw[e]at z;exact hc (pg!).1
 let az:∀{l:b!},bt_<=4->l≠Lz i:=λh z=>by
  rw[z]at h;delta Lz at h;simp at h
 delta Jm;split
 .exact az a_
 .intro z;let e16:(kE_:μ δ)=Tx++intC 16:=by decide+kernel
  rw[e16]at z;let:=a4f (i:=16) (j:=i) kl_ kl_ (FE! z);omega
 .exact g8_
 .exact g8_
 .exact g8_
 .exact az a_
 .exact g8_
end
section
variable{t:Ck}{M:Mh}{ρ:Ac}{ns:List Int}{yy:Int}{rows:List (Bool×Op)}{o:Op}{w:Bool}
def sA(ns:B_)(k j:Int)(hj:0<j):∃r,0<=r/\r<j/\∀(ρ:Ac) (f:g_) (g:g_),Aa 0 ρ=ψ (Hl ns)->f ρ=ψ hU!->g ρ=ψ cc_->f2 As (f1 Az (Ab g! e5!)) g ρ=ψ e6!:=by let#[m,e,h0,_]:=hV ns (k:=k);exact#[m%j,IK _ a!,HM _ hj,λρ f g O h2 h3=>?_];exact aP (b1a (dJ O (dJ h2 χ)) e) h3 (zH hj)
def Dy(B:Int)(N:δ)(rs:be_):Prop:=rs.length<=N/\∀q∈rs,Es q.2/\q.2.tm<=B
def fS{fa fb:g_}{a b:be_}(O:fa ρ=qX_ (a.map Bw))(h2:fb ρ=qX_ (b.map Bw))(hl:pX_):f2 Ag fa fb ρ=GC! cQ_ Bw:=by exact aP O h2 ?_;show(if(a.map Bw).length+(b.map Bw).length<=big then ψ (D.lst (a.map Bw++b.map Bw))else υ)=_;rw[Ax_,GO]
def kW{ol oh:dr_}{lo hi:T_}{i:δ}(O:Aa i ρ=ψ g2!)(h2:ol ρ=ψ lo)(h3:oh ρ=ψ hi):Ci (Aa i) ol oh ρ=GC! pZ! Bw:=by delta Ci;rw[O,h2,h3];show GE_ (HT_ bu!)=_;rw[fQ]
def Dy.add{B:Int}{N N':δ}{a b:be_}(O:Dy B N a)(h2:Dy B N' b):Dy B (N+N') cQ_:=#[by rw[FX];let:=O.1;let:=h2.1;omega,λq hq=>(FL.mp hq).elim (O.2 q) (h2.2 q)]
def Dy.mono{B B':Int}{N N':δ}(h:Dy B N rows)(hB:B<=B')(hN:N<=N'):Dy B' N' rows:=#[GB h.1 hN,λq hq=>#[(h.2 q hq).1,by let:=(h.2 q hq).2;omega]]
def Dy.one{B:Int}{q:Bool×Op}(h:Es q.2)(G:q.2.tm<=B):Dy B 1 [q]:=#[FF _,λx hx=>by rw[FR.mp hx];exact#[h,G]]
def qG{ft:WT}{fe:WE}{rest:Ac}{α:Type}{v:gF!}{f:gF!}{R:jY!}:∀(xs:A_),(∀x∈xs,∃b,Pk ft dN! M b)->(∀x∈xs,Pu fe dN! M (f x))->
  (∀ys:List α,p2_->H_<=h!->R (ys.map f) M)->Js r_ aR_ ft fe e7! hb! M R:=by
 intro xs
 induction xs generalizing R with
 |nil=>intro _ _ k;exact#[ο,k [] (λy hy=>hy) p!]
 |cons x xs ih=>
  intro O h2 k;exact dz_;exact eC (x:=Hr! v::rest) ?_;let#[b,G]:=O x EY;exact G _ ?_;let i1:=λy hy=>O y hc!;let i2:=λy hy=>h2 y hc!;cases b with
  |true=>
   exact kN (h2 x EY _ (ih i1 i2 λys hy hl=>?_));exact k (x::ys) (λy RE=>Dg_ RE p3! λz=>EW _ (hy y z)) ao!
  |false=>exact kO (ih i1 i2 λys hy hl=>k ys (λy z=>EW _ (hy y z)) ao!)
def xL{ft:Q_}{fe:g_}{rest:Ac}{α:Type}{v:gF!}{f:gF!}:∀(xs:A_),(∀x∈xs,∃b,ft dN!=ψ b)->(FF! dN!)->
  ∃ys:List α,p2_/\H_<=h!/\EO_ hb!=ψ (ys.map f)
 |[],_,_=>#[[],λy hy=>hy,FF _,χ]
 |x::xs,O,h2=>by
  let#[b,G]:=O x EY;let#[ys,a1,a2,a3]:=xL xs (λy hy=>O y hc!) λy hy=>h2 y hc!
  let e:EO_ ((fy_).map v)=((ft dN!).bind λb=>if b=τ then(fe dN!).bind λy=>(EO_ hb!).map gc! else Cp r_ ft fe e7! hb!):=χ;rw[G,h2 x EY,a3]at e;cases b with
  |true=>exact#[x::ys,λy RE=>(FD.mp RE).elim p3! λz=>EW _ (a1 y z),a0!,e]
  |false=>exact#[ys,λy z=>EW _ (a1 y z),a0!,e]
def b0x{bnd:ac!}{q:WS}(P:xD_){R:E_}:∀(ds:e!) (i:δ) (ρ:Ac),(∀(j:δ) (d:D) (ρ:Ac),ds[j]?=ψ d->P (i+j) ρ->∃a9,bnd d ρ=ψ a9/\∀R':Fl->Mh->Prop,(∀br,P (i+j+1) br->R' (.nx br) M)->q a9 M R')->P i ρ->(∀ρ',P (i+e_) ρ'->R eU_ M)->Md bnd aR_ q ds ρ M R
 |[],i,ρ,_,h,k=>#[ο,k ρ h]
 |d::ds,i,ρ,hs,h,k=>by
  exact dz_;let#[a9,e,hq]:=hs 0 d ρ χ h;rw[e];exact eC (hq _ λbr h2=>?_);exact b0x P ds u_ br (λj d' ρ' hd hp=>by
   let:=hs (j+1) d' ρ' hd xF_;rw[xG!]at this;exact this) h2 λρ' h'=>k ρ' (by rw[FN,xG_];exact h')
def b2a{f:g_}(h:f ρ=ψ dK_):Ay (Bh_ (f2 Ao nT_ (f1 Pd kL_)) dN_) ρ=ψ (Bw (!w,o)):=by
 let e1:BO! f ρ=ψ g3!:=Bv_ h;let e2:Er! f ρ=ψ o.v:=Bv_ h;let e3:HE! kL! ρ=rJ! w:=aP e1 χ ((a9y _ _).trans (by rw[b9w,Bool.not_not]));let e4:f1 Pd kL_ ρ=uY_ (if w then 1 else 0):=by rw[uI (eG e3)];rfl
 let e5:f2 Ao nT_ (f1 Pd kL_) ρ=Ce! (Nf !w):=aP χ e4 (by cases w<;>rfl);exact EU! e5 e2
def c5n{f g:g_}{r:Int}(h:f ρ=ψ dK_)(hg:g ρ=ψ e6!):Ay (Ab kL! (Ab (f2 Ag (f2 Ag (DM! dN_) (Ay p6!)) (EK! dN_)) Ad)) ρ=ψ (Bw (w,{o with tm:=o.tm+r})):=by
 let e1:BO! f ρ=ψ g3!:=Bv_ h;let e2:Er! f ρ=ψ o.v:=Bv_ h;let e3:DM! dN_ ρ=ψ o.nm:=by
  delta Ci;rw[e2];exact a8o o
 let e4:Ay p6! ρ=AW! [.int (o.tm+r)]:=pG (eG (aP (aP e2 χ (jO o)) hg χ)) χ;let e5:EK! dN_ ρ=AW! [o.d]:=by
  delta Ci;rw[e2];show Ak o.v aG! υ=_;simp[Op.v,Ak,cutL,HT.sIx]
 exact EU! e1 (aP (aP e3 e4 χ) e5 χ)
end
def BQ:WS:=(At wM_
 (Dh wO_ (At wP!
 (At wP_
 (At wR!
 (At wT!
 (At wU!
 wZ!))))) Ff))
def Vj(t:Ck):WS:=(At nW!
 (At nX!
 (At (Dh nX_ (At nY!
 (At nY_
 (At nZ!
 nZ_))) Ff)
 (At n0!
 (At jf!
 (Ei gn!))))))
def d0r(t:Ck):Tr t=(At wy_
 (At wB_
 (At wC_
 (At wE!
 (At wF!
 (At (Dh (Iz (fT nS_)) (At wH!
 wJ_) Ff)
 (At p8_
 (Vj t)))))))):=χ
section
variable{t:Ck}{M:Mh}{ρ:Ac}{ns:List Int}{yy:Int}{rows:List (Bool×Op)}{o:Op}{w:Bool}
abbrev lE(ns:B_)(x1:aw!)(yy:Int)(x3:aw!)(rows:be_)(x5 x6 x7 x8 x9 bh cx c9 bc cm cg cb b8:aw!):Ac:=[R_,x1,eZ!,x3,ψ g2!,x5,x6,x7,x8,x9,bh,cx,c9,bc,cm,cg,cb,b8]
def c1o{α:Type}{xs:A_}{i:δ}(h:i<h!):CO_ xs aj_=xs.take i:=by delta cutL;rw[HT.sIx_none,HT.sIx_nat,MD,Nat.sub_zero,NJ (JH h)]
def xH{α:Type}{xs:A_}{i:δ}(h:i<=h!):Bp! xs aj_=xs.drop i:=by delta cutL;rw[HT.sIx_none,HT.sIx_nat,NJ h];exact LB l6_
def c1q{α:Type}{xs:A_}{i:δ}(h:i<h!):Bp! xs dQ!=xs.drop u_:=by rw[show(i:Int)+1=eY! by omega];exact xH h
def zN{fs:ar!}{ds:e!}(h:gX!)(hl:e_<=1000):Bl fs ρ=ψ bm_:=by delta Bl;rw[h];show AG_=_;rw[FE hl]
def d2w{f:g_}{r:Int}(O:1<=r)(h2:r<=5){fs:ar!}(hs:fs ρ=ψ kJ!)(hf:f ρ=ψ e6!):∃x∈kJ!,f2 Ao (Bl fs) (f2 Bt f v_) ρ=ψ x:=by
 let hl:=zN hs (Fg! 5 1000);let hr:r=1\/r=2\/r=3\/r=4\/r=5:=by omega
 obtain rfl|rfl|rfl|rfl|rfl:=hr
 .exact EP! a
 .exact EP! b
 .exact EP! c
 .exact EP! d
 .exact EP! e
def c2o{j B:Int}{N:δ}{R:E_}(hp:Dy B N rows)(hB:B<=900)(hN:N<=200)
  (hR:∀ml cx c9 cm cg cb b8,Dy ch_ (N+1) ml->R (.nx (B8_ ml)) M):BQ (B8_ rows) M R:=by
 let#[r,r0,r1,er]:=CV_ (58 - 10*j) 6;delta BQ;exact GW_ qa!;show Dh _ _ _ qa_ M R;let tt:Bs wN_ wO! qa_=ψ kN_:=sJ χ (dQ (Fh! r));by_cases c:rows≠[]/\r>0
 .let ct:kN_=true:=by
   rw[FH c.2,Bool.and_true];simp[c.1]
  rw[ct]at tt;exact gY (jD tt) ?_;let az:0<bN!:=LV.mpr c.1;let hlN:=hp.1;let#[q,q0,q1,eq]:=sA ns (57 - 10*j) rows.length a!;let#[i,rfl]:=KS q0;let hi:i<bN!:=by omega
  exact eI (bD (eq _ _ _ rfl rfl (by show some AE!=_;rw[EX]))) ?_;show At _ _ qb_ M R;let hg:rows[i]?=some rows[i]:=GH hi;let hm:=hp.2 _ (IV hi);generalize rows[i]=wo at hg hm;let#[w,o]:=wo;let e14:f2 Ao R! eB! qb_=some dK_:=aP rfl rfl (a6b hg);exact eI (bD e14) ?_;show At _ _ (lE ns x1 yy x3 rows bO! x6 x7 x8 x9 bh c2! aS_ bc fa! cg cb b8) M R;exact eI (bD (b2a (w:=w) (o:=o) rfl)) ?_;show At _ _ (lE ns x1 yy x3 rows bO! x6 x7 x8 x9 bh c2! aS_ bc fa! hg! cb b8) M R;let#[s,s0,s1,es]:=sA ns 56 5 a_;exact eI (bD (c5n (w:=w) (o:=o) (r:=s) rfl (es _ _ _ rfl rfl rfl))) ?_;let hl:Es {o with tm:=o.tm+s}:=by
   let O:=hm.1;let h2:o.tm<=B:=hm.2;exact#[O.hh,by show 1<=o.tm+s;let:1<=o.tm:=O.t1;omega,by show o.tm+s<=1000;omega,O.n1,O.n2,O.dg]
  let p1:Dy ch_ 1 [(w,{o with tm:=o.tm+s})]:=Dy.one hl (by show o.tm+s<=B+4;let:o.tm<=B:=hm.2;omega);let p2:Dy ch_ 1 [(!w,o)]:=Dy.one hm.1 qd!;let p3:Dy ch_ 1 [(w,o)]:=Dy.one hm.1 qd!;let RG:=hp.mono (B':=B+4) (N':=N) a! p!;generalize ({o with tm:=o.tm+s}:Op)=o2 at hl p1;show At _ _ qe_ M R;let len:∀{lo hi:T_},(pZ!).length<=200:=λ{lo hi}=>by let:=iJ rows lo hi;omega
  let cl:(qf_).length+(Bp! rows dQ!).length<=bN!:=by
   show"#P";let e2:Bp! rows dQ!=rows.drop u_:=c1q hi;rw[e1,e2,JK,HV];omega
  let jy:(qf_).length+(Bp! rows aj_).length<=bN!:=by
   show"#P";let e2:Bp! rows aj_=rows.drop i:=xH (JH hi);rw[e1,e2,JK,HV];omega
  let RH:f2 Ag gk_ i5_ qe_=qX_ ((cutL rows υ aj_++cutL rows dQ! υ).map Bw):=
   fS kS_ kS_ (by let:=@len υ aj_;let:=@len dQ! υ;omega)
  exact eI (bD RH) ?_;generalize hA:cutL rows none aj_=A at RH cl jy;generalize hC:cutL rows dQ! none=C at RH cl;generalize nv:cutL rows aj_ none=C2 at jy;let pA:Dy ch_ A.length A:=#[FF _,λq hq=>RG.2 q (gU (by rw[hA];exact hq))];let pC:Dy ch_ C.length C:=#[FF _,λq hq=>RG.2 q (gU (by rw[hC];exact hq))];let pC2:Dy ch_ C2.length C2:=#[FF _,λq hq=>RG.2 q (gU (by rw[nv];exact hq))];show Ce 4 _ hj! M R;let k1:Ci R! Ai i6_ hj!=some (.lst (A.map Bw)):=(kS_).trans (by rw[hA]);let k2:Ci R! (Ah gl!) Ai hj!=some (.lst (C.map Bw)):=(kW (lo:=some kj!) rfl rfl rfl).trans (by rw[hC]);let k3:Ci R! i6_ Ai hj!=some (.lst (C2.map Bw)):=(kW (lo:=some (i:Int)) rfl rfl rfl).trans (by rw[nv]);let one:∀{f:g_} {q:Bool×Op} {ρ:Ac},f ρ=some (Bw q)->Bl e5! ρ=some (.lst ([q].map Bw)):=λh=>zN (eG h) fa_;let b1:=fS (fS k1 qn_ ao!) k3 ao!;let b2:=fS (fS k1 (one (f:=Aa 15) (q:=(!w,o)) rfl) ao!) k2 ao!;let b3:=fS (fa:=Aa 17) (a:=A++C) (ρ:=lE ns x1 yy x3 rows bO! x6 x7 x8 x9 bh c2! aS_ bc fa! hg! kR_ qm!) rfl qn_ ao!;let b4:=fS (fS k1 (one (f:=Aa 16) (q:=(w,o2)) rfl) ao!) k2 ao!;let#[x,hx,ex]:=d2w (r:=r) (f:=Aa 11) a! a! (dJ (f:=Aa 17) (d:=.lst ql!) rfl (dJ b1 (dJ b2 (dJ b3 (eG b4))))) rfl;exact c3a ex ?_;let ak:∃ml,Dy ch_ (N+1) ml/\x=.lst (ml.map Bw):=by
   simp![FD,FU,MV]at hx;obtain rfl|rfl|rfl|rfl|rfl:=hx
   .exact#[_,(pA.add pC).mono ce! a!,χ]
   .exact A7! p3 pC2
   .exact A7! p2 pC
   .exact A7! pC p3
   .exact A7! p1 pC
  let#[ml,cr,rfl]:=ak;exact hR ml _ _ _ _ _ _ cr
 .let ct:kN_=false:=by
   by_cases c1:rows=[]
   .rw[c1];rfl
   .rw[FA λz=>c pn!,LH]
  rw[ct]at tt;exact pH (jD tt) ?_;exact hR rows _ _ _ _ _ _ qs!
def d4j{f:WE}{i:δ}{R:E_}(h:f ρ M λd M'=>R gW_ M'):Ce i f ρ M R:=h
def c3d{f:WE}{i:δ}{q:WS}{R:E_}(h:f ρ M λd M'=>q b2_ M' R):CG_ (Ce i f):=h
def d2v{xs:k!}{x:Op}(hx:Es x)(h:∀y∈xs,Es y):∃b,Sb τ M x.v (.lst aH!)=ψ V_:=by
 let h0:Bm x.v=true:=(fM hx.dg).1;let O:Cm aH!=true:=iF λd hd=>by let#[y,hy,rfl]:=GJ.mp hd;exact(qs_).1
 let h2:Du aH!<=40:=kU λd hd=>by let#[y,hy,rfl]:=GJ.mp hd;exact GB (qs_).2 a_
 exact#[! qt!,?_];show(if(Bm x.v&&Cm aH!&&decide (Du aH!<=40))=τ then ψ (D.bl (! qt!))else υ)=_;rw[h0,O,FH h2];rfl
def b7i{f g:WT}{x y:Bool}(O:pl_)(h2:EM! g y):EM! (Kk f g) (x&&y):=λK hK=>by
 delta Kk;exact O _ ?_;cases x with
 |true=>exact h2 K hK
 |false=>exact hK
def yI{f:g_}(hs:s=Nf w)(h:f ρ=ψ o.v):Ay (Ab (fC cJ!) e5!) ρ=ψ dK_:=EU! t5! h
def a2d{ys:k!}{w:Bool}:(ys.map λx=>Bw (w,x))=(qw!).map Bw:=by rw[HU];rfl
def a2e{ys xs:k!}{w:Bool}{B:Int}{N:δ}(O:∀y∈ys,y∈xs)(h2:H_<=h!)(h3:∀x∈xs,Es x/\x.tm<=B)(h4:h!<=N):Dy B N qw!:=#[qx!,λq hq=>by let#[y,hy,rfl]:=GJ.mp hq;exact h3 y (O y hy)]
def c3j{R:E_}(hR:∀(yy:Int) (rows:be_) (x1 x3 x5 x6 x7 x8 x9 bh cx c9 bc cm cg cb b8:aw!),0<=yy->yy<16->Dy 900 90 rows->Vj t hk_ M R):
  Tr t [R_,υ,υ,υ,υ,υ,υ,υ,υ,υ,υ,υ,υ,υ,υ,υ,υ,υ] M R:=by
 rw[d0r];let#[r60,a0,a1,e60]:=CV_ 60 12;let#[N,rfl]:=KS a0;let#[os,ew,hol,hH,htm,_]:=b1u ns 0 N a!;let jg:∀x∈os,Es x/\x.tm<=100:=λx hx=>#[hH.op x hx,by let:=htm x hx;omega];exact GW_ (b1a (dJ χ (dJ χ (eG (Bg_ e60)))) ew);let#[xu,b0,b1,e59]:=CV_ 59 3;let hy:∃yy:Int,0<=yy/\yy<16/\C2_ [.int 3,eH_,.int 5] xu=ψ gK_:=by
  let:xu=0\/xu=1\/xu=2:=by omega
  obtain rfl|rfl|rfl:=this
  .exact D8! 3
  .exact D8! 0
  .exact D8! 5
 let#[yy,y0,y1,ey]:=hy;exact GW_ (aP χ (Bg_ e59) ey);show Ep_ hl_ R;let#[v3,c0,c1,e61]:=CV_ 61 2;let#[ys,g1,g2,g3]:=xL (ft:=fT i0_) (fe:=Aa 0) (rest:=[]) (v:=Op.v) (f:=Op.v) os (λx hx=>#[_,dQ qz!]) λx hx=>χ
 let e3:Ci wC! Ai (Ah i1!) hl_=qX_ ((cutL ys υ fc_).map Op.v):=by
  let ec:Cs 1 [] ev! r_ (fT i0_) g! hl_=qX_ kY!:=by
   show(A3! eS_ eS_)=_;rw[dB!,g3];rfl
  delta Ci;rw[ec];show((ψ (none:T_)).bind λl=>((Ah i1!) _).bind λh=>Ak (.lst kY!) l h)=_;let eo:Ah i1! hl_=ψ fc_:=by
   delta Ah;rw[Bg_ e61];rfl
  rw[eo];show GE_ (CO_ kY! fc_)=_;rw[fQ]
 exact eI (bD e3) ?_;let iq:∀x∈cutL ys none fc_,Es x:=λx hx=>(jg x (g1 x (gU hx))).1;generalize cutL ys none fc_=go at iq;show At _ _ [R_,g5_,eZ!,hm!,none,none,none,none,none,none,none,none,none,none,none,none,none,none] M R;exact c3d qA_;exact qG (rest:=[hm!]) (v:=Op.v) (f:=λx=>Bw oM_) os (λx hx=>#[_,jD (kQ (dQ (aP pE! rfl (c4r _ _))) (b0z rfl))]) qB_ λys1 m1 l1=>?_;rw[a2d];let p1:=a2e (w:=false) (N:=11) m1 l1 jg a!;generalize (ys1.map λx=>oM_)=RI at p1;show At _ _ [R_,g5_,eZ!,hm!,some (.lst (RI.map Bw)),none,none,none,none,none,none,none,none,none,none,none,none,none] M R;exact c3d (wl2 (x:=.lst (RI.map Bw)) rfl qA_);exact qG (rest:=[hm!]) (v:=Op.v) (f:=λx=>Bw (true,x)) os (λx hx=>?_) qB_ λys2 m2 l2=>?_
 .let#[b,G]:=d2v (M:=M) (jg x hx).1 iq;exact#[_,b7i (jD (dQ qz!)) (b7i (jD χ) (rW (gG (Dw! x.v) (bD (d:=.lst (go.map Op.v)) χ) G)))]
 rw[a2d];let p2:=a2e (w:=true) (N:=11) m2 l2 jg a!;generalize (ys2.map λx=>(true,x))=rows2 at p2;rw[c7m (by rw[EX,EX];let:=p1.1;let:=p2.1;delta big;omega),<-GO];let p3:=p1.add p2;generalize RI++rows2=su at p3;show At _ _ qD! M R;let U7:∀(rows:be_) (bh:aw!),Dy 100 22 rows->At p8_ (Vj t) k0! M R:=λrows bh hp=>by
  let#[v4,d0,d1,e52]:=CV_ 52 2;delta At Ja Rk;let ei:Fv wL! k0!=ψ qE_:=by
   let e:H1! wK! k0!=uY_ (1+v4):=aP χ (Bg_ e52) χ;delta Fv;rw[e];show(C4! v4)=_;rw[aS!]
  rw[ei];exact eC ?_;let az:(qE_).length<=2:=by delta Cw;rw[EX,IQ];omega
  exact b0x (λi ρ=>∃rows x5 x6 x7 x8 x9 bh cx c9 bc cm cg cb b8,ρ=lE ns ho! yy ho_ rows x5 x6 x7 x8 x9 bh cx c9 bc cm cg cb b8/\Dy (100+4*i) (22+i) rows) _ 0 _ (λj d ρ hd hP=>?_) #[rows,υ,υ,υ,υ,υ,bh,υ,υ,υ,υ,υ,υ,υ,χ,hp.mono a! a!] λρ' h=>?_
  .let#[rows,x5,x6,x7,x8,x9,bh,cx,c9,bc,cm,cg,cb,b8,rfl,hp]:=hP;let hj:=(FO.mp hd).1;let hdi:∃z:Int,d=.int z:=by
    delta Cw at hd;rw[GF]at hd;let#[u,_,rfl]:=EZ.mp hd;exact P!
   let#[z,rfl]:=hdi;exact#[_,χ,λR' k=>?_];exact c2o (B:=100+4*((0+j:δ):Int)) (N:=22+(0+j)) (j:=z) hp a! a! λml a b c d e f cr=>k _ #[ml,_,_,_,_,_,_,_,_,_,_,_,_,_,χ,cr.mono a! a!]
  .let#[rows,x5,x6,x7,x8,x9,bh,cx,c9,bc,cm,cg,cb,b8,rfl,hp]:=h;exact hR yy rows _ _ _ _ _ _ _ _ _ _ _ _ _ _ _ y0 y1 qs!
 let#[U8,f0,mi,e51]:=CV_ 51 6;let xv:fT nS_ qD!=A0! U8 0:=dQ (aP (Bg_ e51) χ aR!);cases G:(U8==0)with
 |false=>
  rw[G]at xv;exact gV (jD xv) (U7 su υ p3)
 |true=>
  rw[G]at xv;let#[RJ,h0,O,e50]:=CV_ 50 2;let#[xw,i0,i1,e45]:=CV_ 45 11;let hn:∃nm:Int,0<=nm/\nm<16/\C2_ [.int 15,gN!] RJ=ψ k2!:=by
   let:RJ=0\/RJ=1:=by omega
   obtain rfl|rfl:=this
   .exact D8! 15
   .exact#[yy,y0,y1,χ]
  let#[nm,n0,n1,en]:=hn;delta At;exact gY (jD xv) ?_;exact c3d (bD (aP (zN (dJ (f:=fC gg!) χ (eG (f:=Aa 2) (d:=gN!) χ)) qI!) (Bg_ e50) en) _ ?_);show Ce 4 _ k2_ M _;let ei:Fv wJ! k2_=ψ ((List.range (1+xw).toNat).map λi=>D.int oQ!):=by
   let e:H1! wI! k2_=uY_ (1+xw):=aP χ (Bg_ e45) χ;delta Fv;rw[e];show(C4! xw)=_;rw[aS!];rfl
  exact d4j (a5a ei (Da_ EX IQ) ?_);exact qG (rest:=[ψ k2!]) (v:=λi:Nat=>D.int (i:Int)) (f:=λi:Nat=>Bw k4!) _ (λx hx=>#[τ,λK hK=>hK]) (λx hx=>bD (yI χ (pG (dJ χ (dJ kv_ (dJ kv_ (eG χ)))) χ))) λzs m3 l3=>?_;rw[show(zs.map λi:Nat=>Bw k4!)=(k4_).map Bw by rw[HU];rfl];let p4:Dy 100 22 k4_:=by
   rw[IQ]at l3;exact#[qx!,λq hq=>?_];let#[i,hi,rfl]:=GJ.mp hq;let:=JN.mp (m3 i hi);exact#[#[#[n0,n1],by show 1<=(i:Int)+5;omega,by show(i:Int)+5<=1000;omega,by show 1<=(i:Int)+2;omega,by show(i:Int)+2<=2000;omega,DG.drop eL!],by show(i:Int)+5<=100;omega]
  generalize k4_=rows4 at p4;exact U7 rows4 _ p4
end
def Yk:WS:=(At nY!
 (At nY_
 (At nZ!
 nZ_)))
def Wx(t:Ck):WS:=(At n0!
 (At jf!
 (Ei gn!)))
def c5m(t:Ck):Vj t=(At nW!
 (At nX!
 (At (Dh nX_ Yk Ff)
 (Wx t)))):=χ
section
variable{t:Ck}{M:Mh}{ρ:Ac}{ns:List Int}{yy:Int}{rows:List (Bool×Op)}{o:Op}{w:Bool}{p:uv!}
def c2f{a b:b!}(h:pX_):Ag (W a) (W b)=A5! cQ_:=by show(if(mk a).length+(mk b).length<=big then ψ (D.str (mk a++mk b))else υ)=_;rw[FE (Da_ gM gM),b9h]
def d3t:(D.str (Nf w))=W qP_:=by
 cases w with
 |true=>show D.str cW_=_;rw[a1k];rfl
 |false=>rfl
def c5i{l:b!}(hl:dH_):f2 Ag a9! nV_ hq_=A5! cY_:=by
 let e1:BO! g! hq_=A5! qP_:=by rw[<-d3t];exact FG! aP χ
 let e2:Er! g! hq_=ψ o.v:=FG! aP χ;exact aP e1 ((uI (eG e2)).trans hl.sh) ((c2f ?_).trans ?_)
 .let:=hl.ln;cases w<;>simp<;>omega
 .delta Uh;cases w<;>rfl
structure BE(L:b!):Prop where
 l:L.length<=500
 s:∀c∈L,El c=τ
def d3o{l:b!}(hl:dH_):BE cY_:=by let:=b9o (w:=w) hl;exact#[?_,this.2];delta Uh;let:=hl.ln;cases w<;>simp<;>omega
def a3t(nd:t.nd):∀(rows:be_),(∀q∈rows,Es q.2)->∃Ls:List aL_,Co_ i8! bu!=ψ kk!/\Fp g3_ Ls/\kl!=bN!/\∀L∈Ls,BE L
 |[],_=>#[[],χ,.nil,χ,λL h=>by cases h]
 |(w,o)::rows,h=>by
  let#[Ls,a,b,c,d]:=a3t nd rows λq hq=>h q (EW _ hq)
  let ho:Es o:=h (w,o) EY;let#[_,_,l,hl]:=yR nd ho;exact#[Uh w l::Ls,?_,.cons #[ho,l,hl,χ] b,by simp[c],λL hL=>?_]
  .show((f2 Ag a9! nV_ hq_).bind λy=>(Co_ i8! bu!).map gc!)=_;rw[c5i hl,a];rfl
  .obtain rfl|hL:=FD.mp hL
   .exact d3o hl
   .exact d L hL
def Fp.set:∀{gs:dJ!} {Ls:I!} {i:δ} {J:b!},Fp gs Ls->Te υ J->Fp Al! (Ls.set i J)
 |_,_,_,_,.nil,_=>.nil
 |_,_,0,_,.cons _ h,hj=>.cons hj h
 |_,_,i+1,_,.cons g h,hj=>.cons g (h.set hj)
def d3w(h0:0<=yy)(O:yy<16):BE fi!:=by
 let h:=iM (i:=yy) a!;exact#[by delta Lz;let:=h.1;simp;omega,jj!];obtain z|z:=FL.mp hc
 .clear hc;revert z c;decide
 .exact h.2 c z
def c0f(h0:0<=yy)(O:yy<16){f:g_}(hf:f ρ=ψ gK_):FO! e5! ρ=A5! fi!:=by
 let e:f1 Jb e5! ρ=A5! (intC yy):=(uI (eG hf)).trans (str_int a!);let e0:fC nV! ρ=A5! Tx:=by
  show ψ (D.str py!)=_;rw[b0w]
 exact aP e0 e (c2f ?_);let:=(iM (i:=yy) a!).1;simp;omega
abbrev Ww:Fl->Mh->Prop:=Vb λd _=>d=.bl τ
def b1v(j:Int):Fm [dZ!]=ψ ae_:=by push_cast[Fm,Ru]
def c0s{bv:Int}:Ei gn! k9_ M Ww:=by exact fU (d:=fi_) (bD ?_) χ;let e1:B4_ Fm aZ! k9_=ψ ae_:=b1v bv;let e2:f2 Be aZ! aY_ k9_=ψ ae_:=(aP (x:=hs!) (y:=hs!) χ χ aR!).trans c_;delta Au;rw[dQ e1];exact e2
def xV{l0:b!}{Ls:I!}{gs:dJ!}{bv:Int}(nd:t.nd)(y0:0<=yy)(y1:yy<16)(hM:pC_)(hL:Fp gs Ls)(az:eW_<=100)
  (h:(l0=Lz yy/\bv=Ev yy gs [] [] 2)\/(pz!/\bv=1)):Wx t la_ M Ww:=by
 delta Wx;exact eI oX_ ?_;show Ep_ lb! Ww;let sq:∀{q:WS} {R:E_},Gb t [bL_] M (λ_ M2=>q lb! M2 R) (λc ln M2=>Jk (Wb t.NoSave c ln) λd=>q q0_ M2 R)->At jf! q lb! M R:=λz=>by
  delta At Oa Af Av;rw[cH (f:=Aa 6) (d:=bL_) χ];exact pj!
 exact sq (b4b nd hM hL az ?_);let hx:∀j M2,bv=j->Jk (Wb t.NoSave t.NoSave (ψ j)) λd=>Ei gn! q0_ M2 Ww:=λj M2 e=>by
  let:Eq_ Wb t.NoSave (ψ j)=ψ cc_:=FE χ;rw[this];exact eC ?_;rw[e];exact c0s
 obtain⟨rfl,e⟩|⟨z,e⟩:=h
 .exact .inl #[yy,y0,y1,χ,λz M' d=>?_,λz M'=>hx _ M' e];rw[e,z];exact c0s
 .exact .inr #[z,λM'=>hx 1 M' e]
end
section
variable{t:Ck}{M:Mh}{ρ:Ac}{ns:List Int}{yy:Int}{rows:List (Bool×Op)}{p:uv!}
def c5r{L:b!}{r:Int}(h0:0<=r)(O:r<7):Ao lb_ e6!=A5! hu!:=by
 let hr:r=0\/r=1\/r=2\/r=3\/r=4\/r=5\/r=6:=by omega
 obtain rfl|rfl|rfl|rfl|rfl|rfl|rfl:=hr
 .rfl
 .show Gs! "hand 16"=_;rw[show qZ! "hand 16"=mk kE_ by decide+kernel];rfl
 .show Gs! "waits"=_;rw[show qZ! "waits"=mk g7_ by decide+kernel];rfl
 .rfl
 .show Gs! "waits waits 1"=_;rw[show qZ! "waits waits 1"=mk pV! by decide+kernel];rfl
 .show Gs! "hand"=_;rw[show qZ! "hand"=mk g8! by decide+kernel];rfl
 .show Gs! "waits  x"=_;rw[show qZ! "waits  x"=mk pV_ by decide+kernel];rfl
def c9b{fs:WA}{ds:e!}(hl:e_<=1000)(h:q4!):Bi_ (Pm fs) bm_:=λK hK=>by
 delta Pm;exact h _ #[hl,hK]
def a6o{f:WE}{fs:WA}(h:jN_)(hs:q4!):∀K:List D->Mh->Prop,K cy! M->Af f fs ρ M K:=λK hK=>by
 delta Af;exact h _ (hs _ hK)
def d4l:∀K:List D->Mh->Prop,K [] M->Av ρ M K:=λK hK=>hK
def d2t{xs:e!}{i:δ}{fo fi f:g_}{q:WS}{R:E_}(h0:gH!)(O:fi ρ=ψ g2_)(h2:oZ_)(hp:gO_)(hi:i<h!)(k:q ρ q5_ R):CG_ (Pl eL_ (wl fi) eJ_):=by
 delta At Pl;rw[cU!,cH h0,cH O];let:Ug M O! g2_ v=ψ q5_:=by
  let e:Dd xs.length (i:Int)=ψ i:=by delta Dd;rw[aS!,aS!];rfl
  simp![Ug,hp,e,JF]
 rw[this];exact eC k
def d4n{xs:e!}{i:δ}(hp:gO_)(h:xs[i]?=ψ d):Kg M O! g2_=ψ d:=by
 let hl:=(FO.mp h).1;let e:Da xs (i:Int)=ψ d:=by
  delta Da Dd;rw[aS!,aS!];exact h
 simp![Kg,hp,e]
def c5q{l0:b!}{Ls:I!}{bv:Int}{R:E_}(hM:pC_)(hl:∀L∈l0::Ls,BE L)
  (hR:∀(i:δ) (L:b!) (j:δ) c9 bc,bR_[i]?=ψ L->R (.nx (lE ns x1 yy x3 rows x5 cm! (ψ q6_) x8 x9 bh cx c9 bc cm cg cb b8)) (CC_ (.lst (((bR_).set i (Jm L j)).map W)))):
  Yk la_ M R:=by
 delta Yk;let#[m,em,m0,_]:=hV ns (k:=54);let RK:M p=qX_ le_:=hM;let ng:w1 Jz jc!=w1 Jz jc!:=χ;let e12:Pu w3_ la_ M (.int (m%fl_)):=by
  exact gG (bD (d:=.int m) em) (a2n (x:=bL_) (d:=.int fl_) aQ_ ?_) (zH hS_);show(Cp_ O!)=_;simp![Mo,RK,JF,EX]
 exact eI e12 ?_;let q0:0<=m%fl_:=IK _ hS_;let q1:m%fl_<fl_:=HM _ hS_;let#[i,hi]:=KS q0;rw[hi]at q1 ⊢;show Ep_ q9_ R;let fg:i<(bR_).length:=by omega
 let hg:bR_[i]?=some bR_[i]:=GH fg;let hm:=hl _ (IV fg);generalize bR_[i]=L at hg hm;let hgW:le_[i]?=some (W L):=by rw[GF,hg];rfl
 let e13:Pu xa_ q9_ M lb_:=by
  exact c9b (Fg! 7 1000) (a6o aQ_ (a6o aQ_ (a6o aQ_ (a6o ?_ (a6o aQ_ (a6o aQ_ (a6o aQ_ d4l)))))));exact gG (x:=W [32]) (y:=W L) (bD (by show ψ (D.str eI_)=_;rw[uX];rfl)) (gG j6_ (bD (d:=.int (i:Int)) χ) (d4n RK hgW)) ?_;show Ag (W [32]) (W L)=_;exact c2f (by let:=hm.l;simp;omega)
 exact eI e13 ?_;show Ep_ lh! R;let#[r,r0,r1,er]:=CV_ 53 7;exact d2t (i:=i) (v:=W hu!) χ χ (aP χ qa! (c5r r0 r1)) RK (w4_ EX fg) ?_;let ed:Dt xd! gl! aY_ lh!=ψ q6_:=by
  let et:Cy xc! xc_ lh!=ψ li!:=
   kQ (dQ (aP (x:=hs!) χ χ aR!)) (dQ (aP (x:=hs!) χ (aP (x:=.int (i:Int)) χ χ χ) χ))
  delta Dt;rw[et];by_cases c:bv=0\/bv>(i:Int)+1
  .rw[FE c];let:li!=true:=by
    obtain z|z:=c
    .rw[GS.mpr z];rfl
    .rw[FH z,MB]
   rw[this];rfl
  .rw[FC c];let:li!=false:=by
    rw[FS.mpr λz=>c em!,FA λz=>c im!];rfl
   rw[this];rfl
 exact c3a ed ?_;rw[show((le_).set i (W hu!))=((bR_).set i hu!).map W by rw[List.map_set]];exact hR i L r.toNat _ _ hg
def c8u{gs:dJ!}:∀{S Wt:k!} {k:Int},1<=k->A5_ gs k=0\/A5_ gs k>=k:=by
 induction gs with
 |nil=>intro S Wt k _;exact .inl χ
 |cons g gs ih=>
  intro S Wt k hk;cases g with
  |none=>exact .inr ce!
  |some wo=>
   show"!l"
   .show"#'"
   .rw[FC c];exact .inr ce!
def c5l(nd:t.nd)(y0:0<=yy)(y1:yy<16)(hp:Dy 900 90 rows):Vj t hk_ M Ww:=by
 rw[c5m];let jg:∀q∈rows,Es q.2:=λq hq=>(hp.2 q hq).1;let hlr:=hp.1;let#[Ls,ec,hL,hLl,U9]:=a3t nd rows jg;let e1:Bl w0! hk_=qX_ [W fi!]:=zN (eG (c0f y0 y1 χ)) fa_;let e2:AT_ (Ej R!) i8! hk_=qX_ kk!:=by
  show(A3! bu! bu!)=_;rw[dB!,ec];rfl
 exact c3d ?_;delta Ro;rw[cH e1,cH e2];exact eC (x:=[W fi!]) (eC (x:=Ls.map W) #[by rw[EX];show 1+_<=_;delta big;omega,λp hpn=>?_]);let hM:mup M p hy_ p=some hy_:=bL;show At _ _ (lE ns x1 yy x3 rows x5 cm! x7 x8 x9 bh cx c9 bc cm cg cb b8) (mup M p hy_) Ww;generalize mup M p hy_=M1 at hM;exact eI (bD ((uI (dJ rfl (eG rfl))).trans (b5n (yy:=yy) a! jg))) ?_;show At _ _ rg! M1 Ww;let#[VA,f0,mi,e55]:=sA ns 55 6 a_;let xy:fT w2! rg!=some (VA==0):=dQ (aP (e55 _ _ _ rfl rfl rfl) rfl aR!);let RL:(g3_).length<=100:=by rw[EX];omega
 cases G:(VA==0)with
 |false=>
  rw[G]at xy;exact gV (jD xy) (xV nd y0 y1 hM hL RL (.inl aa_))
 |true=>
  rw[G]at xy;delta At;exact gY (jD xy) (c5q hM (λL hL'=>?_) λi L j c9 bc hg=>?_)
  .obtain rfl|z:=FD.mp hL'
   .exact d3w y0 y1
   .exact U9 L z
  .let VB:BE L:=by
    obtain rfl|z:=FD.mp (JE hg)
    .exact d3w y0 y1
    .exact U9 L z
   let hj:=b4g VB.l VB.s j;show Wx t _ _ Ww;cases i with
   |zero=>
    exact xV (l0:=Jm L j) (Ls:=Ls) nd y0 y1 bL hL RL (.inr #[λi a b=>b4h j a b,?_]);let:=c8u (yy:=yy) (gs:=rows.map ψ) (S:=[]) (Wt:=[]) (k:=2) a_;rw[aS!];rfl
   |succ i=>
    let hi:i<kl!:=by
     let:=(FO.mp hg).1;simpa using this
    exact xV (l0:=Lz yy) (Ls:=Ls.set i (Jm L j)) nd y0 y1 bL (hL.set hj) (w4_ IH RL) (.inl I_);rw[b6v g3_ i [] [] 2 a_ j2_];rw[show eY!+1=2+(i:Int)by omega]
def b9s{t:Ck}(nd:t.nd){ns:B_}:Xu t kJ_ M0 λd _=>d=.bl true:=by exact I_;exact c3j (R:=Ww) λyy rows x1 x3 x5 x6 x7 x8 x9 bh cx c9 bc cm cg cb b8 y0 y1 hp=>c5l nd y0 y1 hp
end
open XS
section
variable{P:xz!}{w:wY!}{K:ye!}{mg:Str->Option Value}{base:Heap}{t:Ck}
def jS(T:o_):kV! Ok 1 "is_whole" j! (Em):=
 dB T.D1 a1z (zo_ (gS rk! (gS rl! (fL (eP a9m a9p (bZ c2c d1y χ T.M9 d2c bi!) (aM c9q c9x aC aC) n_)))))
def gJ(T:o_):kV! Ok 2 "is_from_one" j! (Ds):=
 dB T.D3 sU (HI! rn! (eP d3b d3d r! aC n_))
def jT(T:o_):kV! Ok 2 "is_below" fT! (Ge):=
 dB T.D2 a2b (HI! rn! (a4v iQ iR a9m a9p aC r! N!))
def gH(T:o_):kV! Ok 3 "is_name" j! (Cr):=
 dB T.D4 a5w (H1_ (gS (Go! (jT T) (BA! az_ (fP T.O4 χ))) (fL rr!)))
def jE(T:o_):HI_ "is_sign_name" Bq:=
 dB T.D5 rT (H1_ (gS rs! (fL (Go! (jT T) (BA! az_ lr!)))))
def a6v(T:o_):HI_ "is_item" Hu:=
 dB T.D6 a5x (zo_ (a4t ru! (a4t ru_ (fL ru_))))
def vI(T:o_):HI_ "is_sibling" Fk:=
 dB T.D7 vD (zo_ (a4t rv_ (fL ru!)))
def yU(T:o_):kV! Ok 5 "is_behind" j! (Gk):=
 dB T.D8 yD (zo_ (a4t rv_ (fL (HX! jE))))
def a6u(T:o_):kV! Ok 1 "is_sign" dm! (Gd):=
 dB T.D9 a5u (zo_ (gS (a4v iQ iR iQ iR bH r! bH) (fL (eP wI wL (bZ c1z d1x χ T.N8 d2b bi!) (fP T.O7 χ) n_))))
def a6t(T:o_):kV! Ok 2 "is_text" j! (Fb):=
 dB T.E1 a5t (Gp_ (aK (HL_ (jC (fZ (fK (BG_ r!)) (fD (fK (c1b iQ iR iQ iR aC dX_ lr!)))))) (aN (aZ (HK! (fE (NL:=dm!) (NF:=[]) (ix:=[]) χ a_ d! (AR_ Kn) Eb.nil a_ χ (d1q r!) (Ee_ (show(dm!:μ Str).Nodup by decide+kernel)) ao_ bT! (λ_ _ _ _ _=>(AQ! a6u bi!))))))))
def a2z(T:o_):kV! Ok 3 "is_place" j! (Gy):=
 dB T.E2 a2a (zo_ (aI (jT T) i_ χ (HM_ r! (fP T.O6 χ)) aa!))
def gB{g:bH!}{ps:l!}{k:δ}(h:kV! Ok k x ps g)(hm:mg x=ψ aC!)(hp:K!=1)(hk:k<=5):∃fd ps,K!=1/\kV! He Mt 5 ag fd ps (Ze K ps.length g)/\AV_ K/\G3_ K=true:=by let#[f',fd,O,h2,h3,h4]:=h;rw[hm]at h3;cases h3;exact#[fd,ps,hp,O.mono hk,h2,h4]
protected def c6k(T:o_):kV! Xx 5 1 (Ix t):=by
 intro ag g e;delta Ix at e;show"!6"
 .show"!:";exact Bn_ a6v T.P3
 show"!6"
 .show"!:";exact Bn_ vI T.P4
 show"!6"
 .show"!:";exact Bn_ yU T.P5
 show"!6"
 .show"!:";exact Bn_ a6t T.P6
 show"!6"
 .show"!:";exact Bn_ jE T.P7
 show"!6"
 .show"!:";exact Bn_ gJ T.P8
 show"!6"
 .show"!:";exact Bn_ a2z T.P9
 show"!6"
 .show"!:";exact Bn_ jS T.Q0
 show"!6"
 .show"!:";exact Bn_ gH T.Q1
 cases e
def iT(T:o_):kV! Tc 1 t.B2 "have" fV_ (Fc t):=
 b3p T.Q2 T.E7 yH (Gp_ (CI! (HP! (a3o a4! hE! bi_ (aL (fW aF)) hE_))))
def a6x(T:o_):kV! Yv 1 "Hand" t.B2 fV! (Hv t):=
 c4j T.E6 a5z (Gp_ (cF (Gd! T.S1 bi_) (cF (Gd! T.S2 zK) (cF (Gd! T.S3 (b0i bV)) rI_))))
def b8j(T:o_):kV! Ok 1 "_law_cell" cA_ (Mc):=
 dB T.K7 b6q (Gp_ (aK (dI (kT r!) rL_ cB) (FG_ aC)))
def cG(T:o_):kV! Ok 2 "_law_mix" cA_ (Az):=
 dB T.K8 yG (λhr _=>(aK (HQ! (H0_ (Go! (b8j T) (aB r! d1!)) (HJ! aC rM_))) (aK (HQ! (HJ! aV! aC)) (HN_ (CI_ (H0_ (HJ! (aM lD lF aV! aC) aC) aV!))))))
def b3o(T:o_):kV! Ok 1 "_law_items" cB_ (Jq):=
 dB T.L4 b2m (zo_ (aM aG aX (aM aG aX rP_ (fE (NL:=c9_) (NF:=[]) (ix:=[]) χ a_ d! (bY (sc:=Ae Mn) χ d!) Eb.nil a_ χ (eA r!) ly! ao_ (G1! (bE P_ bU rQ! bH n_)) rR!)) (fX (n:=12) χ)))
def b3n(T:o_):kV! Ok 1 "_law_signs" cB_ (Jp):=
 dB T.L5 lB (Gp_ (aK (qF (i:=1) lB.nd χ f_ (BA! gR lz_)) (aK (uO LK χ (eA r!) lB.nd χ f_ (aN (dI (B5! rT! bH) (aN (uO LK χ (gQ χ T.N9 (Cb! rT!)) lB.nd χ f_ (Fh_ 1 (HY! ft! (aB ft! lC!))))) cB))) (uN (FG_ N!)))))
def b8h(T:o_):kV! Ok 1 "_law_text" nd_ (Mb):=
 dB T.L6 a2c (Gp_ (aK (dS (i:=2) a2c.nd χ b3! bH) (HN_ (a0q bH (fE (NL:=[b1_]) (NF:=[cB!,nd!]) (ix:=[0,2]) χ a_ d! (AR_ Oh) (Eb.cons (j:=0) (Dx! 2)) a_ χ (gQ χ T.N9 (A8_ aC (aM cL cM r! N!))) (qT! [b1_,cB!,nd!]) ao_ bT! (λ_ _ _ _ _=>(aT aJ aS aV! (aM cL cM (aM lD lF N! (A8_ aC (aM jN jQ aC r!))) aC) y!)))))))
def iE(T:o_):kV! Ok 1 "_law_pick" fZ! (Ed):=
 dB T.L7 b6p (Gp_ rL_)
def b8i(T:o_):kV! Ok 3 "_law_deed" ne! (Ic):=
 dB T.L8 eJ (λhr _=>(aK (DA! 4 (Go! ft_ (aB r! d1!))) (aK (HK_ 5 (AQ! b3o d2_)) (aK (dS (i:=6) eJ.nd χ f_ (aI gS_ i_ χ (aB (A8_ (H2_ cb_) (HR! cb_)) fu!) aa!)) (aK (HK_ 7 (HZ! (A8_ cb_ hK!))) (aK (dI (BG_ bz_) (aN (DA! 7 gR)) cB) (aK (DA! 8 (fX (n:=19) χ)) (aK (HK_ 9 (BK_ bU_ r0_)) (aK (G9_ r1!) (aK (G9_ (aB aW! r1!)) (aK (G9_ (aB aW! aF)) (aK (HK_ 10 (HZ! (AQ! b3n d2_))) (aK (dI fu_ (Ba_ (aB aW! (HM_ hM_ (Go! (b8h T) (aB rY! lC!))))) cB) (aK (dI (jC (uM fu_ (oU (bE c4f c4l hM_ gR n_)))) (Ba_ (aB aW! (aB hM_ (aB (aM aG aX aC (aM cL cM r5! (H3! aC (aT aJ aS hM_ aC y!)))) aF)))) cB) (aK (dI (bE wJ c7s bV! hK! χ) (HN_ (dG (aB bH (aB aW! (BA! r6! (H3! r6! aC)))))) cB) (aK (dS (i:=11) eJ.nd χ f_ (aM aG aX (fE (NL:=c9_) (NF:=[]) (ix:=[]) χ a_ d! (AR_ Oi) Eb.nil a_ χ (eA aV!) ly! ao_ bT! rR!) (fW (aB (dG (HM_ aC (A8_ aC r0_))) aF)))) (Ba_ (aB (HZ! (aA 11)) aF))))))))))))))))))
def vJ(T:o_):kV! Ok 1 "_law_time_fits" ng! (Fo):=
 dB T.M5 lQ (Gp_ (aK (uO LK χ (eA r!) lQ.nd χ f_ (aN (dI (jC (uM lU! (oU (Dl! aV! N!)))) (aK (HL_ (HZ_ lU! lU!)) (aN (HL_ (Dl! sd_ sd_)))) cB))) bS_))
def b3m(T:o_):Ok P w K mg base 1 "_law_whole" [do!] (Fm):=
 dB T.K9 b2l (HI! rk! rl!)
def b3l(T:o_):kV! Ok 4 "_law_world" ne_ (Jo):=
 dB T.L9 eR (λhr _=>(aK (DA_ 3 aF) (aK (DA_ 4 sg_) (aK (DA_ 5 sg_) (aK (uO LK χ (G9! aV!) eR.nd χ f_ (aK (dS (i:=7) eR.nd χ f_ (Go! ft_ (BA! r! si!))) (aK (dS (i:=8) eR.nd χ f_ (CI_ bz_)) (aK (c1d (i:=4) a_ bU_ (A8_ sk! aC)) (aK (c1d (i:=5) a_ bU_ (H0_ (A8_ sl! aC) (CI_ (aM lD lF bz_ aC)))) (aK (dS (i:=9) eR.nd χ f_ (b1h (aI (b8i T) i_ χ (aB r! (aB (A8_ si! aC) (aB aV_ lY_))) (aD (aD aa!))))) (aN (lM (i:=3) a_ (HY! (BK_ lz_ bU_) (aB sk! (BA! sl! bV!))))))))))) (uN (FG_ aV_)))))))
def b3k(T:o_):kV! Ok 2 "_law_wrong" nh! (Jn):=
 dB T.M6 eQ (λhr _=>(aK (FH! 2) (aK (FH! 3) (aK (uO LK χ (G9! sn_) eQ.nd χ f_ (aK (dS (i:=5) eQ.nd χ f_ so!) (aK (dS (i:=6) eQ.nd χ b3! so!) (aK (HJ_ (fZ (bE yS yX aW! gR n_) (fZ (jC (uM so_ (oU (kT aV_)))) (fD (fK (eO (aI (vJ T) i_ χ (HM_ (A8_ aV! aV_) aW!) aa!))))))) (aK (dS (i:=7) eQ.nd χ f_ (b1h (HY_ (aB (fE (NL:=[hV_]) (NF:=c9_) (ix:=[6]) χ a_ d! sp_ (Dx! 6) a_ χ (eA aV!) (qT! [hV_,do_]) ao_ (G1! (B5! az_ hQ_)) sq!) aF)))) (aK (dI (jC (fZ (bE iQ iR l3! bz_ n_) (fD (bE cq! jU (eP P_ bU l3! (A8_ bz_ aC) n_) (eP P_ bU cb_ bH n_) n_)))) l2_ cB) (aK (c1c (i:=8) (NL:=[hV_]) (NF:=[]) (ix:=[]) eQ.nd χ f_ χ a_ d! sp_ Eb.nil a_ χ (eA aV_) (qT! [hV_]) ao_ bT! (Gc_ fo!)) (aK (HJ_ (uM (Dl! cb_ bH) (oU (jC (fZ (B5! l3! r!) (fZ (B5! (HY_ lC!) aC) (fD (bE (b8d a4!) d0d (HR! aW!) bU_ χ)))))))) (aN (dI so_ (Fh_ 2 aW!) (Fh_ 3 aW!))))))))))) (uN (FG_ aC))))))
def b3j(T:o_):kV! Xv 1 "accept" L_ (Ma t):=
 pP T.F8 b2k (Gp_ (cF (zF (b0k (wV a4! hE! d6_ (b0i bV) hE_) bi_)) rI_))
def yV(T:o_):kV! Ok 6 "are_parts" fU! (De t):=
 dB T.E3 yE (Gp_ (aK (HL_ (bE wI wL dX_ sn_ n_)) (aN (aZ (HK! (fE (NL:=sw_) (NF:=[]) (ix:=[]) χ a_ d! (AR_ Hz) Eb.nil a_ χ (d1p χ T.O3 d2a N! r!) (λ_ _ _ _ _=>b7s χ (nG (Bp_ 0 sx_) (nG (Bp_ 1 sx_) a9i))) (c6h 0 1) bT! (Gc_ (c1m (j:=0) (n:=1) (c6k T) i_ d1! aj!))))))))
def a6w(T:o_):kV! Ok 7 "is_deed" j! (Cg t):=
 dB T.E4 a5y (Gp_ (aK (HL_ (HZ_ (fK lo_) (B5! dX_ aC))) (aK (HL_ (HZ_ (fK (BG_ az_)) (b4x sA! χ az_))) (aK (HL_ (fK (eO (aI (yV T) i_ χ (BA! (H2_ r!) (c7a sA! χ az_ y!)) aa!)))) (HN_ (a4t (eP wI wL az_ bH n_) (fL (eP iQ iR (A8_ rQ! az_) lr! n_))))))))
def tL(T:o_):kV! Xv 2 "is_next" L_ (Jx t):=
 pP T.E9 a5v (Gp_ (CI! (a7g P_ fx! d6_ (a3n aG iS sC_ cq_) n_)))
def jF(T:o_):kV! Ok 8 "is_operation" j! (Cd t):=
 dB T.E5 rV (Gp_ (aK lp_ (HN_ (gS rs! (gS rr! (fL (AQ! a6w hC_)))))))
def nK(T:o_):kV! Xv 2 "last_time" fW! (Fa t):=
 pP T.F4 yC (Gp_ (cF (lT (jX P_ fx! (zJ (iT T) i_ S_ hZ!) cq_ n_) (CI! cq_) dM) (CI! (qP cr! jR (qP cr! jR (HR_ hE! bi_) (aL (d1u aC)) y!) cq_ y!))))
def rZ(T:o_):kV! Ok 1 "line_of_hand" [cy_] (Db):=
 dB T.J0 rS (zo_ (c7b r!))
def rY(T:o_):kV! Xv 3 "may_be_taken" L_ (Fj t):=
 pP T.K0 rR (Gp_ (cF (lT (b9a (b8y (jX a9n (Gu.m a9q) sH_ cq_ n_) (b8x (d0g sJ_)))) h0! dM) (bO (dR (a7g a9n (Gu.m a9q) d6_ (BA_ nK (HN! S_ d6_)) n_)))))
def nJ(T:o_):kV! Xv 2 "was_taken" L_ (Gj t):=
 pP T.E8 yA (Gp_ (CI! (a7g iQ (Gu.m iR) d6_ sC_ n_)))
def nH(T:o_):kV! Xf 3 "not_yet_taken" cz! (Ga t):=
 yW (bx:=[]) (k:=2) (q:=Hr t) T.F5 cS (λhr hX=>(gC (b8v (DB! 2 zK)) (gC (a7b hX sI χ (b0h (a3n aG iS hZ_ bi_)) (Bp_ 3 cS.nd) (oQ 3) (GJ_ (gC (b8v (DB! 4 (aL (HR! aV_)))) (gC (a3h (pR (BA_ nJ (HN! S_ h0_))) (zC (bO (cN (i:=5) cS.nd χ f_ (qP cr! jR (HR_ hE! (aL mb!)) (aL (H3! mb! aC)) y!)))) (dL (a3h (jX P_ fx! (aL mb!) (iA T.Q2 T.S1 S_) n_) sQ_ (zC (bO (DB! 5 (wV a4! df_ d8_ h0_ hE_))))))) (dL (a3h (nO (Dl! cb_ aV_)) sQ_ (zC dM))))))) (zC (CI! df_)))))
def rX(T:o_):kV! Xf 3 "check_times" nb! (Gx t):=
 yW (bx:=[]) (k:=2) (q:=Jg t) T.F6 eW (H0! (gC (b8v (cN (i:=2) eW.nd χ f_ zK)) (dL (a7b hX sI χ (b0h (kB (vT χ) c1w χ T.O0 b5j hZ!)) (Bp_ 3 eW.nd) (oQ 3) (GJ_ (gC (b8v (cN (i:=4) eW.nd χ f_ (qP cr! jR (HR_ bi_ h0_) cq_ y!))) (gC (a3h (jX iQ (Gu.m iR) d8_ (a3o a4! df_ mg! (BA_ nK (HN! S_ mg!)) hE_) n_) (dL (jW hX T.Q9 hr.hd χ T.Q6 (CJ! 3))) (zC dM)) (zC (bO (b9b a4! df_ mg! d8_))))))))))
def nI(T:o_):kV! Xf 9 "check_message" cz! (Gc t):=
 yW (bx:=[]) (k:=8) (q:=Hs t) T.F7 pJ (H0! (gC (a3h (nO (fK (eO (HK! (fE (NL:=j!) (NF:=[]) (ix:=[]) χ a_ d! (AR_ Fy) Eb.nil a_ χ h3_ (Ee_ (show(j!:μ Str).Nodup by decide+kernel)) ao_ bT! (GZ_ (AQ! jF bi!))))))) (dL (E5! ct_)) (zC dM)) (dL (a9z (b8w hX (rX T) i_ χ (b1q (d3z S_) (b1q (b0a hX (nH T) i_ χ l8_) (d4e bV))))))))
def a2y(T:o_):kV! Xv 10 "may_wait" L_ (Ib t):=
 pP T.K2 a1y (Gp_ (cF (lT (b9a (b8y sJ_ (b8y (pR (BA_ nJ l8_)) (b8x (jX (b8d a4!) a6q bi_ hZ_ χ))))) h0! dM) (cF (lT (jX P_ fx! sH_ (aL (fP T.O8 χ)) n_) h0! dM) (cF (c4v (L:=_) χ χ mg_ (λ_ _=>c7r) χ T.Q3 T.R4 (lO T.R6 (lO T.S0 (lO T.R9 a5d))) (λpn f M0 G0 F0 E hX=>(dL (a9z (b0a hX (nI T) i_ χ (HN! S_ (aL (fW d1!)))))))) h0!))))
def a6s(T:o_):kV! Ok 1 "word_of" dn! (Df):=
 dB T.F9 a5r (Gp_ (aK (dI (bE yS yX r! gR n_) (FG_ bH) cB) (aK (dI lo_ (HN_ (a0q bH (fE (NL:=[iq!]) (NF:=[]) (ix:=[]) χ a_ d! (AR_ Kl) Eb.nil a_ χ (c1f r!) (qT! [iq!]) ao_ bT! (Gc_ s7_)))) cB) (FG_ s7_))))
def a2x(T:o_):kV! Ok 2 "shown" [b0_] (Do):=
 dB T.G6 b6o (zo_ (a0q bH (fE (NL:=dn!) (NF:=[]) (ix:=[]) χ a_ d! (bY (sc:=Ae Ob) χ d!) Eb.nil a_ χ (c1f (H0_ fo! az_)) (λ_ _ _ _ _=>bX (i:=0) (show(dn!:μ Str).Nodup by decide+kernel) χ f_) ao_ bT! (GZ_ (HX! a6s)))))
def hU(T:o_):kV! No 1 "number_of" bn! (Fi t):=
 lG (bx:=[]) (k:=0) (q:=Lm t) T.G7 mZ (H0! (dW (b3z (i:=1) (L:=_) hX χ χ hr.hd mZ.nd χ χ χ T.N5 χ T.M8 χ T.Q4 T.Q8 (λpn f=>S_) (λa pn=>s9_)) s0_))
def a2v(T:o_):kV! No 2 "part_of" bn! (Kw t):=
 lG (bx:=[]) (k:=1) (q:=On t) T.G8 a5s (λhr hX=>(dW (b9d (lT (nO mo!) (CI! (aL gR)) dM)) (dW (b9d (lT (nO (HZ_ mo! mo!)) (CI! S_) dM)) (dW (b0d (nO (bE c9v c9y bH r! χ)) (jZ (a7c (Gv_ (zG (NL:=["figures"]) (NF:=[]) (ix:=[]) (L:=_) hX χ χ χ a_ d! (AR_ Km) Eb.nil a_ χ (a3m (eA (b5a r! bH))) (qT! ["figures"]) ao_ ia! te_)))) (a7d dM)) (jZ (a7c te!))))))
def a2w(T:o_):kV! No 3 "deed_of" [eo_] (Kx t):=
 lG (bx:=[]) (k:=2) (q:=Oo t) T.G9 sV (H0! (dW (b9d (cN (i:=1) sV.nd χ f_ (aL (c1l (B5! fo! rP_) aC dX_)))) (jZ (a7c (Gv_ (b9e aG iS (b9e aG iS (d3k (aL fo!)) (zG (NL:=bn!) (NF:=[]) (ix:=[]) (L:=_) hX χ χ χ a_ d! (AR_ Ko) Eb.nil a_ χ (a3m (eA (bN r! aU_ (bP N!)))) tj_ ao_ ia! (λ_ _ _ _ _ hX=>(iU hX (a2v T) i_ χ mt!)))) (d3k (aL (bN r! (bP N!) bR)))))))))
def mG(T:o_){k:δ}:kV! XS.Xg k "NoSave" t.NoSave t.HandsError "line " " is wrong":=by let#[m,fI,fd,n,F,B,fn,kp]:=T.P0;exact XS.c9z m n F B yF fn kp (XS.b4o n χ T.Q3 χ f_ χ f_)
def b8f(T:o_):kV! No 9 "read" [cA!] (Jw t):=
 lG (bx:=[]) (k:=8) (q:=Tq t) T.H9 yB (λhr hX=>(dW (b9d (cN (i:=1) yB.nd χ f_ (aL (b4z r! bH aC)))) (dW (b9c (i:=2) yB.nd χ f_ (Gv_ (b9e aG iS (zG (NL:=bn!) (NF:=[]) (ix:=[]) (L:=_) hX χ χ χ a_ d! (AR_ Qt) Eb.nil a_ χ (a3m (eA (HR! N!))) tj_ ao_ ia! te_) (d0i (b0e (iU hX (a2w T) i_ χ (aR (aL (H2_ N!)) bV))))))) (dW (b0d (nO (jC (fZ (fK (eO (AQ! jF d2_))) (fD (bE cq! jU (AQ! a2x d2_) r! n_))))) (jZ (PS.R (E5! s9_))) (a7d dM)) (a7d (CI! df_))))))
def vH(T:o_):kV! No 11 "load_line" nc! (Eo t):=
 lG (bx:=[]) (k:=10) (q:=Ln t) T.K3 iN (λhr hX=>(dW (b9d (cN (i:=3) iN.nd χ f_ (aL (b4y N! tl!)))) (dW (c4w (i:=4) (ik:=2) (L:=_) hX mx! mx_ χ χ mg_ iN.nd χ f_ au_ T.Q4 T.R5 au_ (lO T.R7 a5d) (b8f T) i_ au_ au_ au_ (λpn g=>(aR (aL (c1l (eO aV_) (b5b N! (bP (Cb! tl!)) bR) N!)) bV))) (jZ (b0d (b9a (zE (nO (eO aV_)) (zD (pR (BA_ a2y my!))))) (a7d (bO (zF (b0k hZ_ d8_)))) (jZ (b0d (b9a (zE (nO (fK (eO aV_))) (zD (pR (BA_ rY my!))))) (a7d (bO (zF (BA_ b3j my!)))) (jZ (PS.R (FH_ df_))))))))))
def yT(T:o_):kV! Xf 3 "new_hand" [b1!] (Ez t):=
 yW (bx:=[]) (k:=2) (q:=Nc t) T.J9 qK (H0! (gC (a7b hX sI χ (a3m (G9! (fP T.O4 χ))) (Bp_ 1 qK.nd) (oQ 1) (GJ_ (zC (bO (lT (jX P_ fx! (wU S_ bR aU_) (aL (fW (aB (AQ! rZ d1!) aF))) n_) (CI! (c5b (a6x T) i_ χ hZ!)) dM))))) (dL (FH_ cq_))))
def a6r(T:o_):kV! No 12 "loaded" [b1!] (Gb t):=
 lG (bx:=[]) (k:=11) (q:=Qn t) T.K4 lA (H0! (dW (b9c (i:=1) lA.nd χ f_ (iU hX (yT T).R i_ χ mt!)) (dW (d0j hX sI χ (d0m au_ T.N3 (wU S_ aU_ bR) 2 a_) (b7s χ (nG (Bp_ 2 lA.nd) (nG (Bp_ 3 lA.nd) a9i))) (c0j 2 3) (GJ_ (jZ (c4y (iU hX (vH T) i_ χ (aR bi_ (HN! h0_ df_))))))) s0_)))
end
def Xq(K:ye!):Sp:=λvs H Q E=>∀(P:xz!) (w:wY!) (t:Ck),t.nd->Xp P w K 1 (Xu t) vs H Q E
section
variable{P:xz!}{w:wY!}{K:ye!}{mg:Str->Option Value}{h:Heap}
def d2h(nu:mg "law"=ψ dB_)(dl:Xh K mg "law" Jc [bn_])(T:Txt P w K mg id!)(nd:Ck.nd id!):
  ∃fd:FuncData,(∀(s:x1!) (u:wX!),BindsTo s fd jI! [("_law_script",u)])/\∀base:Heap,K.In base->A2_ base.Ns->kV! Fq Mt 13 fa fd [bn_] (Xq K):=by
 let#[fd,O,h2]:=b9t (bx:=[]) (k:=12) (P:=P) (w:=w) (q:=Tr id!) dl cU nu (λbase ag ah A outer s H E hr=>(jY (cN (i:=1) cU.nd χ f_ (aL (aI (b3l T) i_ χ (aB r! (BA! aC cu_)) (aD aa!))))
   (jY (Go_ 2 (BK_ lz_ cu_))
   (jY (cN (i:=3) cU.nd χ b3! (aL (bN (fE (NL:=c9_) (NF:=[]) (ix:=[]) χ a_ d! fI_ Eb.nil a_ χ h3_ ly! ao_ (G1! tv!) sq!) bR (bP cu_))))
   (jY (b0c (i:=4) (NL:=c9_) (NF:=[it_]) (ix:=[3]) cU.nd χ f_ χ a_ d! fI_ tw! a_ χ (a3m h3_) tw_ ao_ (λ_ _ _ _ _=>c7w (nO (HZ_ (Dl! az_ aC) (fK (kT N!))))) tz!)
   (jY (cN (i:=4) cU.nd χ f_ (a3n aG iS d8_ (c5c (NL:=c9_) (NF:=[it_]) (ix:=[3]) χ a_ d! fI_ tw! a_ χ (a3m h3_) tw_ ao_ (λ_ _ _ _ _=>c7w (b9a (zE (nO tv!) (zE (nO (kT N!)) (zD (jX (b3g a4!) a6q S_ bi_ χ)))))) tz!)))
   (jY (lT tA! (cF (cN (i:=10) cU.nd χ b3! (aL (BK_ (fW (aB aC d2_)) cu_)))
   (bO (b0c (i:=4) (NL:=[b1_]) (NF:=[nh_]) (ix:=[10]) cU.nd χ f_ χ a_ d! fI_ (Dx! 10) a_ χ tB! (qT! [b1_,nh_]) ao_ ia! (GZ_ (aL (dG (aB bH (aB (HY! N! (aB tB_ (BA! tB_ hK!))) aF)))))))) dM)
   (jY (d0h LK χ tB! (Bp_ 5 cU.nd) (oQ 5) (cF (Go_ 11 (CI_ tD!))
   (bO (lT (nO (jC (uM (kT aN!) (oU (bE a9n a9q (aA 11) aC n_))))) (cF (Go_ 12 (aM cL cM tD! (Cb! aN!)))
   (cF (Go_ 14 (BK_ aN! ef_))
   (cF (cN (i:=15) cU.nd χ f_ (aL (dG (aB (aT aJ aS hK! (lN b5g c7k χ T.N5 a8c (aB (eP cq! jU eg! bH n_) aF)) y!) (aB eg! aF)))))
   (cF (cN (i:=16) cU.nd χ f_ (aL (dG (aB eg! (aB (aM aG aX (aM aG aX (HR! eg!) (HY! (A8_ (aT aJ aS eg! aC y!) cu_) aF)) (H2_ eg!)) aF)))))
   (cF (Go_ 17 (A8_ ig! mK_))
   (bO (cN (i:=4) cU.nd χ f_ (aL (aT aJ aS (fW (aB (aA 17) (aB (H0_ (A8_ ig! tI!) (bN aN! (bP ef_) bR)) (aB (GC_ 15) (HM_ (A8_ (aA 17) tI!) (GC_ 16)))))) (H3! (aA 11) aC) y!))))))))) dM))))
   (jY (cN (i:=6) cU.nd χ f_ (c5d (aL (fW (aB (A8_ bH (lN uU a8a χ T.O1 qI d2_)) aF))) (aL (fE (NL:=[ni!]) (NF:=[]) (ix:=[]) χ a_ d! fI_ Eb.nil a_ χ (eA aN!) (qT! [ni!]) ao_ bT! (GZ_ (H0_ az_ (AQ! a2x hC_)))))))
   (jY (HS! (Go! (b3k T) (BA! aV! aN!)))
   (jY (lT tA! (cF (cN (i:=12) cU.nd χ f_ (a3n cL (Gu.m cM) (aL tu!) (HP! ii_)))
   (cF (cN (i:=13) cU.nd χ f_ (d0n (aR ct_ (aR ct_ (aR ct_ (aR (a3n aG iS ct_ (HR_ ii_ (aL ef_))) (aR ct_ (HN! ct_ ct_))))))))
   (cF (b9b a4! ii_ (aL ef_) (aL (BK_ (aA 13) cu_)))
   (bO (HS! (c1l (jC (fZ (B5! bz_ aC) (fD (bE a9n a9q bz_ mK! n_)))) mK! bz_)))))) dM)
   (jY (cN (i:=8) cU.nd χ f_ cq_)
   (d3i (b9f (ie:=9) (ix:=8) (L:=_) χ χ mg_ cU.nd χ χ a_ χ χ au_ T.Q3 T.R4 (b7w au_ au_ au_ T.N6 bQ au_ T.Q5 au_ T.M8 T.P1) T.R8 (a6r T) i_ au_ (λpn g=>(aR ii_ bV)))
   (d3j (bO (dR (aL (gS (AQ! b3m (aB bU_ aF)) (fL (eP P_ bU bU_ bz_ n_))))))))))))))))))))
 exact#[fd,O,λbase i g=>Fq.imp (h2 base i g) λvs H Q E z=>z P w _ nd]
def b4r{ad:uv!}{o0 o1 o2 o3 o4 o5 o6 o7:ak!}{n0 n1 n2 n3 n4 n5 n6 n7 ep:δ}{s0 s1 s2 s3 s4 s5 s6 s7:bX_}(X:bb_)(hb:dx!)
  (ga:BL_ K "PARTS"=AY_ i2!)(gl:AU_ ad=ψ {cls:=.type "dict",data:=.dict [#[PyData.keyHash w.params "put",.str "put" k0,.ref r0],#[PyData.keyHash w.params "move",.str "move" k1,.ref r1],#[PyData.keyHash w.params "drop",.str "drop" k2,.ref r2],#[PyData.keyHash w.params "write",.str "write" k3,.ref r3],#[PyData.keyHash w.params "cut",.str "cut" k4,.ref r4],#[PyData.keyHash w.params "set",.str "set" k5,.ref r5],#[PyData.keyHash w.params "undo",.str "undo" k6,.ref r6],#[PyData.keyHash w.params "redo",.str "redo" k7,.ref r7]].toArray ep})(gs:nR_=θ)
  (l0:AU_ r0=ψ #[b6_,o0,.seq [.ref B5,.ref B6].toArray n0,s0])
  (l1:AU_ r1=ψ #[b6_,o1,.seq [.ref B5,.ref B5,.ref B6].toArray n1,s1])
  (l2:AU_ r2=ψ #[b6_,o2,.seq [.ref B5].toArray n2,s2])
  (l3:AU_ r3=ψ #[b6_,o3,.seq [.ref B5,.ref B7,.ref B8].toArray n3,s3])
  (l4:AU_ r4=ψ #[b6_,o4,.seq [.ref B5,.ref B9,.ref C3].toArray n4,s4])
  (l5:AU_ r5=ψ #[b6_,o5,.seq [.ref B5,.ref C4,.ref C5].toArray n5,s5])
  (l6:AU_ r6=ψ #[b6_,o6,.seq [.ref C6].toArray n6,s6])
  (l7:AU_ r7=ψ #[b6_,o7,.seq [.ref C6].toArray n7,s7])
  :∀X:Cx,X.prog=P->X.w=w->X.K=K->X.mg=mg->Sj X "PARTS" (Ew id!):=λY e1 e2 e3 e4=>
 c0k (rows:=[("put",k0,r0),("move",k1,r1),("drop",k2,r2),("write",k3,r3),("cut",k4,r4),("set",k5,r5),("undo",k6,r6),("redo",k7,r7)]) (w:=w) e2 e3 e4 (cX X hb ga) gs gl (Dc_ ["put",eD!,"drop",eD_,"cut","set","undo","redo"]) #[χ,fO (fs:=[B5,B6]) l0 qI!,χ,fO (fs:=[B5,B5,B6]) l1 ij!,χ,fO (fs:=[B5]) l2 fa_,χ,fO (fs:=[B5,B7,B8]) l3 ij!,χ,fO (fs:=[B5,B9,C3]) l4 ij!,χ,fO (fs:=[B5,C4,C5]) l5 ij!,χ,fO (fs:=[C6]) l6 fa_,χ,fO (fs:=[C6]) l7 fa_,ο]
end
end K31
namespace XS
open PySem PySem.Spec PyProof.Rows L2
def a0j{K:ye!}{nm q RS q1:Str}{hdct RT RU:Bool}{sub:k_}{ab RW:Bool}{col RX:wY_ Bool}{dd d1 d2 d3:ak!}{k0 k1 k2 k3 k5:eK!}{sl s2 s3:bX_}{es v5:dC!}{ep vx:δ}
  (la:AU_ C=ya_ [.ref B,gv_,op!,op_,oq_])(lb:AU_ B=ψ tX!)
  (lc:tX_)(ld:tY!)(le:Cf! K=ψ υ)(lf:tY_)(lg:tZ!)(lh:tZ_):Vu K C:=
 #[B,N,nm,q,bs,hdct,sn,sub,ab,col,dd,k0,k1,k2,k3,k5,c0,d1,_,sl,la,lb,#[B9! lc ld,le],#[B9! lf lg,lh]]
open DL
def c1h{K:ye!}{mg:o!}{x qual:Str}{st:Stmt}{ps:l!}{B0:uv!}{nm q RS q1:Str}{RT RU:Bool}{sub:k_}{ab RW:Bool}{col RX:wY_ Bool}{dd d1 d3:ak!}{k0 k1 k2 k3 k5:eK!}{d2:ak!}{es:dC!}{ep:δ}{s2:bX_}{sl s3:bX_}{v5:dC!}{vx:δ}{od an:ak!}{fz:bX_}{kV:wX!}(m:kH!)
  (la:AU_ C=ψ (excClassObj nm q C N bs [.ref B0,gv_,op!,op_,oq_] τ sn sub ab col dd k0 k1 k2 k3 k5 "ValueError.__new__"))(lb:tX_)(lb':tY!)(lc:Cf! K=AY_ cs!)
  (ld:AU_ B0=ψ tX!)(le:tY_)(lf:tZ!)(lg:tZ_)
  (sa:lZ_)(ln:AR! "line"=ψ υ)(ga:Dy_ W.specialIn fC!=ψ s4!)
  (ra:W.readsIn K B0 l1!=τ)(rb:ET! l1!=ψ s5!)
  (i:tn!)(l:AU_ fI=ψ p0_)
  (c:fD_)(k:Bt_ K cs!=τ)(kc:tm_)
  (b:p1_):BI K mg x C B0 qual st ps:=
 #[m,fI,_,#[#[N,nm,q,bs,sn,sub,ab,col,dd,k0,k1,k2,k3,k5,la,(by delta W.nsOkIn;rw[lb];exact(by rw[<-NE];exact lb':yf!=τ)),lc],#[c0,d1,_,sl,ld,#[B9! le lf,lg]],sa,ln,ga,_,ra,rb],iZ l c k,(iZ l c k).binds b,i,kc]
end XS
open PySem PySem.W PyProof.Rows
theorem PySem.Challenge.PySem.W.holds_open{r:OpenRow}{Xt:Shared->Bool}{XP:(Str->ι Value)->Heap->ν}{α:Type}{Yf:Shared->α}{Ya:World->α}{YP:World->Heap->ν}{d:DefRec}{kwd:Ge! Str PySem.Expr}{N:δ}
  (left:Eb! q)(hY:∀w s,Yf s=Ya w->YP w s.heap)(hYk:∀w h h',YP w h->(BN! h.get?)->YP w h')
  (hX:∀s,Xt s=τ->XP (s.heap.nsMap mainGlobals) s.heap)(hXk:∀mg h h',XP mg h->(BN! h.get?)->XP mg h')
  (hdef:defOf q r.name=ψ (d,kwd))(hp:r.prog.theDef r.name=E0! ψ)(hk:CU_ kwWritten?=ψ kwd)(hRf:∀s,Xt s=τ->F0! RecFacts s.heap)(hwr:(!r.writes||r.records.isEmpty)=τ)
  (k1:r.wellSaid=τ)(ok:(BO_ q)=τ)(hb:r.prog.bare)(hw:r.toRowW.promised)
  (call:Ej_ WR.WalkR):r.Holds:=WR.holds_openR left hY hYk hX hXk hdef hp hk hRf hwr k1 ok hb hw call
set_option tactic.hygienic true in
set_option maxRecDepth 100000 in
set_option maxHeartbeats 0 in
theorem PySem.Challenge.cw_manyhands_k31_not_saved_holds : PySem.Challenge.rw_manyhands_k31_not_saved.Holds := by
 w_on;o_law;k_head;(case hw=>w_witness2)
 k_fill
 exact L2.b1y (l:=PySem.Challenge.rw_manyhands_k31_not_saved) (n:=63) (k:=13) (x:="_law_script") (CX:=L2.Mt) (sp:=K31.Xq) rfl (by decide) rfl #[rfl,by decide,by decide,rfl] (λw h Y=>W.kIn_of Y) ?F (λK H a ns hl _ hS P w t nd=>DL.c5j hS (K31.b9s nd)) (λ_ _ _ _ z=>z)
 case F=>
  intro w mg fa h KX G hmg;refine' K31.d2h hmg ?dl #[?D1,?D2,?D3,?D4,?D5,?D6,?D7,?D8,?D9,?E1,?E2,?E3,?E4,?E5,?E6,?E7,?E8,?E9,?F4,?F5,?F6,?F7,?F8,?F9,?G6,?G7,?G8,?G9,?H9,?J0,?J9,?K0,?K2,?K3,?K4,?K7,?K8,?K9,?L4,?L5,?L6,?L7,?L8,?L9,?M5,?M6,?M7,?M8,?M9,?N0,?N2,?N3,?N5,?N6,?N7,?N8,?N9,?O0,?O1,?O2,?O3,?O4,?O5,?O6,?O7,?O8,?O9,?P0,?P1,?P3,?P4,?P5,?P6,?P7,?P8,?P9,?Q0,?Q1,?Q2,?Q3,?Q4,?Q5,?Q6,?Q7,?Q8,?Q9,?R3,?R4,?R5,?R6,?R7,?R8,?R9,?S0,?S1,?S2,?S3,?S4,?gp] ?nd
  (case E6=>(dsimp only;refine' DL.d3l (DL.cX KX G ?g) ?a ?i ?l ?c ?k ?mm ?kc ?b;(case g=>k_is);(case a=>k_is);(case i=>k_is);(case l=>k_is);(case c=>k_is);(case k=>k_is);(case mm=>k_is);(case kc=>k_is);(case b=>exact λ_ _ _ _ _ _=>DL.uZ λ_ _=>rfl)))
  (case D1=>show"!!")
  (case D2=>show"!#")
  (case D3=>show"!!")
  (case D4=>show"!!")
  (case D5=>show"!!")
  (case D6=>show"!!")
  (case D7=>show"!!")
  (case D8=>show"!!")
  (case D9=>show"!!")
  (case E1=>show"!!")
  (case E2=>show"!!")
  (case E3=>show"!#")
  (case E4=>show"!!")
  (case E5=>show"!!")
  (case E7=>(dsimp only;refine' DL.c5a ?a ?i ?l ?c ?k ?b;(case a=>k_is);(case i=>k_is);(case l=>k_is);(case c=>k_is);(case k=>k_is);(case b=>exact λ_ _ _ _ _ _=>DL.uZ λ_ _=>rfl)))
  (case E8=>show"!#")
  (case E9=>show"!#")
  (case F4=>show"!#")
  (case F5=>show"!#")
  (case F6=>show"!#")
  (case F7=>show"!#")
  (case F8=>show"!#")
  (case F9=>show"!!")
  (case G6=>show"!!")
  (case G7=>show"!!")
  (case G8=>show"!!")
  (case G9=>show"!!")
  (case H9=>show"!!")
  (case J0=>show"!!")
  (case J9=>show"!!")
  (case K0=>show"!#")
  (case K2=>show"!#")
  (case K3=>show"!$")
  (case K4=>show"!!")
  (case K7=>show"!#")
  (case K8=>show"!#")
  (case K9=>show"!!")
  (case L4=>show"!!")
  (case L5=>show"!!")
  (case L6=>show"!#")
  (case L7=>show"!#")
  (case L8=>(refine' DL.bF KX G ?a ?l ?c ?k ?b;(case a=>k_is);(case l=>k_is);(case c=>k_is);(case k=>k_is);(case b=>exact λ_ _ _ _ _ _=>DL.us4 λ_ _ _ _=>rfl)))
  (case L9=>show"!$")
  (case M5=>show"!#")
  (case M6=>show"!#")
  (case M7=>show"!!")
  (case dl=>(refine' DL.c6v KX G ?a ?l ?c ?k ?b;(case a=>k_is);(case l=>k_is);(case c=>k_is);(case k=>k_is);(case b=>exact λ_ _ _ _ _ _=>DL.pF λ_=>rfl)))
  (case M8=>show"!%")
  (case M9=>show"!%")
  (case N0=>show"!%")
  (case N2=>show"!%")
  (case N3=>show"!%")
  (case N5=>show"!%")
  (case N6=>show"!%")
  (case N7=>show"!%")
  (case N8=>show"!%")
  (case N9=>show"!%")
  (case O0=>show"!%")
  (case O1=>show"!%")
  (case O2=>show"!%")
  (case O3=>show"!%")
  (case O4=>show"!&")
  (case O5=>show"!&")
  (case O6=>show"!&")
  (case O7=>show"!&")
  (case O8=>show"!&")
  (case O9=>(refine' DL.c6f KX G ?a;(case a=>k_is)))
  (case P3=>show"!'")
  (case P4=>show"!'")
  (case P5=>show"!'")
  (case P6=>show"!'")
  (case P7=>show"!'")
  (case P8=>show"!'")
  (case P9=>show"!'")
  (case Q0=>show"!'")
  (case Q1=>show"!'")
  (case Q2=>(dsimp only;refine'#[?pg,?hd,?po,?sa];(case pg=>k_is);(case hd=>k_is);(case po=>k_is);(case sa=>k_is)))
  (case Q3=>show"!'")
  (case Q4=>show"!'")
  (case Q5=>show"!'")
  (case Q6=>show"!'")
  (case Q7=>show"!'")
  (case Q8=>show"!(")
  (case Q9=>show"!(")
  (case R3=>show"!(")
  (case P0=>(dsimp only;refine' XS.c1h (DL.cX KX G ?yg) ?yla ?ylb ?ylbb ?ylc ?yld ?yle ?ylf ?ylg ?ysa ?yln ?yga ?yra ?yrb ?yi ?yl ?yc ?yk ?ykc ?yb;(case yg=>k_is);(case yla=>k_is);(case ylb=>k_is);(case ylbb=>rfl);(case ylc=>k_is);(case yld=>k_is);(case yle=>k_is);(case ylf=>rfl);(case ylg=>k_is);(case ysa=>k_is);(case yln=>k_is);(case yga=>k_is);(case yra=>k_is);(case yrb=>k_is);(case yi=>k_is);(case yl=>k_is);(case yc=>k_is);(case yk=>k_is);(case ykc=>k_is);(case yb=>exact λ_ _ _ _ _ _=>DL.uZ λ_ _=>rfl)))
  (case P1=>(dsimp only;refine'#[?zhd,?zln,?zga,?zgt,?zsb,?zsv];(case zhd=>k_is);(case zln=>k_is);(case zga=>k_is);(case zgt=>k_is);(case zsb=>k_is);(case zsv=>k_is)))
  (case R4=>show"!)")
  (case R5=>show"!)")
  (case R6=>show"!*")
  (case R7=>show"!*")
  (case R8=>show"!*")
  (case R9=>show"!*")
  (case S0=>show"!*")
  (case S1=>show"!+")
  (case S2=>show"!+")
  (case S3=>show"!+")
  (case S4=>show"!+")
  (case gp=>(refine' K31.b4r KX G ?ga ?gl ?gs ?l0 ?l1 ?l2 ?l3 ?l4 ?l5 ?l6 ?l7;(case ga=>k_is);(case gl=>k_is);(case gs=>decide);(case l0=>k_is);(case l1=>k_is);(case l2=>k_is);(case l3=>k_is);(case l4=>k_is);(case l5=>k_is);(case l6=>k_is);(case l7=>k_is)))
  (case nd=>(delta K31.Ck.nd;decide))
