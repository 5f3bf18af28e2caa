import PyProof.Rows.All
import Wide.All
import OpenK.AllK
import PySem.Challenge.RW_manyhands_k14_whole_nothing_lost
set_option linter.all false
set_option genSizeOf false
set_option Elab.async false
set_option maxRecDepth 100000
set_option maxHeartbeats 4000000
def HP:=@PySem.wpAny_bind
def HQ:=@Option.bind_eq_some_iff
def HR:=@List.mem_cons_of_mem
def HS:=@PySem.wpAny_pure
def HU:=@PySem.Heap.get?_push_of_some
def HV:=@List.mem_cons_self
def HW:=@List.mem_cons
def HX:=@List.mem_append_right
def HY:=@List.not_mem_nil
def HZ:=@List.size_toArray
def IA:=@Option.map_eq_some_iff
def IB:=@if_pos
def IE:=@List.getElem?_eq_getElem
def IF:=@if_neg
def IG:=@decide_eq_false
def IH:=@Nat.le_refl
def II:=@List.mem_singleton
def IJ:=@List.map_cons
def IK:=@List.length_map
def IL:=@PySem.Heap.get?_push_size
def IM:=@List.mem_append
def IN:=@decide_eq_true
def IP:=@List.mem_append_left
def IQ:=@Nat.lt_of_lt_of_le
def IR:=@List.length_append
def IS:=@List.getElem?_eq_some_iff
def IT:=@PySem.Heap.lt_size
def IU:=@List.mem_map_of_mem
def IV:=@List.nodup_cons
def IW:=@List.length_cons
def IY:=@List.mem_map
def IZ:=@decide_eq_true_eq
def JA:=@List.map_append
def JB:=@Bool.false_ne_true
def JC:=@List.append_nil
def JD:=@Bool.and_eq_true
def JE:=@PySem.Heap.get?_update_other
def JF:=@Ne.symm
def JG:=@Nat.le_trans
def JH:=@Nat.ne_of_lt
def JI:=@List.getElem?_set_ne
def JJ:=@Nat.zero_le
def JK:=@Bool.false_eq_true
def JL:=@List.getElem?_map
def JM:=@Array.getElem?_eq_getElem
def JN:=@PySem.PassesOwn.never
def JO:=@Option.some.inj
def JP:=@List.nodup_append
def JQ:=@List.mem_filter
def JR:=@PySem.wpAny_call_entry
def JS:=@PySem.wpAny_holding
def JT:=@List.getElem?_append_right
def JU:=@List.getElem?_eq_none
def JV:=@PySem.wpAny_callSpecial?_slot
def JW:=@PySem.wpAny_truthy_bool
def JX:=@PySem.wpAny_field
def JY:=@beq_eq_false_iff_ne
def JZ:=@List.map_map
def KA:=@PySem.sizeLine_eq
def KB:=@of_decide_eq_true
def KC:=@if_false
def KD:=@List.lookup_cons
def KG:=@List.getElem_mem
def KH:=@List.append_assoc
def KI:=@List.getElem?_set_self
def KJ:=@PyProof.Rows.callWith_type1
def KL:=@Option.some_ne_none
def KM:=@List.filter_eq_self
def KN:=@PyProof.Rows.wpS_bind
def KO:=@List.filter_cons_of_pos
def KP:=@Array.getElem?_eq_some_iff
def KQ:=@Nat.lt_of_le_of_lt
def KR:=@List.pairwise_cons
def KS:=@PySem.wpAny_newObj_type
def KU:=@List.nodup_nil
def KW:=@List.length_zip
def KY:=@List.getElem?_append_left
def KZ:=@if_true
def LA:=@Array.length_toList
def LB:=@PySem.wpAny_mono
def LC:=@PySem.F.slot_dict_keyiterator_next
def LD:=@List.filter_cons_of_neg
def LF:=@PySem.Heap.get?_update_self
def LG:=@Option.bind_some
def LH:=@List.length_take
def LI:=@PySem.wpAny_setField_rec
def LJ:=@PySem.wpAny_rule
def LK:=@List.map_congr_left
def LL:=@Nat.lt_irrefl
def LM:=@Nat.lt_or_ge
def LN:=@List.nil_append
def LO:=@List.length_singleton
def LP:=@beq_iff_eq
def LQ:=@Int.emod_lt_of_pos
def LR:=@PySem.wpAny_seqItems
def LS:=@beq_self_eq_true
def LU:=@Int.le_refl
def LV:=@List.mem_iff_getElem
def LW:=@PySem.wpAny_Call_Name_kw
def LX:=@PySem.Obj.data_mapFields
def LY:=@PySem.Calls.spliced_cons
def LZ:=@List.filter_congr
def MB:=@PySem.mem_of_lookup
def MC:=@List.replicate_succ
def MD:=@List.length_set
def MF:=@List.length_nil
def MH:=@List.find?_cons
def MJ:=@Bool.eq_iff_iff
def ML:=@PySem.F.plain_max_loop
def MM:=@List.take_of_length_le
def MN:=@PyProof.Rows.wpS_pure
def MO:=@List.nodup_iff_pairwise_ne
def MQ:=@List.getD_eq_getElem?_getD
def MU:=@List.all_eq_true
def MV:=@PySem.wpAny_dictEpoch
def MX:=@Nat.ne_of_gt
def MY:=@List.filter_filter
def MZ:=@PySem.Heap.SameBut.update
def NA:=@List.take_succ_eq_append_getElem
def NB:=@List.mem_of_getElem?
def NC:=@PySem.Obj.isFreed_of_fields
def ND:=@Int.emod_nonneg
def NE:=@PySem.Heap.size_push
def NG:=@PySem.F.plainAttrs_list
def NH:=@List.getElem?_replicate
def NI:=@List.filter_sublist
def NJ:=@List.mem_filterMap
def NK:=@PySem.wpAny_typeNameOfWhole_keyiter
def NM:=@Nat.le_succ
def NN:=@Nat.le_of_lt
def NO:=@Nat.le_of_eq
def NP:=@List.take_append_drop
def NQ:=@List.mem_iff_getElem?
def NR:=@List.length_replicate
def NS:=@List.length_filter_le
def NT:=@List.getElem?_toArray
def NU:=@List.forIn_cons
def NV:=@List.filter_map
def NW:=@Array.getElem?_toList
def NX:=@List.length_range
def NY:=@List.flatten_cons
def NZ:=@Int.toNat_natCast
def OA:=@PySem.Heap.size_after_update
def OB:=@PySem.F.slot_NoneType_hash
def OC:=@List.perm_ext_iff_of_nodup
def OD:=@PySem.wpAny_passesOwn
def OE:=@List.pairwise_iff_getElem
def OF:=@List.getLast?_eq_none_iff
def OG:=@List.drop_eq_getElem_cons
def OH:=@or_false
def OI:=@List.length_drop
def OJ:=@PySem.wpAny_dictEntries
def OK:=@PySem.wpAny_attempt
def OL:=@PySem.Paired.length
def OM:=@PySem.Calls.spliced_nil
def ON:=@List.map_nil
def OO:=@List.getElem?_take_of_lt
def OP:=@PySem.F.slot_tuple_iterator_next
def OQ:=@PySem.Calls.evalArgs_plain
def OT:=@PySem.wpAny_setField
def OU:=@List.length_eq_zero_iff
def OV:=@List.foldl_cons
def OX:=@PyProof.Rows.get?_update_seq
def OY:=@PySem.wpAny_typeNameOf_keyiter
def OZ:=@PyProof.Rows.slot_tuple_getitem
def PB:=@or_congr_right
def PC:=@List.mem_range
def PD:=@List.Perm.refl
def PF:=@PySem.F.slot_dict_get
def PH:=@Nat.lt_succ_self
def PJ:=@PySem.Calls.callWith_builtin
def PK:=@PySem.wpAny_letGo
def PL:=@Bool.not_true
def PM:=@Bool.and_self
def PN:=@PySem.wpAny_notOrdered_dict
def PP:=@List.filterMap_cons
def PQ:=@PySem.F.slot_enumerate_next
def PR:=@PyProof.Rows.listUpdate_at
def PU:=@PySem.F.slot_enumerate_getattribute
def PV:=@of_decide_eq_false
def PX:=@List.zip_cons_cons
def PY:=@List.filter_append
def PZ:=@PySem.plainId_quiet
def QA:=@Classical.byContradiction
def QB:=@PySem.wpAny_specialOf
def QC:=@PySem.wpAny_execs_nil
def QD:=@PySem.slot_dict_contains
def QE:=@PySem.F.type_list_append
def QF:=@PySem.F.slot_list_append
def QG:=@PySem.F.args_tuple_add_2
def QH:=@Option.isSome_iff_exists
def QI:=@Nat.lt_succ_of_lt
def QJ:=@List.pairwise_map
def QK:=@List.ext_getElem?
def QL:=@PySem.F.plainAttrs_dict
def QM:=@PySem.F.entry_tuple_add
def QN:=@PySem.codeAny_mono
def QO:=@List.perm_middle
def QP:=@List.cons_append
def QQ:=@PySem.F.slot_tuple_add
def QR:=@List.filter_eq_nil_iff
def QS:=@List.cons.injEq
def QT:=@List.Pairwise.sublist
def QU:=@PySem.wpAny_standAt
def QV:=@PySem.wpAny_newList
def QW:=@List.pairwise_append
def QX:=@List.mem_of_getLast?
def QY:=@PySem.wpAny_forIn_list
def QZ:=@PySem.F.args_dict_keyiterator_next_1
def RA:=@List.forIn_nil
def RB:=@Bool.and_false
def RC:=@PyProof.Rows.wpS_forRange
def RD:=@PyProof.Rows.listItems_at
def RE:=@PySem.F.entry_dict_keyiterator_next
def RF:=@List.map_id
def RG:=@PySem.wpAny_typeOf
def RH:=@PySem.wpAny_isOneOf_keyiter
def RI:=@PySem.codeAny_builtin
def RJ:=@List.length_zipIdx
def RK:=@List.getElem?_drop
def RL:=@PySem.F.slot_zip_next
def RM:=@PySem.call_meets
def RN:=@PySem.wpAny_updateSeq_pair
def RO:=@bne_self_eq_false
def RP:=@Iff.rfl
def RQ:=@PySem.wpAny_tryCatch
def RS:=@PySem.wpAny_newTuple
def RT:=@PySem.wpAny_fieldsOf
def RU:=@not_or
def RX:=@Nat.zero_add
def RY:=@Nat.lt_trans
def RZ:=@Int.le_of_lt
def SA:=@Nat.succ_le_succ
def SC:=@List.filter_cons
def SD:=@List.drop_length
def SE:=@PySem.F.slot_dict_setdefault
def SF:=@PySem.wpAny_onRaise
def SG:=@PySem.strLen_append
def SH:=@PySem.W.kia_one
def SI:=@PySem.SeqAt.EqAt.int_int
def SJ:=@Option.map_some
def SK:=@Nat.min_eq_left
def SL:=@List.of_mem_zip
set_option hygiene false
section open Lean
def z'N(b:Bool):Nat->Syntax->Syntax
|n+1,.node _ k a=>let a:=a.map (z'N b n);.node .none k (if b&&k==``Parser.Term.basicFun then a.modify 0 λx=>.node .none `null (x.getArgs.map λy=>if y.isOfKind ``Parser.Term.hole then mkIdent `z'x else y) else a)
|_,.atom _ v=>.atom .none v
|_,.ident _ r n p=>.ident .none r n p
|_,x=>x
def z'E:Nat->Syntax->String
|0,_=>""
|n+1,s=>match s with
 |.node _ k a=>a.foldl (λr x=>r++z'E n x) s!"n{a.size} {(toString k).replace "Lean.Parser." "~"}\n"
 |.atom _ v=>s!"a{v}\n"
 |.ident _ _ v _=>s!"i{v}\n"
 |_=>"m\n"
def z'D(f:SourceInfo):Nat->List String->Syntax×List String
|n+1,x::l=>let r:=(x.drop 1).toString;match x.front with
 |'n'=>let c:=(r.takeWhile Char.isDigit).toString;let (a,l):=c.toNat!.fold (λ_ _ (a,l)=>let (y,l):=z'D f n l;(a.push y,l)) (#[],l);(.node f ((r.drop (c.length+1)).toString.replace "~" "Lean.Parser.").toName a,l)
 |'a'=>(.atom f r,l)
 |'i'=>(.ident f r.toRawSubstring r.toName [],l)
 |_=>(.missing,l)
|_,l=>(.missing,l)
def z'K:List (String×String):=[("P","n3 ~Term.paren\nn2 ~Term.hygienicLParen\na(\nn1 hygieneInfo\ni[anonymous]"),("D","n1 ~Tactic.tacticSeq\nn1 ~Tactic.tacticSeq1Indented"),("E","n2 ~Term.dotIdent\na."),("A","n2 ~Term.app"),("B","n1 null"),("C","n0 null"),("F","n2 null"),("G","n3 null"),("H","n1 ~Tactic.rcasesPatMed"),("I","n1 ~Tactic.rcasesPat.one"),("J","n2 ~Tactic.rcasesPatLo"),("K","n1 ~Tactic.optConfig"),("L","n4 ~Term.basicFun"),("M","n1 ~Term.hole\na_"),("N","n2 ~Term.byTactic\naby")]
def z'Z(r:SourceInfo)(f:String):Syntax:=(z'D r 999 (((f.takeWhile (·≠'\r')).toString.splitOn "\n").flatMap λs=>match z'K.lookup s with|some x=>x.splitOn "\n"|_=>[s])).1
local macro_rules|`(z [$x,*])=>do let a:=x.getElems;let mut r:="";for i in [0:a.size/2] do {r:=s!"{r}\r{match a[2*i]!.raw.isStrLit? with|some s=>s|_=>a[2*i]!.raw.getId.toString}\r{z'E 999 (z'N true 999 a[2*i+1]!)}"};return (Syntax.mkStrLit (z'K.foldl (λr p=>r.replace (p.2++"\n") (p.1++"\n")) r)).raw
def z't't:String:=z ["pc!",(by simp[Fm,De,Ib,Sx,Wb,Mx,He,Lm,Zj,Mi,Wx,Cp,fT,Mf,Aa,CQ,f2,Sh,Kt,Xh,GP,Xg,Gn,Pd,f1,Ad,Ah,Yp,fC,AN,Ea,Bv,Iq,Wt,Er,Ev,Bm,Al,Fj,Kb,Ci,Me,Lq,Ia,Cm,Bi,Oi,Du,Jl,Xi,Tp,HT.sIx,List.getElem?_cons_zero,List.getElem?_cons_succ]),"!8",(by split at e),"!#",(by refine' DL.aQ KX G ?a ?l ?c ?k ?b;(case a=>k_is);(case l=>k_is);(case c=>k_is);(case k=>k_is);(case b=>exact λ_ _ _ _ _ _=>DL.lK λ_=>rfl)),"!$",(by refine' DL.aQ KX G ?a ?l ?c ?k ?b;(case a=>k_is);(case l=>k_is);(case c=>k_is);(case k=>k_is);(case b=>exact λ_ _ _ _ _ _=>DL.iX λ_ _=>rfl)),"!{",(by constructor),"!)",(by refine' DL.cY KX G ?a;(case a=>k_is)),"!x",(by unfold Fj Kb),"!+",(by dsimp only;refine' DL.dJ KX G ?a;(case a=>k_is)),"!/",(by dsimp only;(show W.findIn _ _ _=_);k_is),"!2",(by intro x y dx dy d G H Q sub rx ry e k),"!C",(by intro J s Z H Q I h),"!%",(by dsimp only;refine' DL.eB ?a ?i ?l ?c ?k ?b;(case a=>k_is);(case i=>k_is);(case l=>k_is);(case c=>k_is);(case k=>k_is);(case b=>exact λ_ _ _ _ _ _=>DL.iX λ_ _=>rfl)),"!5",(by rename_i h;cases e;subst h),"!@",(by obtain⟨t,rfl⟩:=rx),"!L",(by rename_i hl;rcases e),"!;",(by obtain⟨x,e1,e⟩:=HQ.mp e),"#,",(by by_cases hb:b=a),"!'",(by refine' DL.aQ KX G ?a ?l ?c ?k ?b;(case a=>k_is);(case l=>k_is);(case c=>k_is);(case k=>k_is);(case b=>exact λ_ _ _ _ _ _=>DL.us3 λ_ _ _=>rfl)),"!0",(by refine nO aa_ ?_;refine nO aa_ ?_;refine nO aa_ ?_),"!1",(by intro X hP hw hK hc i J s Z H E I hf st hg;subst hP hw hK;obtain⟨f0,f1,f2,f3,f4,f5⟩:=hf it c!),"!H",(by obtain⟨v,rfl,rv⟩:=eS r),"!O",(by obtain⟨ka,gq⟩:=eP ha),"#-",(by simp only[JK,KC]),"!*",(by refine' DL.nR KX G ?a;(case a=>k_is)),"!J",(by obtain⟨q,hq,rfl⟩:=IY.mp hd),"!N",(by subst e;exact I1.fpOk p! (I1.hok.fresh p!)),"!]",(by obtain⟨ep,ht⟩:=hA.tk),"#'",(by funext b;unfold mup),"#.",(by rw[fb!];exact LU _),"!4",(by intro X hP hw hK hc i J s Z H E I hf st hg;subst hP hw hK),"!>",(by obtain rfl:=aU rx;obtain rfl:=aU ry;rcases e),"!F",(by obtain⟨o',e1⟩:=I.base.there b o e hx),"!S",(by obtain⟨a,vs,rfl,qa,ra⟩:=bD rx),"!T",(by intro vs ds d M G H Q sub m r e k),"!Y",(by obtain⟨p,vs,rfl,q,rr⟩:=bD r),"!_",(by intro vs ds d G H Q sub r e k),"!j",(by rename_i h;rw[JD,JD,IZ]at h),"!r",(by subst hb;rw[bI]at e;rcases e),"##",(by refine HP Q!;dsimp only),"#$",(by obtain⟨a,rfl,q⟩:=hx),"#+",(by unfold fT;rw[this];rfl),"!(",(by refine' DL.aQ KX G ?a ?l ?c ?k ?b;(case a=>k_is);(case l=>k_is);(case c=>k_is);(case k=>k_is);(case b=>exact λ_ _ _ _ _ _=>DL.us4 λ_ _ _ _=>rfl)),"!,",(by dsimp only;refine'⟨?pg,?hd,?po,?sa⟩;(case pg=>k_is);(case hd=>k_is);(case po=>k_is);(case sa=>k_is)),"!3",(by obtain⟨v1,t1,rfl,r1,rr⟩:=bB rr;obtain⟨v2,t2,rfl,r2,rr⟩:=bB rr;obtain rfl:=cK rr),"!:",(by obtain⟨hi,r1⟩:=r1;obtain⟨p,dx,vs,rfl,rfl,hH,hl⟩:=sL m1 q1 hi),"!G",(by obtain⟨oc,od,kV,bv,pm,an,ah,ct,iq,rfl,lk,bz⟩:=F.ex),"!M",(by unfold Ak at h;obtain⟨u,r,e1,q,t⟩:=h;subst e1),"!U",(by unfold Ao at h ⊢;obtain⟨a,vs,e,q,r⟩:=h),"!V",(by obtain⟨⟨o,z1,z2,z3⟩,z4⟩:=z;exact jq!),"!W",(by obtain⟨sl,e1⟩:=I.base.slot b o e n hb hx),"!X",(by obtain⟨a',b',c',e',hm⟩:=w.sgs x hx q hq),"![",(by intro x y dx dy d M G H Q sub m rx ry e k),"!a",(by obtain⟨f0,f1,f2,f3,f4,f5⟩:=hf it c!),"!e",(by cases uL I n r ru<;>cases uL I n' r' be),"!i",(by obtain⟨ds,e1,e⟩:=HQ.mp e;show"!8"),"!k",(by obtain⟨_,vs,Y,h2⟩:=m.cell a _ hM),"!m",(by obtain⟨e,n,ne,nf,d⟩:=I.pin p hp),"!n",(by obtain rfl:=cB rx;obtain rfl:=cB ry),"!p",(by obtain⟨its,r,pl,hz⟩:=I.list hq),"!t",(by obtain⟨o,e,c,d⟩:=st;exact ⟨o,e,λv z=>by rw[d]at z;cases z⟩),"!u",(by obtain⟨a,vs,rfl,qa,ra⟩:=bJ rx),"!w",(by subst hb;rw[mup_same]at e;rcases e),"!y",(by obtain⟨sl,oj⟩:=so.2.2 b o eb),"!~",(by obtain⟨cl,ag,fd,Y,h2,h3⟩:=F),"#!",(by obtain⟨ag,fd,Y,h2,h3,h4⟩:=F),"#%",(by simp only[JK,KC,KD,hx]at h ⊢),"#/",(by obtain⟨rfl,rfl|rfl⟩:=d l),"#0",(by obtain⟨od,af,hl⟩:=I.look),"#1",(by obtain⟨o,es,ep,ho,r⟩:=hm),"#2",(by obtain⟨e,n⟩:=c.off ln hx),"#7",(by rename_i p;obtain rfl:=fJ r),"#9",(by obtain⟨q,hq,e⟩:=IY.mp z),"#:",(by obtain⟨hp,g,d,tk,os⟩:=s),"!!",(by dsimp only;refine' DL.b4e (DL.dJ KX G ?g) ?a ?i ?l ?c ?k ?mm ?kc ?b;(case g=>k_is);(case a=>k_is);(case i=>k_is);(case l=>k_is);(case c=>k_is);(case k=>k_is);(case mm=>k_is);(case kc=>k_is);(case b=>exact λ_ _ _ _ _ _=>DL.lK λ_=>rfl)),"!&",(by dsimp only;refine' DL.eB ?a ?i ?l ?c ?k ?b;(case a=>k_is);(case i=>k_is);(case l=>k_is);(case c=>k_is);(case k=>k_is);(case b=>exact λ_ _ _ _ _ _=>DL.us4 λ_ _ _ _=>rfl)),"!-",(by dsimp only;refine' XS.b5x ?xqa ?xqb ?xqc ?xqd ?xqe ?xqf ?xqg ?xqh;(case xqa=>k_is);(case xqb=>k_is);(case xqc=>k_is);(case xqd=>rfl);(case xqe=>k_is);(case xqf=>k_is);(case xqg=>rfl);(case xqh=>k_is)),"!.",(by dsimp only;k_is),"!6",(by refine W.item i s _ _ hg st λv h' tk hv ac kk=>?_;obtain⟨t,rfl⟩:=hv;have I1:Inv X J Z H {s with heap:=h',toks:=tk}:=I.turned hq! f0 f1 f3 f4 f5),"!7",(by refine W.methodCall_KW (pl:=pl) bY_ ht;rintro u s1 ⟨x,H1,I1,rx,a,dx,fs,ex,ea,l,q⟩;subst ex;obtain rfl:u=Value.ref a:=rx;refine mE I1 ea c hm l ?_),"!9",(by obtain⟨ob,eo,ec,ed⟩:=id g1;obtain⟨ot,w5,_,nt,w6⟩:=g2;unfold Builtin.SmallTypes.nextOf;refine HP (JV g1.typeIs OP (JR OP g1.typeIs F.entry_tuple_iterator_next ?_ (F.args_tuple_iterator_next_1 _)));show wpAny _ _ (field (.ref jt) 0>>=_) _ _ s),"!<",(by dsimp only[(show Builtin.Dict_items.ownsTuple "dict_keyiterator"=false by decide),_root_.Bool.false_eq_true,_root_.if_false];show wpAny B_ A.in1 (if(Value.ref d==c2_)=true then _ else _) _ _ s;rw[(IF (λz:(Value.ref d==Value.none)=true=>JB z))];refine HP (HS (HP (OJ s9 td ?_)));rw[bj!]),"!=",(by obtain⟨v,rfl,r1⟩:=eS r;obtain⟨rfl,rfl,hM⟩:=cE r1 e1;obtain⟨es,Y,h2⟩:=((m.cell q.1 _ hM)).2;obtain⟨ys,g1,g2⟩:=vD h2),"!?",(by obtain⟨l,e2,e⟩:=HQ.mp e;obtain⟨h,e3,e⟩:=HQ.mp e;refine ⟨G,ρ,x,er,e1,λv G1 H1 s1 r1=>⟨G1,ρ,l,cM!,e2,λG2 H2 s2=>⟨G2,ρ,h,er.grow dB!,e3,λG3 H3 s3=>?_⟩⟩⟩;have r3:=(eE_).mono s3.g;have s4:=s1.trans eF!),"!A",(by unfold Builtin.SmallTypes.ownedTupleIsFree;refine HP (JX gz rfl rfl Q!);dsimp only[_root_.if_true];refine HP eR!;refine HP eQ_),"!B",(by obtain⟨us,rv,p1,_⟩:=I.list qa;obtain⟨us',az,p2,_⟩:=I.list qb;have Y:=aG rd;have h2:=aG re;have h3:=d9_),"!D",(by refine oC ((dr.map _).nodup_iff.mpr hH.keys) (by rw[dr.length_eq];omega) (λo ho=>(pB!).dg) λq M1 ep kq hq hM1 ou fr=>?_;have jd:=hA.keep fr;have lk:Lk t M yy a S X M1:=⟨X,h.keepA fr,.of fr⟩),"!E",(by obtain⟨ta,wa,out,kl,ca,hA,_,_⟩:=h.hd;have hl:=hF.l;have hH:=h.hH;have dr:(aZ_).Perm S:=aV S;refine h_),"!I",(by rintro⟨⟨⟩,ac⟩ s' ⟨rfl,a1,a2,a3⟩;dsimp only;obtain⟨L',b1,b2,b3⟩:=pO ic hk og a1 a3),"!K",(by obtain⟨i,hi,q⟩:=oY hb;obtain⟨p,ds,vs,Y,h2,h3,h4,h5⟩:=er.own_ i hi;rw[q]at h2;cases h2),"!P",(by dsimp only[sliceBounds,HT.sIx,_root_.Option.getD_none,h5!,_root_.if_true];by_cases h:i<0),"!Q",(by intro J s Z H x y v u Q I rx ry h;obtain⟨i,j,rfl,rfl,q⟩:=h;show"!@";obtain⟨t',rfl⟩:=ry),"!R",(by refine nO bV_ ?_;refine nO bV_ ?_),"!Z",(by have hT:=ar.typeIs;obtain⟨o,ho,hc,hd⟩:=id ar;obtain⟨od,s9,_,td⟩:=id D),"!^",(by obtain⟨gu,H3,I3,n3⟩:=q3;obtain⟨m',hm,w3⟩:=hN gu H3 n3;exact ⟨m',hm,gu,H3,I3,w3⟩),"!`",(by obtain⟨i,hi⟩:=NQ.mp hv;obtain⟨d,_,p⟩:=fR z hi;exact⟨_,_,p⟩),"!b",(by obtain rfl:=eV ry;rcases e;refine h_;rw[uM rx];exact k _ G H aN! Ao.bl),"!c",(by have:X.env.scope.names.lookup x=some .free:=hk;rw[k]at this;cases this),"!d",(by have hf:=a1u x k;have hl:∀i∈plc es cT!,i<es.size:=λi hi=>b2n hi),"!f",(by obtain⟨v,rfl,r1⟩:=eS r;obtain⟨p,ys,rfl,q,rr⟩:=wJ sub m r1 e1),"!g",(by show"!;";obtain⟨q,e2,e⟩:=HQ.mp e;obtain⟨YE,e3,rfl⟩:=IA.mp e),"!h",(by refine HP (JX eo ed (x:=.ref tt) rfl ?_);rw[(IF (show¬((Value.ref tt==Value.none)=true)from JB))];refine HP (JX eo ed rfl ?_);refine HP (LR w5 w6 ?_);simp only[NZ,g3]),"!l",(by show (wpAny _ _ (field i1_ 2>>=_) _ _ _);refine HP eQ_;refine HP eQ_;refine HP (LR gI rfl ?_);refine HP ?_),"!o",(by dsimp only[_root_.Bool.not_false,_root_.if_true];exact HP (uS (HS nR!))),"!q",(by have e:=ay_;dsimp only[_root_.Array.length_toList]at e;omega),"!s",(by obtain⟨e,he,hv⟩:=hi.2 i σ[i] (by rw[JM Y]);rw[he,NW,JM Y,hv];rfl),"!v",(by exact yT a3 hn a1 λh2 b1 b2 b3 b4=>k h2 T gZ! b1 (a2.skip b2 (by intro x hx;simp at hx;subst hx;exact .inr (TR a0))) b3),"!z",(by obtain⟨_,_,_,_,o,_,_,e,ex,_⟩:=I.hok p _ hk;exact ⟨o,e,ex⟩),"!|",(by have rs:∀j∈rest,j<es.size:=λj hj=>h2 j (HR _ hj)),"!}",(by subst hj;rw[hi]at e1;rcases e1;rw[KI y8]at e2;cases e2),"#&",(by obtain⟨cl,cr⟩:=a8e λp hp hf=>I.ok.has p.1 (gr p hp hf)),"#(",(by rw[HZ,HZ,<-h3,<-h4,<-Y,<-h2];by_cases hl:g_=aa!),"#)",(by obtain⟨its,rv,⟨o,Y,h2,n,h3⟩,_⟩:=I.tuple nV!),"#*",(by have ne:∀{b u},H b=some u->b≠p:=λe=>bY e hp),"#3",(by simp only[Op.nm,D.tup.injEq,QS,D.int.injEq]at e),"#4",(by rw[nM j1!,nM j1_];exact a5y (mm p hp) (mm q bf)),"#5",(by rename_i h1 ep hM;obtain⟨kk,e1,e2⟩:=HQ.mp e),"#6",(by rcases e;refine ⟨G,ρ,_,er,?_,k⟩;show((Option.some ds)).bind _=_;simp[hl]),"#8",(by refine anF bV_ ?_;exact hR M O _ _ st hL .refl),"#;",(by obtain⟨ad,h1,vs,jz,z6,wz,w4,hn,hs⟩:=hd.ex),"#<",(by obtain rfl:=aU ry;obtain⟨v,Y,h2⟩:=mS ra e)]
def z'0:String:=z [a!,(by omega),b!,hr.mono a_,c!,(by simp),d!,List D,e!,Txt P w K mg t,g!,wl w_,h!,Or.inl rfl,i!,s.heap.objs.size,j!,Ae->Option D,k!,aC J!,l!,model prog w,n!,List Nat,o!,Fl->Mh->Prop,p!,IH _,q!,some bl_,r!,List ai_,u!,List Int,v!,.bl true,w!,arrOf ac,x!,.fn p,y!,Ai.units hr,z!,["thing"],A!,arrOf st,B!,Bz 3,C!,fC aI!,D!,IB rfl,E!,At G H,F!,Ba 0,G!,⟨_,rfl⟩,H!,.lst xs,I!,Value->Shared->Prop,J!,aA 0,K!,aC am_,L!,some o.v,M!,⟨trivial,?_⟩,N!,bG y!,O!,Addr->Prop,P!,.ref C,Q!,HS ?_,R!,some x0,S!,(by simp),T!,i!+1,U!,bN y!,V!,Aa 5,W!,λ_=>True,X!,.inl rfl,Y!,starEach aq! X.env=dj!::starEach es X.env,Z!,.fn o,Ac!,(show¬((i:Int)<0)from by omega),Ad!,rawInt e7!,Ae!,El t [.tup r,.tup fs]=some v!,Af!,⟨rfl,I.turned q2_ f0 f1 f3 f4 f5⟩,Ag!,s0.heap.objs.size,Ah!,(∃old,IsEnum h e it i old),Ai!,(by simpa using c),Aj!,[.int oC!,.str Ai_],Ak!,X.mg "enumerate"=none,Al!,(lA!).any c_=false,Am!,Nat.succ_ne_self _,An!,Str.ofString "ours",Ao!,Str.ofString "waiting",Ap!,(Str.ofString "taken",.fn ta),Aq!,IntsAre j8.toList ms,Ar!,(by rw[e];exact hb),As!,.bl (if neg then !(b==c)else b==c),At!,(by rw[eM,IF c];rfl),Au!,dG j_ jM! (aL (oO o)) jM_,Av!,aL (f:=Aa 1) rfl,Aw!,fy ρ=some oD_,Ax!,(a,.obj t.B5 []),Ay!,.Call (.Attribute bt! "extend" ax) [e] [] ai,Az!,(a,.obj t.B5 Ay_),AA!,(wa,.lst []),AB!,.lst (List.replicate k.toNat ds).flatten,AC!,a6h b3h (oN ha.ok) hb.ok,AD!,⟨G1,ρ,M1,_,(e3_).grow (.ext xj) oL!,r1.2,λy M2 v G2 H2 r2 x2 m2 q2=>?_⟩,AE!,x1.trans (.ext xj) m1,AF!,mirror xs i j ((j - i) / 2),AG!,mup_ne λz=>ho bl!,AH!,mup_ne (JF aw),AI!,[(.int o.h,.fn q)],AJ!,λi j h3 h4=>?_,AK!,(show x - 1<a0.size by omega),AL!,h m st b h3 h4 u,AM!,(by rw[<-e];exact hl),AN!,(∀b,M0 b≠none->M b=M0 b),AO!,(∀b,M0 b≠none->M' b=M0 b),AP!,(∀i,i<lo->rk r w! i<=rk r w! k),AQ!,[q!,O_,ab!,L!,gr_,L!],AR!,∀o∈ms,Nx yy S o,AS!,(none,a0.size),AT!,λ_ _ z=>z,AU!,∀M',ci_->R .non M',AV!,mup M q e4!,AW!,ul.mem_iff.mp ho,AX!,ys.map λ_=>true,AY!,(Value.type "int"::r),AZ!,(by rw[fr b hb];exact hb),A0!,(l.filter λx=>p x||q x),A1!,l.filter λx=>Ik x p,A2!,[q!,ji!,oJ!],A3!,λp=>Iv oZ! (Lg h p.1),A4!,(by rw[hp.length_eq];exact hS),A5!,Bc t M yy a ta wa .non S kl ca,A6!,dL j_ hob hF4,A7!,Eb X.prog X.w X.K X.mg X.base Ng k f fd ps vA_,A8!,[q!,aF_,ap!],A9!,(by simp[e1]),Ba!,kget k6 q.1,Bb!,Hq σ a ep,Bc!,∀H':Hp,H' c=none->Eo X J H' c,Bd!,.ret .none,Be!,Obj.mapSeq λ_=>(#[]:Array Value),Bf!,List.map_fst_zip o9!,Bg!,λv hv=>?_,Bh!,λx y F Q hx hy hq=>?_,Bi!,⟨Array.Perm.refl _,rfl,rfl,rfl⟩,Bj!,(by rw[bn];exact nz),Bk!,(by rw[b3,hd]),Bl!,⟨_,OX ha λ_=>#[]⟩,Bm!,PR ha rfl ?_ jW_ bw!,Bn!,RS ?_ (by show aj_<=_;rw[KA];omega),Bo!,JE _ _ (λz=>hb (by rw[z];exact II.mpr rfl)),Bp!,.int (Zh l),Bq!,s.heap.IsList l dH!,Br!,dL j_ hA.ob hF1,Bs!,⟨_,kz,rfl⟩,Bt!,kws_nil ?_,Bu!,(s1.heap.push c1!).update s1.heap.objs.size (Obj.mapSeq (·++aO_)),Bv!,(Bu!).push Bu_,Bw!,ItemsOf oz! σ aa!,Bx!,JU (by rw[LA,hi.1];omega),By!,Paired.mapP ok.1 λ_ _ z=>z.1,Bz!,.dct kp ep,BA!,(λb hb=>by rw[jY_];exact f9),BB!,λv d=>Fs h3 v (j4_).1 (j4_).2,BC!,L'.map (·.1.2),BD!,(gU_).map S_,BE!,(Wg λys Q H=>∀l,H l=none->Q h6! h6_),BG!,∀{ag:Addr} {ah:Value} {A:Around} {outer:af!} {s:Shared} {H:Hp} {E:XK},Ai k nb_->N.Nodup->Rz (nc!).nox [] [] a8! q,BH!,W.codeIn KF ah qual=true,BI!,h.live b z,BJ!,Lk t M yy a S X M1,BK!,Ad (Fz 1 [] (Pe f) F! aA! b1!) Ah,BL!,tx.cps.toList.map λc=>D.str Y_,BM!,a.old x o l m e,BN!,∀h' T,i!<=T->XF n h' e T cls pk_->Kp [e] gX_ s.heap h'->h'.FunFrames base bC_->Q () {s with heap:=h'},BO!,[TM,.ref L,cG_,rawInt L,cG_]++(if pl.isEmpty then List.replicate 6 c2_ else pl),BP!,Obj.mapFields BO_,BQ!,aL (d:=.fn p) rfl]
def z'00:String:=z [a_,(by decide),b_,Inv X J Z H s,c_,(·.1),d_,model X.prog X.w,e_,⟨rfl,rfl,rfl,ak_,rfl,ak_,ak_⟩,f_,xs.length,g_,ds.length,h_,⟨rfl,?_⟩,i_,List Op,j_,aL rfl,k_,(by decide+kernel),l_,List Value,m_,aP _,n_,λ_ _=>rfl,o_,.fn a,p_,(by omega),q_,wl s_,r_,List V,s_,Aa 1,t_,aC X_,u_,List dZ!,v_,D->Mh->Prop,w_,Aa 0,x_,s1.heap.objs.size,y_,(x==qm!)=false,z_,"hand",A_,fC I_,B_,model P w,C_,wl F_,D_,.ref a,E_,List Str,F_,Aa 2,G_,Gl X x,H_,Aa 3,I_,.int 0,J_,k+1,K_,s2.heap.objs.size,L_,Str->Option Value,M_,Bc t M yy a ta wa out S kl ca,N_,DE X own a fa,O_,some x1,P_,ps.length,Q_,Cg x=some k,R_,List α,S_,(·.2),T_,"name",U_,Aa 4,V_,f ρ,W_,.ref f,X_,aA 1,Y_,⟨#[c]⟩,Z_,.nx ρ,Ab_,HS (HP (MV s9 td ?_)),Ac_,HS (HP (RH hT ?_)),Ad_,(ef_).lookup k=some (.tup fs),Ae_,∀h',Heap.ExtBut it s.heap h'->Q none {s with heap:=h'},Af_,nU [(t.B4,a)] (one ⟨_,i9,pI Y⟩) c!,Ag_,(λi v=>∃c u,x.cps[i]?=some c/\v=.str Y_ u),Ah_,D X.A.in1 hh,Ai_,⟨#[q.1]⟩,Aj_,Gl X "enumerate",Ak_,starEach [a] X.env=c9_::starEach [] X.env,Al_,λa b e=>?_,Am_,I1.hok.fresh oC_,An_,Str.ofString "taken",Ao_,λi h ⟨o,ho,_,hd⟩=>⟨o,ho,λv z=>by rw[hd]at z;cases z⟩,Ap_,IntsAre ak.toList ns,Aq_,lexLt ms ns,Ar_,(by rw[eM,IB c];rfl),As_,Value.bool b==Value.bool c,At_,.int (k:Nat),Au_,o.n==e9!+1,Av_,.Call (.Attribute bt! "insert" ax) [ek,e] [] ai,Aw_,Ab (wl fy) Ac,Ax_,λ_ h=>x3!,Ay_,hF yy ta wa .non,Az_,(ta,.dct [] 0),AA_,0<=k/\k<=1000/\g_*k.toNat<=1000,AB_,.BinOp m8_ .Mult b pos,AC_,upd H1 p dz!,AD_,⟨p,n,vs,rfl,rfl,xi,p_,p_,by rw[<-aG q1];exact eG hl,nF_⟩,AE_,(by rw[hp];simp),AF_,.lst ((cp!).map Op.v++dJ_),AG_,mup_ne (JF at_),AH_,getElem?_pos _ k df,AI_,.dct (gO_++AI!) cT_,AJ_,g h' oy z',AK_,(λi h4 h5=>by rw[show i=x+1 - 1 by omega]),AL_,λi j h5 h6=>?_,AM_,Bc t M0 yy a ta wa out S kl ca,AN_,dn.map λo=>oR_,AO_,(none,lo,hi),AP_,⟨rfl,lo,lo,rfl,g2,g4,g5⟩,AQ_,λb hb=>(mup_ne (cU hb h0)).trans dU!,AR_,pendingOf ac,AS_,λx hx=>hk x bt_,AT_,.dct jR! e0,AV_,(∀x∈xs,∀(R:β->Shared->Prop),(∀y,F x y->R y s)->wpAny l! A (f x) R E s),AW_,λv hv R hR=>?_,AX_,ys.toArray.filterMap id,AY_,hA.keep fr,AZ_,[q!,jU!,e4_,none],A0_,kl.flatMap (hs S),A1_,l.filter λx=>Ik x q,A2_,⟨by simp only[IK];unfold big;omega,?_⟩,A3_,([]++kl.flatMap (hs S)).map Op.v,A4_,Y.mem_iff.mp (KG df),A5_,⟨[a],[(Str.ofString "key",v)]⟩,A6_,x∉W.its->∀M',Q M'->E t.NotThere M',A7_,h _ λM' o O hA hq=>?_,A8_,(c,seqObj "list" ku.toArray n),A9_,[some q.1,na!],Ba_,Paired c0_ kd ku,Bb_,(c,seqObj "list" ku.toArray e),Bc_,Inv X (J++[jY!,Bb_]) Z H s,Bd_,ksk_tail a false e1 c0! st,Be_,ds.map fe_,Bf_,Array.toList_inj.mp,Bg_,(j0!).map S_,Bh_,⟨(apply_ite Xj _ _ _).trans ar!,by split<;>exact nd⟩,Bi_,(by rw[bn];omega),Bj_,⟨a1,a2,a3⟩,Bk_,s.heap.get? a=some (seqObj "list" us.toArray n),Bl_,RD ha rfl ?_,Bm_,seqEpoch_at t3 rfl ?_,Bn_,l.map λh=>D.int (f h),Bo_,HU _ ((Bo!).trans q),Bp_,Pu f1 ρ M x,Bq_,⟨yy,1+fg_,1+Tg S,d⟩,Br_,(by rw[KA];omega),Bs_,f3 ρ=some d,Bt_,x1.sub.seq sq,Bu_,seqObj "list" its.toArray 0,Bv_,(by rw[(aV _).length_eq,KA];omega),Bx_,λq e=>By KF G q.1 e.key,By_,.tup [.str "put",x,y],Bz_,.tup [nl!,x,aG_,bq!],BA_,[o_,x,aG_,bq!],BB_,[q!,aF_,some ay!],BC_,seqEpoch_at mh rfl ?_,BD_,Iv gV_ (Lg h3 p.1.1)<Iv gV_ (Lg h3 q.1.1),BE_,(show Dg X.prog X.w H s.heap d cX! from I.hok d _ e2),BF_,(by rw[kU];simp),BG_,W.isFn KF W_=true,BH_,W.fnOf "__init__" qual ie! a8! aU_ .none kV bv pm an ah ct,BI_,∀M',Md t M yy a S X M'->R j2_ M',BJ_,f ρ=some dX_,BK_,tx.cps.toList.length,BL_,Kp av fr Y h2,BM_,n.get? e=none,BN_,[nk_,x,.non,.str tx],BO_,(·.setIfInBounds 1 (Value.ref Y.objs.size)),BP_,(Y.push ob).update e BP!]
def z'a:String:=z [aa!,es.length,ab!,some x!,ac!,some bU_,ad!,cO 0,ae!,.tup ba_,af!,List Env,ag!,i+1,ah!,A.units<cLine,ai!,.str k,aj!,IB a!,ak!,h1.length,al!,Ad w_ Ah,am!,wl U_,an!,Ab g! Ac,ao!,λi hi=>(by exact(HY hi).elim),ap!,some Z!,aq!,(e::es),ar!,(by kernel_rfl),as!,aC aD,at!,aA 3,au!,(qj_).any c_=false,av!,aC bg_,aw!,z.length,ax!,Bp M w O W,ay!,.int i,az!,I.ok.hd hc,aA!,λ_=>some true,aB!,wl H_,aC!,[z_,aS_],aD!,List D,aE!,s.length,aF!,Hist S,aG!,EP X J Z Q,aH!,Sy t M U a l S am,aI!,.int 1,aJ!,"self",aK!,aC aR,aL!,Ai k X.A,aM!,i∉own,aN!,Bn.refl sub,aO!,OS t M a o O W,aP!,aL (d:=o_) rfl,aQ!,Be v u,aR!,PE X a ta,aS!,[dg!],aT!,.Call (.Name x p) aq! [] pos,aU!,some i,aV!,Ae->Option aD!,aW!,.ref ag,aX!,.type "tuple",aY!,srt ops,aZ!,Cg y=some k,a0!,x∈W.its,a1!,Hd t M yy a S X,a2!,fs.length,a3!,X.N.Nodup,a4!,.bl b,a5!,g i j,a6!,fC (.int 16),a7!,Aa 6,a8!,Bu st,a9!,Or.inr rfl]
def z'aa:String:=z [aa_,bX.trans (congrArg some k_),ab_,l.length,ac_,X.N[i]?=some x,ad_,ys.length,ae_,.rt d,af_,.bl false,ag_,u++v,ah_,X.A.units+64<cLine,ai_,D×D,aj_,us.length,ak_,(by decide+kernel),al_,fC ed_,am_,aA 2,an_,Option Int,ao_,Option D,ap_,ME X own a fa,aq_,X.calm=true,ar_,aX (λ_ _ h=>bU h),as_,Ab q_ Ac,au_,[z_],av_,aB t_ aH,aw_,.ref e,ax_,List Addr,ay_,r.length,az_,fC bF_,aA_,[aJ!,T_],aB_,aY nd rfl h!,aC_,λx hx=>?_,aD_,Bt t M o O W B,aE_,rs.length,aF_,some x,aG_,.int i,aH_,⟨rfl,rfl⟩,aI_,aN aJ aM J! aD n_,aJ_,wl A_,aK_,aA 5,aL_,aC at!,aM_,Dp t M ad V B,aN_,(λ_ _ e=>by cases e),aO_,its.toArray,aP_,Js P w H h,aQ_,I.tok _,aR_,vs.length,aS_,"item",aT_,aB k! aH,aU_,Aj st,aV_,Ae->Option Bool,aW_,(by decide),aX_,.int 0,aY_,some bS_,aZ_,srt S,a0_,aL (d:=x) rfl,a1_,mixKind P w,a2_,Hist U,a3_,Vo X.env.scope x,a4_,.ref i!,a5_,f2 Al w_ A_,a6_,"other",a7_,⟨_,e⟩,a8_,W.txt x,a9_,oF a1 a2 a3 a4 a5 a6]
def z'b:String:=z [ba!,.int h,bb!,M p=some gE!,bc!,Cg d=some k,bd!,lo+hi,be!,k _ _ X! e,bf!,eA I q c!,bg!,[bG!],bh!,A.handled=none,bi!,its.toArray.size,bj!,IF c!,bk!,K w.params,bl!,.inl z,bm!,.lst ds,bn!,ρ.set i cK_,bo!,some n,bp!,W.num x,bq!,.int n,br!,.type "bool",bs!,.tup iG_,bt!,.Name x fh,bu!,W.txt a,bv!,os.map Op.v,bw!,JJ _,bx!,u.length,by!,MR X.prog X.w X.K M G H,bz!,λd hd=>?_,bA!,.lst [],bB!,Mh->Prop,bC!,Vn yy S,bD!,Array Value,bE!,S j,bF!,Fc X (compareOp op) r,bG!,"operation",bH!,Aa 7,bI!,f2 Al F_ az_,bJ!,aC b6!,bK!,f2 Al F_ A_,bL!,Ab g! as_,bM!,"_law_one",bN!,scope.names,bO!,OR KF own G H Z ρ,bP!,fC .non,bQ!,Ls W,bR!,[ba!,dI_],bS!,[nx_],bT!,By X.K G d u,bU!,ME X own b fb,bV!,⟨rfl,k⟩,bW!,SB kd a0 st,bX!,some v,bY!,PE X e te,bZ!,.ref it,b0!,y.length,b1!,f1 Ca al!,b2!,[eh!],b3!,.ref p,b4!,aA 6,b5!,.str "undo",b6!,aN aJ aM am_ aD n_,b7!,[z_,a6_],b8!,aB k! av_,b9!,backToKw ai sa!]
def z'bb:String:=z [ba_,[ba!,bq!],bb_,[a,b],bc_,ME X own e f,bd_,.tup xs,be_,(by simp;omega),bf_,aI J! aO,bg_,aA 4,bh_,[z_,bG!],bi_,.lst ys,bj_,"_law_item",bk_,X.pn++J,bl_,.fn a,bm_,λb h=>?_,bn_,(by unfold big;omega),bo_,(i,p),bp_,.fn o,bq_,.type "int",br_,.type "str",bs_,IB rfl,bt_,HR _ hx,bu_,os.length,bv_,[O_,ab!,L!],bw_,IF nofun,bx_,q1.mono x2.g,by_,[R!,aU!,e0!,dN_,gE_,jh_,y],bz_,((i:Nat):Int),bA_,Hf P w KF own M0 G0 F0 M G H Z ρ,bB_,S.length,bC_,(env::outer),bD_,h.objs.size,bE_,λb hb=>?_,bF_,.int 3,bG_,[aJ!],bH_,Ad F_ Ah,bI_,dX (bH U! bP b6! aR m_),bJ_,aE dN,bK_,cL 3,bL_,ns.map V.int,bM_,List ex!,bN_,Ku X scope cl C fW_ ao bo fp,bO_,List dz_,bP_,List D->Option D,bQ_,Str×D,bR_,(.str k::r),bS_,.fn q,bT_,MR P w KF M G H,bU_,.fn w,bV_,kF dv2 k_,bW_,λo ho=>?_,bX_,.str x,bY_,cZ hj! ?_,bZ_,"_law_k",b0_,.lst rG_,b1_,IB hk,b2_,wl bP!,b3_,cC N! bE k! aK! n_,b4_,[aJ!,aS_],b5_,Bz 2,b6_,vs.toArray,b7_,[z_,aS_,el!],b8_,λx=>!x.1,b9_,λx=>x.1.isSome]
def z'c:String:=z [ca!,w2 Ce g! mb_,cb!,Ak KF H ds vs,cc!,some mx_,cd!,(s,p),ce!,DE X own b fb,cf!,some ae!,cg!,B+20,ch!,wl fo,ci!,.int j,cj!,.type "tuple",ck!,l[j],cl!,x1.trans x2 m1,cm!,M a=some gE!,cn!,W.its.map λi=>(i,D.lst jm!),co!,σ.length,cp!,hs S o.h,cq!,(by simpa using e),cr!,upd H a o,cs!,IT e,ct!,List V->Hp->Prop,cu!,Xb X.env.scope x,cv!,.Name x pos,cw!,x≠"__name__",cx!,PE X b tb,cy!,[q!,O_,ac!,aF_],cz!,i.natAbs,cA!,"_law_hand",cB!,De (fC af_),cC!,ns.length,cD!,Au t.B7 "following" g!,cE!,aC dU,cF!,jW y!,cG!,aC hM!,cH!,.ref i!,cI!,Ei N ps aU_,cJ!,scope.kind=.function,cK!,.inr z,cL!,wo rows i,cM!,er.grow s1,cN!,DE X own e f,cO!,cs.length,cP!,ds.map some++List.replicate (hQ! - g_) none,cQ!,Ew d d',cR!,HY h,cS!,λx hx=>(by simp[W0]at hx),cT!,mkHash P w k,cU!,.int o.h,cV!,λb h=>.inl h,cW!,bQ h2,cX!,dE d es ep,cY!,hF yy ta wa out,cZ!,Sa prog w A s a0 kd r,c0!,.ref c,c1!,seqObj "list" #[] 0,c2!,.int i t,c3!,a==sysModules,c4!,aS hb,c5!,X.s₀.heap.objs.size,c6!,srt U,c7!,Bool->Hp->Prop,c8!,.int k,c9!,IL _ rfl]
def z'cc:String:=z [ca_,(by rw[q];simp),cb_,H p=none,cc_,Ao KF G d v,cd_,f ρ=some d,ce_,B<=B',cf_,D->Ae->Option Ae,cg_,.str s,ch_,Av d=true,ci_,(∀b,M b≠none->M' b=M b),cj_,List DictEntry,ck_,λz=>?_,cl_,mup_ne hb,cm_,ak!<big,cn_,ME X own o fo,co_,Int->Addr,cp_,((k:Nat):Int),cq_,Str×V,cr_,.ref C0,cs_,U.length,ct_,List Expr,cu_,(x==("__classdict__":Str))=false,cv_,X.mg x=none,cw_,yj j,cx_,.dct (xs.zipIdx.map λq=>fv_) f_,cy_,((0:Nat):Int),cz_,"_law_ops",cA_,f1 Bm al!,cB_,x.length,cC_,IF hk,cD_,Aq q_,cE_,ps.zip us,cF_,⟨us,[]⟩,cG_,.none,cH_,"_law_world_here",cI_,Cj X scope NF ix,cJ_,∀y∈bN!,y.2≠.cell,cK_,some d,cL_,Aa i,cM_,("parents",.fn a1),cN_,(by kernel_rfl),cO_,some b,cP_,(by intros;kernel_rfl),cQ_,q2 ρ M R,cR_,[O_,ab!,aY_,L!,gr_],cS_,Fo ks k,cT_,ep+1,cU_,(d,x),cV_,kget h1 d,cW_,upd H s.heap.objs.size zr!,cX_,[e,it],cY_,bB_<64,cZ_,[o_,x],c0_,By X.K G,c1_,tx.length,c2_,Value.none,c3_,LL _,c4_,(f_:Nat),c5_,λp hp=>?_,c6_,.inl rfl,c7_,ha J s Z H _ I h,c8_,[some gD_,aF_],c9_,(false,eval a X.env)]
def z'd:String:=z [da!,∀x,foldedSetIterable iter X.env x=pure x,db!,some (i:Int),dc!,xs.isEmpty,dd!,[x,y],de!,fC (.int 4),df!,Sf X.K C,dg!,.ref a,dh!,Ab C_ Ac,di!,backToKw pos sa!,dj!,(false,eval e X.env),dk!,vs++b9,dl!,Do X.K fd ps ds,dm!,Ar b9 ds,dn!,Aq C_,do!,"left_out",dp!,.ref b,dq!,IF a!,dr!,[z_,lN!],ds!,lZ bL,dt!,Fh t,du!,.inr rfl,dv!,l1_=true,dw!,⟨t,rfl⟩,dx!,Il t,dy!,(d::ds),dz!,.lst vs,dA!,Fu X.K r g,dB!,s1.trans s2,dC!,.pre x b,dD!,[bp_,x],dE!,k _ G H aN! Ao.bl,dF!,Ae->Option Fl,dG!,Cg a=some ka,dH!,us.toArray,dI!,D->Prop,dJ!,.tup bR_,dK!,(nw_).Nodup,dL!,some o.v,dM!,[O_,ap!,aY_,some x.v,some x.nm],dN!,Kd M w O W wt wn qa,dO!,rs.map Ax,dP!,Aa 0 ρ=some bU_,dQ!,(qa i,Cq.lst eI!),dR!,.nx aj,dS!,(Str.ofString "ours",.int yy),dT!,iN _ _,dU!,fr b hb,dV!,Of t M a W Q,dW!,(s.heap.update a Be!).push (seqObj "tuple" us.toArray 0),dX!,[a,b,c],dY!,Ar xs us,dZ!,Addr×Obj,d0!,Zl X pn f,d1!,Z.set i bX!,d2!,eval e X.env,d3!,.BoolOp .And (b::rest) pos,d4!,cZ c7_ ?_,d5!,.BoolOp .Or qw! pos,d6!,.bl true,d7!,Ll i,d8!,.lst bp!,d9!,aL (d:=.fn w) rfl]
def z'dd:String:=z [da_,f2 b hb,db_,"_law_script",dc_,.dK h1,dd_,some W_,de_,.fn t.A0,df_,aX ar_,dg_,Jm false,dh_,λ_=>rfl,di_,⟨rfl,rfl,rfl,rfl⟩,dj_,λ_ _ _ _ _=>k!,dk_,Eb X.prog X.w X.K X.mg X.base CX k f fd ps sp,dl_,Ih CX X E,dm_,jA y!,dn_,aA 7,do_,.type T,dp_,aE (aW t_),dq_,Ab g! lr_,dr_,Gs t,ds_,.str Y_,dt_,.type "list",du_,([]:List Keyword),dv_,⟨_,e,rfl⟩,dw_,Option Addr,dx_,.tup ds,dy_,RW t M0 M r f p kf kp,dz_,D×D×Bool,dA_,⟨rfl,h⟩,dB_,.fol x b,dC_,k _ G H aN! Ao.int,dD_,sgn h n,dE_,λd hd=>?_,dF_,JI cz,dG_,Ao X.K H d v,dH_,Sum.inr y,dI_,.int m,dJ_,[o.v],dK_,ops.length<64,dL_,λq hq=>?_,dM_,.int (k:Nat),dN_,some s,dO_,[R!,aU!,e0!,dN_,gE_,gG!,jh_],dP_,MA X own aq! fs,dQ_,mup M p e4!,dR_,[b,c],dS_,dL j_ hA.ob hF2,dT_,j - 1,dU_,(a,b),dV_,shn W x,dW_,II.mp z,dX_,.str tx,dY_,xs++ys,dZ_,Z.length,d0_,[q!,g7!,g7_,ks!,aF_,none],d1_,Ar vs us,d2_,List Stmt,d3_,.BoolOp .And qw! pos,d4_,.BoolOp .Or (b::rest) pos,d5_,h.p j hj,d6_,rawInt T,d7_,eval o X.env,d8_,[q!,aF_,kE_],d9_,rv.length]
def z'e:String:=z [ea!,⟨_,c9!,rfl,rfl⟩,eb!,binaryOp .Add,ec!,⟨bj,H1,km af,q⟩,ed!,.Compare a [op] [b] pos,ee!,["sign"],ef!,s.heap.push hB_,eg!,.ins C dx fs,eh!,"operations",ei!,eK T.T3 rfl,ej!,getMethod ov m pl,ek!,bF T.U7 T.X4 k!,el!,"place",em!,us++ds,en!,.Call so! aq! [] pos,eo!,wl lC_,ep!,JT sG!,eq!,.builtin id,er!,bF T.U9 T.V8 k!,es!,.str Y_,et!,f1 Bm h7_,eu!,.bool true,ev!,Bi V!,ew!,[cH_,bj_],ex!,Str×Addr,ey!,(n,k),ez!,aE (aW fQ_),eA!,Dw t,eB!,[cz_],eC!,V.ref a,eD!,At.refl G,eE!,Hn W n bi,eF!,s2.trans s3,eG!,fs ρ,eH!,Kn W x,eI!,W.num i,eJ!,[iF!],eK!,f1 ρ=some a,eL!,[aX_,aX_,aX_,aX_],eM!,Av d'=true,eN!,[none],eO!,s.cps.toList.zipIdx.map iV!,eP!,W.num a,eQ!,Qt W pre,eR!,LJ ?_,eS!,.bl gn!,eT!,KF.In h,eU!,IN rfl,eV!,Iy P w s.heap k u,eW!,h1.map c_,eX!,l.map c_,eY!,MA X own es fs,eZ!,.fn wn,e0!,some p,e1!,A.units+1<cLine,e2!,[ac!,aU!,e0!,dN_,gE_,gG!,y],e3!,(by rw[IK];unfold big;omega),e4!,.dct [] 0,e5!,Sb W B,e6!,λc=>?_,e7!,(i:Int)+1,e8!,IE hi,e9!,((cp!).length:Nat)]
def z'ee:String:=z [ea_,(b,o),eb_,(show false=true from hs),ec_,behindInMarks op b=false,ed_,.int 2,ee_,Ad s_ Ah,ef_,Dh t,eg_,bV (cI fG),eh_,I.tok _,ei_,ax.atName,ej_,Au t.B6 "texts" g!,ek_,(x::xs),el_,wl (Aa 8),em_,PA X aq! t,en_,I.hok.fresh p!,eo_,Cz t,ep_,Fw Ac,eq_,aE (aW K!),er_,Gh (Go s_),es_,if(du_).isEmpty then 0 else 1,et_,.str "rows",eu_,.ref fa,ev_,At H H',ew_,Aq mh_,ex_,List up_,ey_,aB k! lP_,ez_,HR _ hy,eA_,Ku X scope cl G2.objs.size fW_ s2 H2 fp,eB_,(by simp[e]),eC_,upd H p o,eD_,i∈own,eE_,r1.mono s2.g,eF_,("rows",.fn a2),eG_,(by rw[z.1,z.2]),eH_,mup_ne Y,eI_,(λz=>nomatch z),eJ_,.Name x p2,eK_,wl f1,eL_,if Kn W a then a else binn,eM_,(by show A.units+1+Cw xs<cLine;omega),eN_,.int m,eO_,n+1,eP_,MZ ..,eQ_,JX gz rfl rfl ?_,eR_,.Tuple lu n1 tp,eS_,λx hx=>hd x bt_,eT_,h.Ns mainGlobals mg,eU_,IG c!,eV_,.inl cK!,eW_,Gm h1,eX_,Bool->Mh->Prop,eY_,.fn wt,eZ_,.inr X!,e0_,rs[k],e1_,W.rows.length,e2_,Sj X.K H dx,e3_,st.grow x1 m1,e4_,some I_,e5_,mup M p (.dct (Bf h1 y v) (Hq h1 y ep)),e6_,[some cg_],e7_,[some dJ!],e8_,hs S h,e9_,.int yy]
def z'f:String:=z [fa!,wpS_get ?_,fb!,(show i=j by omega),fc!,[o_,.lst fb_],fd!,Hist fc_,fe!,HX _ (HX _ c!),ff!,l.map f,fg!,By KF G,fh!,aL (d:=bp_) rfl,fi!,List α->Prop,fj!,∀b∈frA bC_,∃o,n.get? b=some o,fk!,z▸hb,fl!,tupleKind a1_,fm!,.ref x,fn!,.frz o u,fo!,hz b,fp!,⟨S!,lk _ M1 k⟩,fq!,hs S k,fr!,PT X a tA,fs!,h.s j hj,ft!,hp.objs.size,fu!,λ_ _=>rfl,fv!,some x,fw!,.int (i:Nat),fx!,(by simpa using hb),fz!,(∀b∈fp,H' b=none),fA!,U.map Op.v,fB!,i / j,fC!,.ref D0,fD!,f2 Al w_ C!,fE!,fC rP_,fF!,bM bZ dW rfl T.R7 dI bf_,fG!,Dy t.B7 1 (Et t) Ac,fH!,Ai k A,fI!,aI am_ aO,fJ!,fC b5!,fK!,An 4 (wl (Lq H_ Cm (Bi al_))),fL!,X.mg x=some P!,fM!,envOfC qual scope s.heap.objs.size f cd,fN!,λ_ _ _ _ _=>a1c,fO!,.int a t,fP!,wl C!,fQ!,Fu.m bP,fR!,aB K! aH,fS!,JF hb,fT!,Bz 7,fU!,wl (fC et_),fV!,Qi al.heap H,fW!,cr.sub x c h,fX!,.ListComp d7 uL_ scope pos,fY!,Bf l d v,fZ!,∀y∈bN!,y.2=.free->uU_,f0!,eh _ I2.lt,f1!,some in_,f2!,Qv rows i p s bi,f3!,λ_ _ _ h=>h,f4!,fa ρ,f5!,ft ρ,f6!,ad r,f7!,.dir b,f8!,if _ then _ else _,f9!,D×D×Bool->Prop]
def z'ff:String:=z [fa_,n<=a0.size,fb_,ms.map Op.v,fc_,S++ms,fd_,(a,oa),fe_,Ho g,ff_,⟨by rw[IK];unfold big;omega,?_⟩,fg_,((hs S yy).length:Nat),fh_,es.map jc!,fi_,s.heap.FunFrames base bC_,fj_,λz=>hb p0!,fk_,.str x t,fl_,.own a,fm_,aS (bY q hn),fn_,λb=>RP,fo_,Pl t M yy a l S am,fp_,∀o∈S,o∈U,fq_,.int (i:Nat),fr_,.UnaryOp .Not a pos,fs_,X.wish E,ft_,.fn (a j),fu_,.lst kP_,fv_,(D.int oC!,q.1),fw_,hf b hb,fx_,aL (d:=q1) rfl,fy_,ha pos J s Z H _ I h,fz_,List V->Hp->VK->Prop,fA_,2 ^ 64,fB_,lE ns a l y3 y4 y5 y6 y7,fC_,i != 0,fD_,f2 Al w_ al_,fE_,f2 Al w_ az_,fF_,"names",fG_,Bk t,fH_,PA X es t,fI_,λρ M R=>R true M,fJ_,Ai J_ X.A,fK_,Ad H_ Ah,fL_,λ_=>Aw,fM_,Ke N vs,fN_,Au t.B5 "taken" g!,fO_,aT nd rfl h! eW,fP_,Tn C!,fQ_,aC fG,fR_,Rx xs lo hi,fS_,mV T,fT_,[db_,bZ_],fU_,λ_ _ _=>False,fV_,NameKind.free,fW_,NL++NF,fX_,G2.objs.size,fY_,(λv z=>by cases z),fZ_,∀cl C ao bo fp,PG bN_ tg g,f0_,kput_len _ _ _,f1_,Kj own Z G H,f2_,Bn.refl er.sub,f3_,D->D->Option D,f4_,a∈W.its,f5_,DT X own a ft,f6_,sub.free hp,f7_,x∈W.its,f8_,W.txt i,f9_,(s,c,true)]
def z'g:String:=z [ga!,λq hq=>?_,gb!,s.cps.toList.zipIdx.map dD_,gc!,s.cps.toList.length,gd!,Bn.laid x.sub hp,ge!,IS.mp Y,gf!,(backTo ai lA_).any c_=false,gg!,Ak X.K H ds vs,gh!,Ao X.K H d' v',gi!,List bQ_,gj!,.Name y py,gk!,.tup [nk_,a,b,gb_],gl!,(by size_fits),gm!,s.heap.IsTuple l2 ys,gn!,k=="undo",go!,BA s.heap l1 l2,gp!,α->Prop,gq!,∀o∈ops,DG o.d,gr!,some gq_,gs!,wl fa,gt!,.dct [] 0,gu!,(show u=.none from hx),gv!,ks.Nodup,gw!,(none,()),gx!,(x::os),gy!,wl f,gz!,.int o.tm,gA!,Qq P w KF own G H Z ρ M,gB!,k3 a b c,gC!,Xk X.prog X.w X.K r gm,gD!,HR _ HV,gE!,.dct h1 ep,gF!,cF h5,gG!,some (.int (a:Nat)),gH!,Cg y,gI!,λ_=>true,gJ!,mup M s.heap.objs.size e4!,gK!,W.its++[D.tup ba_],gL!,(by unfold Yv;omega),gM!,e≠it,gN!,[dS!,Ap!],gO!,ca h,gP!,mup M q bA!,gQ!,x - 1,gR!,∀o∈ms,o.h≠yy,gS!,L'.length,gT!,.done Bd!,gU!,us.zip us,gV!,Nl M X M1 X1,gW!,A.frames=some bC_,gX!,∀b,i!<=b->n.get? b=none,gY!,s.heap.update T (Obj.mapFields (·.setIfInBounds 3 c2_)),gZ!,.inr a0,g0!,λ_ z=>z,g1!,out b o e hx,g2!,.own x,g3!,H a=none,g4!,Qi h H,g5!,IT ho,g6!,(∀x c,X.env.cells.lookup x=some c->c≠b),g7!,some eN_,g8!,λb o e n hb hx=>?_,g9!,TX X M0 G0 F0 own ba q1]
def z'gg:String:=z [ga_,⟨G,ρ,_,er,e1,vu!⟩,gb_,.str s,gc_,f2 ρ=some b,gd_,SR KF own G0 F0 G H Z ρ,ge_,starEach (e::[]) X.env=dj!::starEach [] X.env,gf_,V.ref p,gg_,Ak X.K H es ws,gh_,Be v' u',gi_,.int k,gj_,.tup [.str "put",a,b],gk_,Str.ofString "",gl_,s.heap.IsTuple l1 xs,gm_,IB (by dsimp only[_root_.List.length_cons];omega),gn_,ops.map Op.v,go_,(aY!).map Op.v,gp_,DG o.d,gq_,.lst gn_,gr_,some o.nm,gs_,List Ts,gt_,(show v=.none from hy),gu_,List MK,gv_,Kg ks k,gw_,(o::os),gx_,hp.map _,gy_,Hg P w KF G h1 es,gz_,KG _,gA_,f ρ M R,gB_,Mh->D->D->Option D,gC_,MT X own a ft,gD_,Ax q,gE_,some (.lst dO!),gF_,h3.typeIs,gG_,q.1=x,gH_,W.its.length,gI_,λK hK=>hK,gJ_,.lst [],gK_,Ep own Z H1,gL_,q.2.1.map c_,gM_,h.ch k,gN_,[dS!,Ap!,(Str.ofString "waiting",.fn wa)],gO_,kl.map λh=>(D.int h,D.fn gO!),gP_,a0.toList,gQ_,ms.map Op.nm,gR_,Int×Int,gS_,seqObj "list" us'.toArray n',gT_,us.toArray.zip dH!,gU_,(gU!).zip ds,gV_,(BD!).map kf2,gW_,env.frame=some L,gX_,frA bC_,gY_,o.ExactDict,gZ_,(show h.get? a=some _ from x),g0_,∀b u,h.get? b=some u->h'.get? b=some u,g1_,λ_ q=>q,g2_,Ig kk! P w KF mg base N qual scope f cd A outer s H E,g3_,hx b z,g4_,I.ok.bs b o e,g5_,b∈X.ex\/c5!<=b,g6_,Js X.prog X.w H' h',g7_,some (.fn l),g8_,uq b o e hx,g9_,λv M1 k=>md aI! M1 k]
def z'h:String:=z [ha!,frs X.stack,hb!,λz=>hc p0!,hc!,full.toArray,hd!,aL (d:=fq_) rfl,he!,∀d6,isTrue e X.env d6=(do let v <-d6;standAt e.pos;holding [v] kF_),hf!,h.h hj,hg!,.fn (a j),hh!,ok.frames,hi!,PS X st t,hj!,he J s Z H _ I h,hk!,St->Hp->Prop,hl!,e1_<5000,hm!,PassesOwn d_ X.A X.env X.xe,hn!,(xs.take i).zipIdx.map λq=>fv_,ho!,pyNext bZ!,hp!,Bp M w Ow W,hq!,λb o hb e=>kk b o fx! e,hr!,X.mg "range"=none,hs!,I7.unpinned,ht!,hb J s1 Z H1 _ I1 q1,hu!,BE r ta tb,hv!,(by simpa using hp),hw!,lastMarks [op,ip] dR_=false,hx!,"_law_number_here",hy!,(by simp only[HZ];omega),hz!,if i<0 then -i else i,hA!,r'.length,hB!,HP ?_,hC!,Mg (Hu t) 0 ee_,hD!,Oo 0 1,hE!,(show False from r),hF!,True.intro,hG!,λ_ _ _ _ _=>a6e,hH!,A.under (.builtin "type.__call__" ⟨.ref C::us,kw⟩),hI!,List sd_,hJ!,.List es pos,hK!,aT nd rfl h! as!,hL!,Jm true,hM!,aN aJ aM X_ aD n_,hN!,aB as! aH,hO!,Af fK! (Ap (Gb (Ck (Cp ss_)) (wT (w2 fL_ (Lr q_ am!) (wl fJ!)))) (Bq C_ am! lB_) Bj),hP!,IV.mp nd,hQ!,N.length,hR!,KY sG!,hS!,kG (lB T) b! rfl,hT!,.ref t,hU!,⟨_,ho,rfl⟩,hV!,wl sB!,hW!,aC sQ!,hX!,Au t.B5 "ours" g!,hY!,"fresh",hZ!,Builtin.Tuple.tupleExact _,h0!,some i,h1!,lA y!,h2!,aC h1_,h3!,aK (gM T) b! rfl aT_,h4!,Cj.cons (j:=0) Cj.nil,h5!,(show(1:Int)>0 by decide),h6!,.ref l,h7!,.dT h1,h8!,⟨e,?_⟩,h9!,HP fin]
def z'hh:String:=z [ha_,λb hb=>?_,hb_,IP _ z,hc_,TP X J Z Q,hd_,PE X e t,he_,.bl false,hf_,its.toList,hg_,⟨ok.mod,ok.kind,ok.glob,ok.blt,hh_,ok.inj,ok.has,ok.cab,ok.hd,hh!,ok.stk,ok.exf,ok.bs,ok.bsz,ok.noex,ok.exfs,ok.funs,ok.frf⟩,hh_,ok.above,hi_,(st::rest),hj_,.Return kN! pos,hk_,[v,ov,iv],hl_,⟨.int _,H,aQ_,G!,q⟩,hm_,h.nob cP_,hn_,Nat->Heap->Prop,ho_,It->Hp->Prop,hp_,λb hb=>(fw_).1,hq_,Gl X "range",hr_,HX _ z,hs_,.int (j:Nat),ht_,∀o∈U,o∈S j,hu_,(c6!).map Op.v,hv_,Fc X (compareOp ip) r',hw_,.Compare a [op,ip] dR_ pos,hx_,"_law_at",hy_,Cp (fT (Mf "tuple" w_)),hz_,.int n,hA_,K.In s.heap,hB_,W.emptyDict,hC_,W.instObj C i!,hD_,Iw f v fs,hE_,H a=some eg!,hF_,nX rfl,hG_,Au t.B6 "rows" g!,hH_,Ab aJ_ Ac,hI_,Cj.cons (j:=1) Cj.nil,hJ_,aC aI_,hK_,"number",hL_,.Call so! [] [] pos,hM_,f2 Al bI! A_,hN_,Str->Option NameKind,hO_,((p,w)::P.zip vs),hP_,wl lD!,hQ_,"outline",hR_,bF T.U8 T.W4 k!,hS_,aN aJ aM aI_ aD n_,hT_,wl sx!,hU_,⟨_,jg,rfl⟩,hV_,(by simpa using hv),hW_,((sIx n 0 lo:Nat):Int),hX_,.ref sl,hY_,bF T.U8 T.W5 k!,hZ_,HS ⟨_,rfl,HS h⟩,h0_,aC (aA 8),h1_,aN aJ aM at! aD n_,h2_,aI X_ aO,h3_,ad_<=sizeLine,h4_,bF T.U7 T.W9 k!,h5_,[.ref p],h6_,upd H l bi_,h7_,Ad U_ Ah,h8_,f2 Iq H_ C!,h9_,backTo ai tP_]
def z'i:String:=z [ia!,l.most=some n,ib!,List.Pairwise.nil,ic!,⟨[u],[]⟩,id!,Array DictEntry,ie!,Eg st,if!,HR _ hp,ig!,(by rfl),ih!,t.Nothing,ii!,flt b hb,ij!,v.headD .non,ik!,k.length,il!,⟨B8,B9,C1,C2,C3,C4,C5,C6,C7,C8,C9,D1,yp,yq,yr⟩,im!,Io t M r f p xs,in!,Aa 0 ρ=some in_,io!,fi ρ=some y,ip!,λ_ h=>.inl h,iq!,Bn G H G' H',ir!,(by show 3<=1000;decide),is!,λb z=>?_,it!,lW hN hv hd bz,iu!,(∀v G' H',Bn G H G' H'->Ao KF G' d v->Q v H'),iv!,[(Str.ofString "following",D.fn f),(Str.ofString "preceding",D.fn p)],iw!,ad iw_,ix!,⟨x,rfl,?_⟩,iy!,V.ls x b,iz!,DA X own es fs,iA!,DA X own aq! fs,iB!,bK sub qa,iC!,.fn (ad .ob),iD!,i∈W.its,iE!,.type "NoneType",iF!,.Name x p2,iG!,bs.map Value.bool,iH!,λx gj hy=>?_,iI!,starEach (a::[]) X.env=c9_::starEach [] X.env,iJ!,(by rw[hd];simp),iK!,Ak KF G ds vs,iL!,II.mp z,iM!,II.mpr rfl,iN!,Ew wz! wz_,iO!,∀(us us':l_),Ar vs us->Ar ws us'->∀(j:Nat) u u',us[j]?=some u->us'[j]?=some u'->SeqAt.EqAt A.in1 s u u' iN!,iP!,nN rd re rv az (h us us' rv az),iQ!,kN ds es hl,iR!,32<=c,iS!,⟨.bl _,H,I,rfl,q⟩,iT!,cs.map λ_=>.bl true,iU!,x.cps.size,iV!,sgn h m,iW!,.int v,iX!,λx hx q hq=>?_,iY!,ZipApart z TI TO i1 i2 l1 l2,iZ!,IsPair s.heap TI (.ref i1) (.ref i2),i0!,s.heap.IsTupleIter i1 l1 k1,i1!,(∀c ob,c≠z->c≠TO->c≠i1->c≠i2->s.heap.get? c=some ob->h'.get? c=some ob),i2!,HP (SF ?_),i3!,IL _ rfl,i4!,(∀b,b≠p->M' b=M b),i5!,wl fb,i6!,fo ρ=some x!,i7!,W.keepIn KF W_=true,i8!,[root,binn],i9!,λh=>?_]
def z'ii:String:=z [ia_,ns.map .int,ib_,bR eY eZ tW! aD,ic_,λv _=>v=.bl true,id_,aC (sY (n:=9) rfl),ie_,ForInStep.yield r,if_,cC N! bE K! aK! n_,ig_,t.NotThere,ih_,names.map λ(n,k)=>if mm! then(n,NameKind.cell)else ey!,ii_,Ab uM! Ac,ij_,(u++n::v),ik_,eh _ (rm p hp),il_,∀a vs,Ex KF H a vs->Ex KF H' a vs,im_,.str i,in_,.fn r,io_,upd H p dz!,ip_,ρ.length,iq_,∀j∈ix,j∉own,ir_,λx hx y hy=>?_,is_,if x=n then[]else W.txt x,it_,fb ρ,iu_,f2 g fa fb,iv_,.row x b,iw_,.nm x,ix_,⟨G1,ρ,d,cM!,e,vu_⟩,iy_,∀q,Hw V q->bg q=ad q,iz_,oN h.ok,iA_,Do X.K fd ps [],iB_,Bn.laid sub hp,iC_,mup_ne h2,iD_,(U++f9_::v),iE_,setT W i iD_,iF_,List Bool,iG_,[ba!,bq!,vY!],iH_,Bn.refl s2,iI_,aE!<=16,iJ_,er.grow x,iK_,λj hj=>?_,iL_,Ls eE!,iM_,Ex X.K H a vs,iN_,us.toArray.size,iO_,az.length,iP_,kS ds es hl,iQ_,c<=126,iR_,fs ρ=some ds,iS_,.ref ad,iT_,cs.map λ_=>D.bl true,iU_,ys.map (·.length),iV_,.tup [nl!,a,.int p,.int v],iW_,.tup bR!,iX_,⟨_,c9!,rfl⟩,iY_,IsZip s.heap z TI TO .none,iZ_,IsPair s.heap TO p q,i0_,s.heap.IsTupleIter i2 l2 k2,i1_,.ref z,i2_,k==k',i3_,[nt!,.int o.n,.int o.tm,o.d],i4_,Mt .str aY! [],i5_,Iz xs ys,i6_,A.deeper (envOfC x aU_ s.heap.objs.size ag ah),i7_,mF l c k,i8_,(nO!).Nodup,i9_,ks.length]
def z'j:String:=z [ja!,Ml P w h es ks,jb!,(by show 4<100;decide),jc!,(·.key),jd!,Ms s.heap a es ep,je!,Pu fo ρ M x!,jf!,Pu f1 ρ M a,jg!,Pu f ρ M d,jh!,At G G',ji!,some (.lst yu!),jj!,dE a es ep,jk!,Ip KF G fs vs,jl!,.refl st.or.sub,jm!,(f8_).map Co,jn!,st.grow x1 m1,jo!,MT X own c ft,jp!,.int (aE_:Nat),jq!,⟨⟨o,q o z1,z2,z3⟩,z4⟩,jr!,By X.K G x v,js!,dictGet a u>>=_,jt!,!Ew d d',ju!,.lst ((y2!).map Ax),jv!,⟨.bl _,H,I,rfl,?_⟩,jw!,nZ I r2 r n2,jx!,(if _<=big then _ else none)=_,jy!,(x,p)∈W.rows,jz!,Aa 2 ρ,jA!,aL h0,jB!,.lst oj!,jC!,s.heap.push {cls:=.type "dict",data:=.dict #[]},jD!,p1 rfl,jE!,KM.mpr n_,jF!,Ep own Z H,jG!,⟨G',ρ,M',R,sr.grow x m,r,k1,k2⟩,jH!,Db C m M d,jI!,Iz oy_ jI_,jJ!,HS (HP (RT ho hd ?_)),jK!,ms.length,jL!,kl.length,jM!,hA.nob hM1,jN!,.Constant (.str s0) n0 p0,jO!,m - 1,jP!,if h=o.h then q else ca h,jQ!,mirror_perm _ _ _ _,jR!,ms.map λo=>oR_,jS!,setPending ac ((AR_).push jR_),jT!,HR _ hz,jU!,some oU!,jV!,⟨ho,rfl⟩,jW!,f1 ρ=some b,jX!,ku.zip us,jY!,(a,seqObj "list" #[] e1),jZ!,[ac!,aF_],j0!,(jX!).zip ds,j1!,hk p hp,j2!,.int (1+fg_),j3!,(by rw[he];rfl),j4!,σ.toList,j5!,h'.objs.size,j6!,.ListComp d7 uL_ scope ai,j7!,(some (v x)::rest),j8!,(Sum.inl a:Key),j9!,(Sum.inr a:Key)]
def z'jj:String:=z [ja_,plc es cT!,jb_,os.map Op.nm,jc_,hp x HV,jd_,(by rw[hp.length_eq];omega),je_,kget h1 y,jf_,⟨rfl,hg _ hK⟩,jg_,Pm ft ρ M false,jh_,some dM_,ji_,(u++o::v),jj_,XM M G H M' G' H',jk_,its.map λi=>(i,g i),jl_,W.rows.map Ax,jm_,w2 gm fa fb,jn_,⟨G1,ρ,M1,R,jn!,r1,n7!⟩,jo_,some cp_,jp_,Ax rs[k],jq_,qZ I sub r hk,jr_,upd H a (dE a bh yQ!),js_,zD hu I m sub e r hk λo s' I' ho=>?_,jt_,λK hK=>?_,ju_,λw hw=>nB I r1 rx n1 r2 r n2 (by have:=gW X.A;omega) w sR!,jv_,(by simpa using uf),jw_,(show its.toArray.any e2_=its.any e2_ by simp),jx_,IB (by simp[big];omega),jy_,wl fx,jz_,.ext x2,jA_,(p,h1,ep),jB_,Dm M1 d,jC_,some gk!,jD_,IF (JF h.1),jE_,W.its.map λi=>(i,D.fn (qa i)),jF_,s.root hb,jG_,[.Subscript o i p2],jH_,Bd N ps.length q,jI_,cs.map S_,jJ_,hs os h,jK_,⟨hp,g,d,tk,os⟩,jL_,[o_,o.v],jM_,nQ hA,jN_,Array Keyed,jO_,some k,jP_,II.mp y,jQ_,jK!<64,jR_,(0,a0.size,0),jS_,Hh Mc ms,jT_,Value.int a t,jU_,[R!,jU!],jV_,Nj (Mt .str aZ_ []) aZ_,jW_,(by rw[HZ,KA];omega),jX_,(a8_).length<5000,jY_,II.mp hb,jZ_,ku.toArray.zip dH!,j0_,(Bg_).map fe_,j1_,hk q bf,j2_,.tup [e9_,j2!],j3_,BF W x,j4_,kf2 d,j5_,∀v M',Md t M yy a S X M'->R v M',j6_,(c1_:Nat),j7_,.inl i,j8_,.inr x,j9_,noteFrame aw_ env]
def z'k:String:=z [ka!,JX he hd Y ?_,kb!,g y hy,kc!,⟨_,rfl,r⟩,kd!,List Key×V,ke!,List Key×Addr×Value,kf!,wl cL_,kg!,Dg P w H h a o,kh!,Kp av (frA X.stack) s.heap h',ki!,DC (H x),kj!,∃u,h'.get? e=some u,kk!,Zk base P w,kl!,upd H x o,km!,(fo!).mpr cK!,kn!,AV X.K C,ko!,X.env.scope.kind,kp!,X.env.frame,kq!,X.calm=true->ko_=none,kr!,AllBare g',ks!,some (.int (m%5)),kt!,I.base.keep b o e n hb hx,ku!,nG (vx _ rfl) a_,kv!,XR X.prog X.w X.K M0 G0 F0 E,kw!,(e9!:Int),kx!,⟨#[],p2!⟩,ky!,hs U k,kz!,U.filter λo=>decide (o.n<=max kw! qc_),kA!,(by simpa using b1),kB!,hv.map D.int,kC!,PW X e t,kD!,SP X J D,kE!,⟨v,H,I,r,h⟩,kF!,.bool b,kG!,.BoolOp .And [a] pos,kH!,Nat->Addr,kI!,.BoolOp op [a] pos,kJ!,.inl h,kK!,s.heap.IsList l ak,kL!,⟨ae,H',I.unwish,q⟩,kM!,.Expr e pos,kN!,some e,kO!,.type "enumerate",kP!,assignEach es X.env,kQ!,PG X tg g,kR!,Int->Int->Int,kS!,(∀b∈fp,Eo X J H b),kT!,hx x HV,kU!,.lst q2!,kV!,2 ^ 62,kW!,s.heap.push {cls:=.type "range",data:=.fields #[.int lo t,.int hi u,.int 1 v]},kX!,.fn (qa q1),kY!,s.heap.push {cls:=.type "range",data:=.fields #[.int lo t,.int hi u,.int c v]},kZ!,((min k n:Nat):Int),k0!,Fc X (binaryOp op) r,k1!,f c2! (.int j u),k2!,rI Xf λi j=>.int (i*j),k3!,some fw!,k4!,rI AY λi j=>.int k4_,k5!,lE ns a l k3! y4 y5 (some eN_) (some hs_),k6!,(X.env::X.outer),k7!,decide (i<j),k8!,compareOp .LtE,k9!,Ag 2 dx! (Ab ry_ (Ab rz! Ac))]
def z'kk:String:=z [ka_,(nomatch e),kb_,(by simpa using Y),kc_,λ_=>True,kd_,H b=none,ke_,W.instObj C dx,kf_,fs.map c_,kg_,⟨o,ho⟩,kh_,λ_=>⟨trivial,aL rfl⟩,ki_,e=x\/H e=some g2!,kj_,λx hx=>?_,kk_,[some (Vs o),q!,aY_],kl_,aS (hm b _ q λz=>z),km_,DP h H,kn_,ko_=none,ko_,X.A.handled,kp_,p.2.data,kq_,I.ok.stk,kr_,I.freeC x c e,ks_,λx c e=>?_,kt_,I.base.free b o e n hx,ku_,ig x hm,kv_,PE X e (Qw X.prog X.w X.K M0 G0 F0 own f),kw_,o.n - 1,kx_,I.hok b u e,ky_,Ae->Prop,kz_,Int×Tok,kA_,full.length,kB_,Inv X J Z H' s',kC_,starEach es X.env,kD_,List.range 16,kE_,some fw!,kF_,truthy v,kG_,.BoolOp .Or [a] pos,kH_,Mk X.K C f,kI_,.IfExp c a b pos,kJ_,s.heap.IsListIter it l i,kK_,λ_ z=>.inl z,kL_,swapsWith e none pos.line X.env=pure false,kM_,IM.mp ho,kN_,(∀k o,o∈S k->o∈S' k),kO_,Hp->Prop,kP_,chl W.rows x,kQ_,.Name x k8,kR_,I.pin p hp,kS_,CZ X J Z tg R,kU_,[D.tup [x,p]],kV_,hi - lo,kW_,lo+(i:Nat)*c,kX_,[.int 9,.int 9],kY_,PI X tg iter wi,kZ_,z.cps.toList.drop i,k0_,.BinOp a op b pos,k1_,some (AA ns),k2_,rI AZ λi j=>.int fB!,k3_,rI (λ_ j=>0<j) λi j=>.int (i%j),k4_,i ^ j.toNat,k5_,ixh rfl rfl j3,k6_,Ym X a bk_,k7_,Pz λi j=>.bl k7!,k8_,decide (i<=j),k9_,decide (j<i)]
def z'l:String:=z [la!,Pz λi j=>.bl k9_,lb!,Pz λi j=>.bl la_,lc!,"_law_items_here",ld!,mup rH_ l2 b0_,le!,its.toArray.isEmpty,lf!,["thing","limit"],lg!,fC rQ!,lh!,.str " ",li!,W.plainGet_of hg,lj!,yn o ho,lk!,{s with toks:=s.toks+1},ll!,["parts","checks"],lm!,.str "cut",ln!,aI aI_ aO,lo!,λ_=>none,lp!,Vp (Wc 1 Ah),lq!,PE X o ta,lr!,aC (pK aO),ls!,Au t.B6 "numbers" g!,lt!,An 8 (wl (f2 Bv s_ p5_)),lu!,Os P w K mg base A outer s H,lv!,"behind",lw!,e.frames,lx!,upd sl! x lw_,ly!,f2 Al fE_ A_,lz!,backTo pos sn_,lA!,backTo pos lA_,lB!,An 2 Fa,lC!,a0y (oV bI_ (lF (dF dm_ fS bJ! b3_ rfl))),lD!,f2 Al F_ al_,lE!,[hQ_,T_,"deed"],lF!,[aJ!,"ours"],lG!,[aJ!,a6_],lH!,bootBuiltins x=some eq!,lI!,bootBuiltins x=some do_,lJ!,.int c u,lK!,Ab lJ_ Ac,lL!,ws.length,lM!,aT nd rfl h! (aC (eJ at! eX (eC aD))),lN!,"message",lO!,(i:Int)+(m:Int)*1,lP!,Fz 1 [] (Go s_) F! aA! s2!,lQ!,Ab q_ an!,lR!,.Slice lo hi none p2,lS!,HT.sIx xs.length xs.length hi - HT.sIx xs.length 0 lo,lT!,"numbers",lU!,An 2 td_,lV!,V->List V->Hp->VK->Prop,lW!,.Subscript a b pos,lX!,z.cps.toList.length,lY!,a4v aD,lZ!,sliceBounds lo hi none n,l0!,[z_,aS_,"at",hK_],l1!,aB k! (aB t_ fR!),l2!,λx1 x2=>x1++x2,l3!,n<=sizeLine,l4!,wl a7!,l5!,An 3 (wl h8_),l6!,d.params.defaults=[],l7!,⟨aS!,[]⟩,l8!,λf vs=>PySem.call f vs,l9!,"_law_sibling"]
def z'll:String:=z [la_,decide (j<=i),lb_,ho J s2 Z H2 x y v u _ I2 r1 r2 q2,lc_,fC (.int 10),ld_,h1.isEmpty,le_,⟨H,I,q⟩,lf_,ad dC!,lg_,Tt s.heap x dx C mA,lh_,.str "~",li_,fT (Mf "str" w_),lj_,fT (Ea Kt Kt C! cA_ a6!),lk_,f1 Bm ee_,ll_,show Iw f v ((k,x)::r)=(if k=f then(k,v)::r else(k,x)::Iw f v r)from rfl,lm_,nV (zA (vQ rZ! (pJ (bH uR uT fF! aD m_)))) eg_ gS,ln_,Au t.B7 "preceding" g!,lo_,QG _ _,lp_,wl fE!,lq_,wl lg!,lr_,Ab aB! Ac,ls_,"sibling",lt_,λ_ _ _ _ _=>aY (show([bM!,bj_]:List Str).Nodup by decide+kernel) rfl h!,lu_,bM bZ dW rfl T.R7 dI (aI bg_ aO),lv_,[aJ!,aS_,el!,hK_],lw_,.ins C dx [],lx_,gR I hg hm ?_ a8,ly_,.str "redo",lz_,f1 Cn al!,lA_,starEach [] X.env,lB_,wl (fC v!),lC_,f2 Al F_ C!,lD_,Cj.cons (j:=3) Cj.nil,lE_,Ig CX P w K mg base N qual scope f ah A outer s H E,lF_,wl (Me Ah),lG_,Hv X eq! r,lH_,w2 Ce fN_ C_,lI_,Ja fN_,lJ_,Ag 1 (Cy t) an!,lK_,vs++ws,lL_,v+(n:Int),lM_,aI at! aO,lN_,wl sY_,lO_,(ak.toList.drop (sIx ak.size 0 lo)).take s1!,lP_,aB aL_ aH,lQ_,aC aK_,lR_,(by with_unfolding_all rfl),lS_,wl a5_,lT_,λb ob q=>HU _ q,lU_,b4c (a4t nd rfl h! aO),lV_,fT (f1 Cb bH_),lW_,Ag 2 (Cd t) bL!,lX_,Ab g! (Ab q_ dh!),lY_,aB t_ aT_,lZ_,[z_,"above",ls_],l0_,cR (qD dN),l1_,ax.endLine==ai.line,l2_,σ++its,l3_,kE (gU X_),l4_,ks.map kV,l5_,Bo (Ag 1 Ej an!),l6_,.call eu_ l7!,l7_,λr s'=>r=.ok (.ret eu!)/\OldK al.heap s'.heap/\s'.os=al.os/\AllBare s'.gens,l8_,.bool true,l9_,An 2 (wl t3_)]
def z'm:String:=z [ma!,Ai k callerA,mb!,.str "texts",mc!,w2 dg_ eo! ca!,md!,wl (fC mc_),me!,wT mc!,mf!,Bb 1 [2,3] (Gh (Fg (f1 Bm (Ad bI! Ah)))) F! fI_ (wl (Ci (Ad (f2 Bv F_ (Ci al!)) (Ad (f2 Al t3_ w_) (Ad (fC v!) Ah))))),mg!,"_law_name",mh!,W.fnOf x qual ie! a8! aU_ .none kV bv pm an ah ct,mi!,Option.none,mj!,aS (ne b _ e),mk!,aS (by simpa using hc),ml!,fC (.int 5),mm!,k==fV_&&env.scope.kind==.function&&env.kindOf n==some .cell,mn!,fC (.int 35),mo!,Inv X J Z H2 s2,mp!,fC uB!,mq!,Fw uF_,mr!,Aq lB_,ms!,(K_,Th us n),mt!,JP.mp nd,mu!,L2.Key×V,mv!,jF (aB aK! aH),mw!,[("following",.fn f),("preceding",.fn p)],mx!,dC (aK (wZ T) b! rfl (aB cG! (aB cG! aH))),my!,λi d q _=>?_,mz!,(a8_).map c_,mA!,(by show 1<=1000;decide),mB!,hw Z G H Q ρ d er e k,mC!,(mC_).resolve_right q,mD!,fC ay!,mE!,if x=a then l else W.txt x,mF!,("texts",.fn a3),mG!,Str.ofString "texts",mH!,⟨G,ρ,x,er,e1,λG1 H1 s1=>?_⟩,mI!,ad .par,mJ!,ad iv_,mK!,¬V.dm b x->kget k x=none,mL!,ad dB_,mM!,f1 g fs,mN!,(by rw[HZ,HZ];omega),mO!,bK sub qb,mP!,Kn W x,mQ!,mup_ne p1,mR!,Ae->Option mQ_,mS!,(hO b).mpr z,mT!,setT W i l,mU!,⟨o,Y,h2⟩,mV!,bs.all id,mW!,(f8_).map c_,mX!,some es!,mY!,[ap!,cf!,aU!,cO_,some tx,some dq,mW_,mX!,qt],mZ!,List.range n,m0!,hO.mono a!,m1!,Ab eK_ (Ab (wl f2) Ac),m2!,Vh ad V,m3!,x.sub.free hp,m4!,z▸hj,m5!,Y.ok G0 F0,m6!,swapsWith e (some eJ_) pos.line X.env=pure false,m7!,.If c b1 b2 pos,m8!,V.nn x eL!,m9!,z▸hi]
def z'mm:String:=z [ma_,An 3 (wl (Ci t4!)),mb_,wl (fC mb!),mc_,.str "numbers",md_,w2 Ce g! md!,me_,f2 Bv bH! C!,mf_,"_law_deed_here",mg_,Array ue_,mh_,wl (fC af_),mi_,w2 Ce C_ mb_,mj_,λm hm=>hm,mk_,λ_ _ _ q=>q,ml_,λ_=>Er,mm_,f2 Ev s_ mn!,mn_,Yt X scope cl,mo_,∀b∈fp,Eo X J H2 b,mp_,Mq NL.length ix Z,mq_,Gh (Fg al_),mr_,[z_,T_],ms_,.ref uT_,mt_,[(.non,.non)],mu_,xS (lY T) b! rfl hN!,mv_,Ao KF H d v,mw_,.obj t.B7 mw!,mx_,V.ref p,my_,W.rows.map c_,mz_,Yn nl ix ρ,mA_,f ρ=some b,mB_,λx=>?_,mC_,(im x).mp hx,mD_,setT W a l,mE_,k G' H' s',mF_,Str.ofString "rows",mG_,Str.ofString "numbers",mH_,Qu->Addr,mI_,ad .wri,mJ_,V.dm b x->kget k x=some (.fn mJ!),mK_,fT fa ρ,mL_,⟨G,ρ,.bl x,er,jH e1,vu!⟩,mM_,hL r l,mN_,(by rw[IR];omega),mO_,∀{a1 a2 a3 a4 a5 a6:Addr},(a9_).lookup m=none,mP_,.inr (.inr ⟨bb_,rfl⟩),mQ_,Option Int,mR_,.Subscript a lR! pos,mS_,sub.seq q,mT_,.builtin "isinstance",mU_,cs.zipIdx k0,mV_,bs[i]?,mW_,some vZ_,mX_,[ap!,cf!,aU!,cO_,some tx,some dq,mW_,mX!,some bs!],mY_,(.tup iG_,.str Y_,true),mZ_,bnd d ρ,m0_,.obj C fs,m1_,⟨ho,rfl,k⟩,m2_,GD X.K g bnd,m3_,V.nw x b,m4_,IF λz=>hx wh_,m5_,mup_ne hn,m6_,JG f0_ a!,m7_,ρ.set i (some bm!),m8_,.List es p2,m9_,eval bt! X.env]
def z'n:String:=z [na!,some iC!,nb!,IM.mp hx,nc!,Ig Ng P w KF mg base N qual aU_ ag ah A outer s H E,nd!,(by simpa using h),ne!,us'.toArray,nf!,Eh X.K H a vs,ng!,.int (i%j),nh!,Ad f Ah,ni!,b6.lookup y,nj!,cs.map λ_=>true,nk!,⟨u,rfl⟩,nl!,.str "set",nm!,(eP!).set p.toNat iW!,nn!,q1 ρ M R,no!,.tup (.str k::a::r),np!,.tup (.str k::a::b::c::r),nq!,Ab eK_ (Ab (wl f2) (Ab (wl f3) Ac)),nr!,⟨_,rfl,?_⟩,ns!,[.str k,a],nt!,.int o.h,nu!,(k=="undo"||k=="redo"),nv!,Str.ofString "redo"==Str.ofString "redo",nw!,.type "zip",nx!,HU _ i3!,ny!,λc hc=>?_,nz!,.bl (ny_).isSome,nA!,(xw!).bind λx=>Al x I_,nB!,λk=>.bl gn!,nC!,(∀o∈os,DG o.d),nD!,aS (ne c _ e),nE!,h2 b hb,nF!,[gr!,ab!,none],nG!,λx=>?_,nH!,(false,eval b X.env),nI!,Addr×Cq,nJ!,mup M b c,nK!,Ig Ng P w KF mg base N x aU_ ag ah A outer s H E,nL!,(mF l c k).binds b,nM!,ns.map D.int,nN!,Rh rows,nO!,rows.map c_,nP!,Iy P w s.heap x u,nQ!,(by show 2<=1000;decide),nR!,HS (HS h),nS!,some x.v,nT!,λy hy=>hp y ez_,nU!,Ab f1 Ac,nV!,bK sub q,nW!,.int ys!,nX!,(ag_).map Op.v,nY!,(bx!:Nat),nZ!,((bx!+m:Nat):Int),n0!,((bx!+(m+1):Nat):Int),n1!,[R!,ji!,L!,z],n2!,h2.mono e,n3!,D->Mh->Prop,n4!,hw Z G H Q ρ M R st e k,n5!,st.mr.ext x,n6!,k3 (.lst jl_) eY_ eZ!,n7!,λd M2 v G2 H2 r2 x2 m2 q2=>k d M2 v G2 H2 r2 cl! m2 q2,n8!,aE_<5000,n9!,rs.take k]
def z'nn:String:=z [na_,.inl ⟨rfl,vs,Eh.of h3⟩,nb_,A.deeper (envOfC qual aU_ s.heap.objs.size ag ah),nc_,Zc KF ps.length g,nd_,us'.toArray.size,ne_,[t.A0,t.A7,t.A8,t.A9,t.B0,t.B1,t.B2,t.B3,t.B4],nf_,f1 ρ=some x,ng_,DE X own c fc,nh_,ad==sysModules,ni_,List D->Option D,nj_,A'.handled,nk_,.str "write",nl_,cs.map λc=>(Y_:Str),nm_,[ba!,bq!,At_],nn_,Fj xf_ 0=_,no_,.tup (.str k::a::b::r),np_,f3 ρ=some c,nq_,Ab eK_ (Ab (wl f2) (Ab (wl f3) (Ab (wl f4) Ac))),nr_,hO.noOb cP_,ns_,⟨c6,?_⟩,nt_,DH s.heap l1 l2,nu_,Str.ofString "undo"==Str.ofString "undo",nv_,⟨_,_,rfl,k_,k_,rfl⟩,nw_,ops.map Op.key,nx_,.lst gn_,ny_,Ey o.d,nz_,λc o e=>?_,nA_,(λv y=>by cases y),nB_,[O_,ab!,y],nC_,.dct σ ep,nD_,mup_ne hb,nE_,aS (ne d _ q),nF_,λc hc=>?_,nG_,kget wd o.nm,nH_,⟨_,_,rfl,rfl,dE!⟩,nI_,HL M0 M l,nJ_,Dx KF mg x st ps,nK_,Ti n es,nL_,W.mg_of X G a,nM_,[(root,y),(binn,z)],nN_,Uc rows,nO_,⟨rfl,rfl,rfl⟩,nP_,(∀b,M b≠none->M' b=M b/\¬O b),nQ_,MV ho hd (HP (b4f hu q2 hk (HP (MV ho hd ?_)))),nR_,Nj wd os,nS_,λy hy=>hd y ez_,nT_,Ml P w s.heap es.toArray ks,nU_,M p=some H!,nV_,((j:Nat):Int),nW_,[R!,yr!,L!,some nW!],nX_,some (.lst nX!),nY_,[R!,nX_,L!,ys_],nZ_,⟨1,?_⟩,n0_,Bf h1 d x,n1_,hH.trans Y,n2_,(Str.ofString "undo"==k||Str.ofString "redo"==k),n3_,List D->Mh->Prop,n4_,D.str.inj z,n5_,.ext x,n6_,HR _ gD!,n7_,.tup bb_,n8_,⟨o,h⟩,n9_,.int yS!]
def z'o:String:=z [oa!,Bv dM_ aI!=_,ob!,[some gD_,aU!],oc!,Eh KF H p ys\/Ex KF H p ys,od!,compareOp .NotIn,oe!,.lst ((dO!).take a),of!,Mh->List D->Option D,og!,q.2.length,oh!,[a].length+(du_).length+es_<30,oi!,(bu!).map Co,oj!,l.map Co,ok!,⟨t1,t2,?_⟩,ol!,(cl!).trans x3 m2,om!,⟨_,c9!,nO_,rfl⟩,on!,⟨[],bI,.nil,KU⟩,oo!,Cg q.1,op!,Hn W ae! W.rows,oq!,MS X own ba st q1,or!,sr.st.mr,os!,sr.grow x m,ot!,fa ρ=some y,ou!,Ey x.d=none,ov!,MI X own tg iter fi,ow!,Dl X.prog X.w X.K X.mg X.base k C m ps g,ox!,λd M1 v G1 H1 r1 x1 m1 q1=>?_,oy!,.str k',oz!,(λi v=>∃e,es[i]?=some e/\v=e.key),oA!,(t.A0,a),oB!,(by simpa using qf),oC!,(q.2:Nat),oD!,Str.ofString "outline",oE!,.bool Aq_,oF!,hA.mem h,oG!,hA.cl h hh,oH!,((e8_).length:Nat),oI!,aL (rH o),oJ!,some oI_,oK!,OF.mp e,oL!,m1.ext xj,oM!,Keyed->Int,oN!,(by rw[ht];simp),oO!,(by rw[hA.cl h hh];simp),oP!,cU hb hq,oQ!,IM.mp hh,oR!,dn++os,oS!,[q!,O_,ab!,L!,gr_,y5],oT!,bd! / 2,oU!,.lst fb_,oV!,hH.names,oW!,HX _ ho,oX!,(jK!:Nat),oY!,λz hz=>?_,oZ!,(oZ_).map kf,o0!,(aZ_).map Op.v,o1!,.obj t.B5 (hF yy ta wa Z!),o2!,J++[fd_],o3!,λd q=>Ka d=some q,o4!,(·.2.1),o5!,Pk (.str "") o4_=some v,o6!,JQ.mp hq,o7!,seqObj "list" #[] e1,o8!,Paired c0_ ds us,o9!,(by rw[KW];omega)]
def z'oo:String:=z [oa_,IS.mp e,ob_,((aE_:Nat):Int),oc_,compareOp .In,od_,.lst [Ax bo_],oe_,Aa 2 ρ=some dJ!,of_,.dct q.2.1 q.2.2,og_,backTo ai (starEach [a] X.env),oh_,(qa i,Cq.lst (if i=a then(eP!).set p.toNat iW! else W.num i)),oi_,.lst oi!,oj_,ho.run I st e λd M1 v G1 H1 u s1 r1 x1 m1 q1 I1 rx=>?_,ok_,((n:Nat):Int),ol_,[ac!,R!,zq!,some nm,y4,some jB!,gG!,jh_,none,none],om_,I.laid tB! p! ⟨⟨D0,JY.mpr (JF (JH I.big)),JJ _⟩,by obtain⟨o,h,_⟩:=D0;exact n8_,yO_⟩,on_,Value×Value,oo_,ni i hi,op_,.inr (s.noF z),oq_,Y.ok M0 G0 F0,or_,An i f,os_,Jz M3 d y v,ot_,Ab eK_ Ac,ou_,Hf P w KF own M0 G0 F0 M1 G1 H1 Z ρ,ov_,Zz P w KF ps.length g,ow_,λbs=>D.bl mV!,ox_,Ms s.heap d es ep,oy_,cs.map λc=>.fn c.1,oz_,Addr×D->Prop,oA_,⟨_,i1,a4r Y⟩,oB_,λk=>?_,oC_,jo b hb,oD_,.int yy,oE_,D.int.inj z,oF_,.inl X!,oG_,HT.lexLt ms ns,oH_,.int oH!,oI_,.int h,oJ_,aL (f:=Aa 0) rfl,oK_,λh hh=>(by cases hh),oL_,S++[o],oM_,(by rw[hA.ob];simp),oN_,(by rw[hA.wt];simp),oO_,λh hh=>?_,oP_,∀k ac,SB kd a0 ac->1<=k->k<=n->Up r w! k->Q jO_ ac,oQ_,[q!,L!,none],oR_,(o.nm,o.v),oS_,arrOf bx,oT_,cU hb hp,oU_,h.ch y.h,oV_,this.2.1,oW_,Int×Int,oX_,.int oX!,oY_,List gR_,oZ_,L.map S_,o0_,.lst o0!,o1_,f2 ρ=some c,o2_,Ai k X.A.in1.in1,o3_,[na!,aF_],o4_,.lst ((dV_).map o4!),o5_,∀H':Hp,H' a=none->Eo X J H' a,o6_,λ_ K hK=>?_,o7_,[some (Co q)],o8_,Hh fe_ ds,o9_,List (Keyed×D)]
def z'p:String:=z [pa!,Ho g q.2,pb!,(dW!).push c1!,pc!,.builtin "sorted",pd!,seqObj "list" us.toArray 0,pe!,ds.all λd=>(Ka d).isSome,pf!,Hh kf2 ds,pg!,kf2 q.2,ph!,JQ.mp ho,pi!,AT S yy d,pj!,h.of hr,pk!,c1_<=16,pl!,[q!,aF_,e4_,some dX_,some (.lst j3_),some .non,ab!,e4_,none],pm!,(λq=>nomatch q),pn!,⟨HR _ (kb!).1,(kb!).2⟩,po!,IB (show(Value.ref T != Value.none)=true by simp),pp!,aL (d:=e9_) rfl,pq!,aL (d:=gJ_) rfl,pr!,some (.inl (.inl yy)),ps!,cu e (JF qk),pt!,fo.elim Value.none λf=>rawInt f,pu!,Aa i ρ=some (.lst l),pv!,T∈av\/i!<=T,px!,∀b xs,H b=some bd_->H' b=some bd_,py!,Ad (fC ai!) (Ad (f2 Al cL_ fP_) Ah),pz!,W.methodObj W_ (.ref y),pB!,hH.op o (dr.mem_iff.mp ho),pD!,g o (g2 o ho).1,pE!,congrArg some e,pF!,(by simp[Al,Fj,Kb]),pG!,gF (kM (cN (e0 k _ e) rfl (jI _ _))),pH!,Un fs ex H H1 h Y,pI!,.type "Exception",pJ!,.type "object",pK!,λb=>X1 b\/b=l,pL!,λz=>(c.nw b z).imp (λz=>(fo!).mpr bl!) id,pM!,h.get? b=some o,pN!,f ρ=some c8!,pO!,.Name x np,pP!,λ_ Z H=>te Z H λ_ H1=>R P! H1,pQ!,X.env.kindOf x=some .cell\/X.env.kindOf x=some .free,pR!,Ab q_ lr_,pS!,.type "BaseException",pT!,hi.up e p!,pU!,.inr ⟨d,f,rfl⟩,pV!,IQ cs! I.ok.above,pW!,Bq ls! q_ se!,pX!,λb o e hx=>?_,pY!,λi x v e1 e2 e3=>?_,pZ!,(λ_ z=>nomatch z),p0!,(by simp[z]),p1!,λ_ _ e=>e,p2!,(by rw[e];simp),p3!,λm hm=>?_,p4!,PyData.tuple [aG_,.int j],p5!,e1.trans e2.symm,p6!,S++rst U S,p7!,FJ X own n es g,p8!,(by rw[SG];omega),p9!,λj y v' e1 e2 e3=>?_]
def z'pp:String:=z [pa_,QV ?_ bw!,pb_,kl.map (lt S),pc_,(s.heap.push c1!).update s.heap.objs.size (Obj.mapSeq (·++dH!)),pd_,∀M',Q M'->E t.NotThere M',pe_,ds.map kf2,pf_,∀b,M b≠none->M1 b=M b,pg_,seqObj "list" (fh_).toArray 0,ph_,qI F S λah A outer s H E hr=>hb hr S.nd,pi_,∀M',Lk t M yy a S X M'->E t.NotThere M',pj_,[.lst ia_],pk_,rawInt L,pl_,(λy hy=>by cases hy),pm_,XF n s.heap e T cls fl,pn_,mixKind prog w,po_,⟨u,kb_,h2⟩,pp_,⟨o.slots,by rw[cu b (λz=>xw fk!)];exact eb⟩,pq_,NC (LX kh _),pr_,cu b (λz=>by subst z;rw[ht]at eb;rcases eb;exact t6 _ kh),ps_,Obj.mapFields (·.setIfInBounds 3 pt!),pt_,f2 Aw (f1 Bm (Ad cL_ Ah)) A_,pu_,.tup (p.1.map kV),pv_,(∀f,Lp p9_ (mA f)),pw_,(λz=>by cases z),px_,Xq n h e cls L av,py_,∀M',Lk t M yy a S X M'->E t.Nothing M',pz_,gB aP! (gV hA hH a!),pC_,∀b u,b≠e->h.get? b=some u->h'.get? b=some u,pD_,upd H x o',pE_,e3.trans pE!,pF_,⟨hb b h,x.ge b h⟩,pG_,.tbl (ps++o8),pH_,.type "ValueError",pI_,.type "BaseException",pJ_,Option Value,pK_,(fo!).mpr bl!,pL_,List.range bD_,pM_,Value->Hp->Prop,pN_,starEach [ex] X.env=[(false,eval ex X.env)],pO_,.Raise (some (.Call pO! [ex] [] ai)) none pos,pP_,X.env.globals,pQ_,I.ok.noex b o e,pR_,f ρ=some ay!,pS_,Bq ej_ q_ fG!,pT_,hi.up e mN_,pU_,.lst (xs++[w]),pV_,I.cne x c e,pW_,nG (i:=m) rfl a_,pX_,Ig kk! P w KF mg base N x aU_ ag ah A outer s H E,pY_,[q!,g7!,g7_,ks!,aF_,dN_],pZ_,⟨_,bh,bp,hL,r'⟩,p0_,λ_ _ _ _ n=>n,p1_,λ_ _ _ e=>e,p2_,toString i,p3_,λb u e=>?_,p4_,∀b u,s.heap.get? b=some u->h'.get? b=some u,p5_,Ci (Ad a7! Ah),p6_,storeName X.env x u,p7_,(by rw[SG];omega),p8_,⟨g8!,g8!,I.base.free,pX!,I.base.tups,I.base.frzs,I.base.tbls⟩,p9_,fs.lookup f]
def z'q:String:=z [qT!,Addr,qa!,(by simpa using I.len),qb!,(v1::v2::es),qc!,∀o∈S2,o∈U,qd!,⟨u',r',?_⟩,qe!,(∀b o,b≠I->b≠S->h.get? b=some o->h'.get? b=some o),qf!,(qe_).trans e1,qg!,Around.under_plainId ML,qh!,(by simpa using t9),qi!,Bool->Hp->Prop,qj!,hv.getD o.h.toNat 0,qk!,Vk X.K C m f,ql!,List.replicate 16 [D.int 0],qm!,("__debug__":Str),qn!,⟨by simp[big],?_⟩,qo!,(by simp[Ws];omega),qp!,(Str.ofString "default",v),qq!,.builtin "max",qr!,(kD_).map λi=>(((hs S2 bz_).length:Nat):Int),qs!,(∀b o,s.heap.get? b=some o->h'.get? b=some o),qt!,dv.map λv=>qp!,qu!,(fc_).length<63,qv!,(by rw[hi.m];exact KL _),qw!,(a::b::rest),qx!,.int (Ws 0 none xs),qy!,Nat->List Op,qz!,cZ (hc J s Z H _ I h) ?_,qA!,e.trans z.symm,qB!,I.kIn a o hk,qC!,if k=j then S1 else S k,qD!,Ex X.K H a xs,qE!,JX ve rfl rfl ?_,qF!,h.w j hj o ho e,qG!,⟨Z,H,I,h⟩,qH!,.Return none pos,qI!,(λ_ s'=>∃ae H',Inv X J ae H' s'/\Q ae H'),qJ!,.Subscript o i pos,qK!,eval i X.env,qL!,BI X J H s.heap e it i,qM!,(by rw[show(((i+1:Nat):Nat):Int)=(i:Int)+1 by omega];exact a),qN!,F.args_enumerate_next_1 _,qO!,⟨_,_,_,he⟩,qP!,gB aP! (qF h),qQ!,(by rw[IN hx];exact hK),qR!,(xs.take ag!).zipIdx.map λq=>fv_,qS!,.While c body [] pos,qU!,mup M c cx_,qV!,letOwnedTupleGo tg bZ! u,qW!,mup M c (.dct qR! ag!),qX!,["enumerate","zip","dict_itemiterator","dict_reverseitemiterator","odict_iterator","itertools.zip_longest","itertools.pairwise"],qY!,[q!,O_,ac!,y],qZ!,λz hz=>hx z jT!,q0!,λi _=>i<n,q1!,(by simpa using hu),q2!,[.tup [x,p]],q3!,decide gG_,q4!,wi.nm x hx,q5!,mup M1 p cx_,q6!,.Name "enumerate" p2,q7!,hl J s Z H _ I h,q8!,IsRange.new ..,q9!,(((kV_).toNat:Nat):Int)]
def z'qq:String:=z [qa_,hs.2 b (JH pV!),qb_,(qa_).trans e1,qc_,((hs S2 o.h).length:Nat),qd_,z.sameBut hs (cne y c e),qe_,hs.2 b (JH (IQ cs! (I.ok.cab x c vy hc))),qf_,.builtin "max.loop" ⟨[.ref I,cG_,.ref S],kw⟩,qg_,LR hS rfl ?_,qh_,(kB!).zipIdx.map λq=>fv_,qi_,(toString "max"++toString ".loop":String),qj_,backTo pos kC_,qk_,OX jr λ_=>#[.int x t,.int x t],ql_,⟨o,(JE _ _ t9).trans e1,e2⟩,qm_,⟨o,(JE _ _ xz).trans e1,e2⟩,qn_,.Constant ay! j pos,qo_,.Constant .none j pos,qp_,X.mg x=some u,qq_,eval cv! X.env,qr_,(by rw[I.ok.glob];exact I.mod.glob.keeps I.bk),qs_,bootBuiltins x=some u,qt_,h J s Z H _ I hw,qu_,cZ (ha J s Z H Q I h) λc s1 e=>?_,qv_,.cons rfl .nil,qw_,⟨H1,I1,q1⟩,qx_,Nat->Addr->Prop,qy_,h J s Z H Q I hw,qz_,Eh X.K H a xs,qA_,(by simpa using hs),qB_,(∀b o,b≠e->b≠it->s.heap.get? b=some o->h'.get? b=some o),qC_,ak[i]?=some x,qD_,JX he rfl rfl ?_,qE_,field aw_ 2>>=_,qF_,hs bE! cw_,qG_,U++[AT bE! cw_ d],qH_,St->Hp->Prop,qI_,(∀o,o∈S i\/o∈S j->o∈S' i/\o∈S' j),qJ_,setItem ov iv v,qK_,cZ (ho J s Z H _ I h) ?_,qL_,pyNext aw_,qM_,⟨_,he,rfl⟩,qN_,[.Name x k8],qO_,∀b∈cX_,Eo X J H b,qP_,⟨_,he,fY_⟩,qQ_,Nf X body tb,qR_,dH aP! a0_ qS_,qS_,qN h hk hx,qT_,Ak X.K G xs vs,qU_,(by rw[z];exact hb),qV_,pyIter bZ!,qW_,upd H c (dE c bh ag!),qX_,(∀y',R (.nx [q!,O_,ac!,y']) M),qY_,.type "dict",qZ_,mup M p cx_,q0_,λi _=>n<=i,q1_,λb o hb e=>(sb.2 b hb).trans e,q2_,λb o hb e=>eb b o hb e,q3_,⟨rfl,I.turned (t':=s.toks) q2_ f0 f1 f3 f4 f5⟩,q4_,(n:Int) - (i:Nat),q5_,(List.range 4).map λi=>D.int bz_,q6_,[.Call q6! [a] [] uc],q7_,.lst (List.replicate n.toNat vs).flatten,q8_,pyIter a4_,q9_,hi - lo - 1]
def z'r:String:=z [ra!,starEach [a] X.env=[c9_],rb!,.Call ra_ [a] [] pos,rc!,szS lo hi c,rd!,starEach dX! X.env=c9_::starEach dR_ X.env,re!,.lst W.its,rf!,.For tg iter body [] pos,rg!,aI X_ fI!,rh!,aL (d:=.str "texts") rfl,ri!,step x H5 y5,rj!,I7.pin ea_ ri_,rk!,V->Hp->VK->Prop,rl!,Int->Int->V,rm!,MM (by rw[OI];omega),rn!,some ((max i aw!:Nat):Int),ro!,h.perm hj hf,rp!,⟨.int a5!,H,aQ_,G!,q⟩,rq!,z.cps.toList.drop i.toNat,rr!,intBits_le_64 Y h2,rs!,binaryOp .Mult,rt!,X.stack=X.env::X.outer,ru!,X.mg xD=some fC!,rv!,a1y rfl a_ a_,rw!,[.Return (some rx) mi],rx!,(λcls H'=>∃c,cls=.ref c/\subIn X.K c0! fC!=some true/\D.rt v0 H'),ry!,compareOp .NotEq,rz!,wl (f2 Al s_ (fC (.int ((1:Nat):Int)))),rA!,⟨v,bj,H1,km af,r,q⟩,rB!,compareOp .Is,rC!,compareOp .IsNot,rD!,λx y H Q=>y=.non/\Q (.bl (!decide (x=.non))) H,rE!,An 4 (Ag 2 dr_ (Ab ry_ ii_)),rF!,.Pass ⟨0,0,0,0⟩,rG!,hc J s3 Z H3 _ I3 q3,rH!,f2 AN lc_ (fC (.int 60)),rI!,pk a0 a1 a2,rJ!,⟨H,aQ_,by rw[sN r];exact q⟩,rK!,.str (i++j),rL!,(λxs H Q=>∃i,xs=[aG_]/\Q (.int hz!) H),rM!,.builtin "ord",rN!,(λxs H Q=>∃x,xs=[.str x]/\cB_=1/\Q rM_ H),rO!,f1 Ek (Ad rN_ Ah),rP!,⟨.int f_,H,aQ_,⟨_,by simp only[HZ];rw[ay]⟩,q⟩,rQ!,.str "bin",rR!,W.plainGet K C name=true,rS!,some (.builtin "object.__setattr__"),rT!,⟨zT!,?_⟩,rU!,lE ns rI! (pk p0 p1 p2) none none none none none,rV!,Cp (fT (Mf "str" a5_)),rW!,fT (f1 (El t) (Ad (Lq w_ (Bi C!) Cm) (Ad (Ru ef_ a5_) Ah))),rX!,f2 Xg a5_ (fC lm!),rY!,(show∃t,u=Value.int i t from r),rZ!,fP (fB (kQ lI rfl T.R6 rfl T.T0 dD nY J!)),r0!,bC (iA T) b! rfl ln! ar_,r1!,eJ J! eX (eC aD),r2!,.ins C dx (Iw f y fs),r3!,bC (hW T) b! rfl bf_ ar_,r4!,if g=f then some u else mA g,r5!,fQ a3j a3s J! dU m_,r6!,Ck (fT (f2 Du F_ bP!)),r7!,Af (Vp (Xy 1 F_)) (An 2 (w2 Ce cD! C_)),r8!,λ_ _ _ _ _=>aY (show(ee!:List Str).Nodup by decide+kernel) rfl h!,r9!,eK T.T4 rfl]
def z'rr:String:=z [ra_,.Name "range" p,rb_,((szS lo hi c:Nat):Int),rc_,(by rw[e];rfl),rd_,(false,eval c X.env),re_,starEach dR_ X.env=[nH!,rd_],rf_,.Call ra_ dX! [] pos,rg_,λb hb=>(da_).1,rh_,T.obj _ _ mz,ri_,HX _ (HX _ (iD hb e)),rj_,Value->Value->Sem Value,rk_,some (j:Int),rl_,[.fn (a 0),.fn (a 1),.fn (a 2)],rm_,c6b ha hb I h λv u s2 x y H2 I2 rx ry q=>ho J s2 Z H2 x y v u Q I2 rx ry q,rn_,.int a5! s.toks,ro_,Txt.slice z h0! hi,rp_,Int->Int->Bool,rq_,wV (h.op o ho).dg,rr_,Pz λi j=>.int (i - j),rs_,PyProof.noPylong_small a!,rt_,∀a pn,PE (Ym X a pn) rx λ_ H Q=>Q v0 H,ru_,(xD==qm!)=false,rv_,some (.Name xD cp),rw_,.Try body [.ExceptHandler rv_ none rw! hp] [] [] tp,rx_,Zl X bk_ (xT X J D (.ExceptHandler rv_ none rw! hp)),ry_,wl (f2 Al s_ (fC (.int cy_))),rz_,λp hp=>af.pin p hv!,rA_,compareOp .Gt,rB_,λx y H Q=>y=.non/\Q (.bl (decide (x=.non))) H,rC_,lE ns a l y3 (some (.lst hu_)) (some ft_) y6 y7,rD_,λx y H Q=>r x y H Q\/r' x y H Q,rE_,Bw er_ (Bz 5) (FK t),rF_,[db_,"_law_hands",lc!,bZ_,cz_,cA!,hx!,hx_],rG_,[.str "root"],rH_,mup (mup M l0 b0_) l1 b0_,rI_,⟨H,aQ_,q⟩,rJ_,(show False from e),rK_,.builtin "abs",rL_,λz=>absurd rfl z,rM_,.int (x.cps.getD 0 0:Nat),rN_,Lq w_ Cm (Bi al_),rO_,.builtin "len",rP_,.str "root",rQ_,f2 Oi w_ bP!,rR_,W.hasDictIn K C=true,rS_,cC!<=sizeLine,rT_,h0.keepA f1,rU_,List.range N,rV_,fT (Yl ef_ true a5_),rW_,bC (jX T) b! rfl bf_ ar_,rX_,f2 Kt (f2 Bv (f2 Al fD_ al_) fE_) a6!,rY_,(show∃t,u=Value.str x t from r),rZ_,eK T.T2 rfl,r0_,Mn (Da b2_ b2_ Kv),r1_,bC (hW T) b! rfl (aI r1! aO) ar_,r2_,(by rw[e];exact hF!),r3_,wT (Ay t.B7 "holds" 2 (Hc t) g! dh!),r4_,fQ U! bP J! aR m_,r5_,λb u q=>HU _ q,r6_,eval e env,r7_,.Attribute e f pos,r8_,λ_ _ _ _ _=>(bC (rL T) b! rfl bf_ ar_),r9_,backTo pos (starEach args X.env)]
def z's:String:=z [sa!,keywordEach [] X.env,sb!,Au t.B6 "parents" g!,sc!,Az (Ay t.B7 "put_behind" 3 (Ch t) (w2 Ce hG_ am!) pR!),sd!,Bq sb! q_ am!,se!,Tv hH_ (wl de!),sf!,.Tuple es x1 pos,sg!,I1.laid (t':=s1.toks) (λb u e=>HU _ e) p! ?_,sh!,λ_ _ _ _ _=>hJ_,si!,Az (Ay t.B7 "put_behind" 3 (Ch t) (w2 Ce ej_ C_) (Ab el_ (Ab (wl V!) Ac))),sj!,"operation_name",sk!,λb z=>absurd z c!,sl!,upd H1 dx g2!,sm!,Bo (Ay t.B6 "signs_of" 2 (Br t) g! as_),sn!,cZ fy_ λus s1 ⟨vs,H1,I1,r,q⟩=>⟨I1.kIn,?_⟩,so!,.Attribute o m ax,sp!,⟨I2.kIn,?_⟩,sq!,Ap (Ck (fT (f1 Am bH_))) (Bq q_ sq_ (wl hM_)) Bj,sr!,I.hok.fresh (NM _),ss!,Gh (Go w_),st!,.Call (.Name x p) [] [] pos,su!,cC N! bE b3_ bJ! n_,sv!,(by simpa using Y),sw!,Ck (fT (f2 Aw bK! su_)),sx!,f2 Al s_ C!,sy!,Ck (fT (f2 Aw bK! (fC (.str "move")))),sz!,Ig CX P w K mg base N qual scope f cd A outer s H E,sA!,(show b∈sB_ from z),sB!,f2 Al s_ A_,sC!,Ck (fT (f2 Aw bK! sA_)),sD!,Ab eo! (Ab hP_ (Ab (wl bI!) Ac)),sE!,Ck (fT (f2 Aw bK! (fC lm!))),sF!,Ck (fT (f2 Aw bK! sE_)),sG!,(by simpa using hi),sH!,An 1 (Dy t.B6 1 (Ge t) Ac),sI!,f2 Al H_ az_,sJ!,Ab q_ (Ab am! (Ab (wl sI!) Ac)),sK!,W.codeIn K ah qual=true,sL!,e0.bs b o e,sM!,nE y! (gP cE! cE! rW),sN!,iE I hg hm hv ?_ hn a8,sO!,Aq (wl (f1 Cn ee_)),sP!,fQ U! bP hS_ aR m_,sQ!,aN aJ aM b6! aD n_,sR!,(by simpa using hw),sS!,if v<0 then max lL_ 0 else min v (n:Int),sT!,Au t.B5 "waiting" g!,sU!,wT (Ag 2 (Fp t) dq_),sV!,wT (w2 fL_ (wl (f2 Al U_ A_)) hX!),sW!,IsPart vu hi,sX!,Ap (Ck (fT sX_)) Bg Bj,sY!,An 4 (w2 Ce (w2 Ce q_ aB!) (wl al_)),sZ!,bF T.U9 T.V9 k!,s0!,Ap sZ_ Bg Bj,s1!,sIx ak.size ak.size hi - sIx ak.size 0 lo,s2!,f1 (Bl t) al!,s3!,aB t_ lP_,s4!,((sIx ak.size 0 lo:Nat):Int),s5!,Option Int->Hp->Prop,s6!,wT (Ag 2 (Gg t) bL!),s7!,Az (Ag 2 (Ef t) bL!),s8!,s3.heap.objs.size,s9!,cC N! bE s3_ t_ n_]
def z'ss:String:=z [sa_,.Call (.Attribute e m ax) args [] pos,sb_,kH y! ek! t_ lr! di_,sc_,Bq hG_ q_ fG!,sd_,Str×Value,se_,aE (fO T.U7 T.X6 k! cE!),sf_,cZ (h pos J s Z H _ I hq) λus s1 ⟨xs,H1,I1,r,z,q⟩=>⟨by rw[<-r.length];exact z,?_⟩,sg_,λ_ _ _ _ _=>kD (dX (bH U! bP aI_ X_ m_)),sh_,Au t.B6 "written" g!,si_,Bq sh_ el_ (wl bH!),sj_,w2 Ce ls! q_,sk_,(.ref x::dk!),sl_,λv H2=>v=.non/\Q fm! H2,sm_,call W_ us,sn_,starEach aq! X.env,so_,f2 Aw ly! fJ!,sp_,Gh (Go lz_),sq_,wl (f2 Al bI! C!),sr_,(Value.ref T!::em!),ss_,fT (f1 Am fK_),st_,(∀v,(x,v)∉binds),su_,fC (.str "put"),sv_,(by simpa using h2),sw_,bR aZ dZ dn_ aD,sx_,Ei N ps scope,sy_,cellsFrom T! scope.names [],sz_,Ck (fT (f2 Aw bK! (fC (.str "drop")))),sA_,fC (.str "write"),sB_,([]:List Addr),sC_,λy hy=>?_,sD_,λb z=>absurd z (rg b),sE_,fC (.str "set"),sF_,x.above y c (MB h),sG_,List.take_sublist _ _,sH_,wT (w2 hL! am! C_),sI_,W.fnOf name qual params body scope dV kV bv pm an ah ct,sJ_,Ap sH_ (Az (Ag 3 (Kr t) sJ!)) Bj,sK_,∀vs H Q E,sp vs H Q E->aR_=P_,sL_,Ez t.B5 "outline" g! b2_,sM_,Ff fN_ q_ lF_,sN_,cZ fy_ λus s1 ⟨vs,H1,I1,r1,q1⟩=>hc J s1 Z H1 vs us Q I1 r1 q1,sO_,Au t.B5 "outline" g!,sP_,kE (gU (bC (jZ T) b! rfl bf_ ar_)),sQ_,Ay t.B5 "have" 2 eo_ g! (Ab hV! Ac),sR_,if v<0 then(lL_).toNat else min v.toNat n,sS_,kE (gU J!),sT_,((sIx n n hi:Nat):Int),sU_,s.heap.IsSliceOf sl vl vu .none,sV_,IsPart vl lo,sW_,Ap sU! Bg (Ap sV! Bg (An 5 (Hx C_ am! aB!))),sX_,f2 Gw V! H_,sY_,f2 Al H_ A_,sZ_,wT (w2 (λ_=>Kt) am! (Ff C_ lN_ (Ag 2 (Dq t) (Ab g! (Ab lN_ Ac))))),s0_,Bq C_ lN_ am!,s1_,bF T.U8 T.W3 k!,s2_,fT (f1 Nc (Ad lP! Ah)),s3_,bF T.U8 T.W6 k!,s4_,s4!==0&&(1:Int)==1&&s1!==ak.size,s5_,V->Option Int->Option Int->Hp->VK->Prop,s6_,Ap s6! (Af (Az (Ag 2 (Jp t) bL!)) (Aq (w2 Kc fP! (Ag 1 (Dv t) an!)))) Bj,s7_,cZ (hl J s1 Z H1 _ I1 q1) λvl s2 ⟨l,H2,I2,pl,q2⟩=>cZ (hu J s2 Z H2 _ I2 q2) ?_,s8_,Ag 2 (Hr t) dq_,s9_,HT.sIx xs.length 0 lo]
def z't:String:=z [ta!,xs.drop s9_,tb!,aB bJ! ta_,tc!,Bb 1 [1] (Gh (Fg a6!)) F! fI_ (Ay t.B5 "have" 2 eo_ q_ an!),td!,IsTup.new _ _,te!,Jx (wT (Ay t.B6 "has" 2 fG_ C_ as_)),tf!,Af (Ap te! te_ Bj) dn!,tg!,getItem o i,th!,Ap (Ck (Cp lV_)) Bg Bj,ti!,Cs 2 (Bh t) E bL!,tj!,⟨z,H,I,az,q⟩,tk!,aK (iR T) b! rfl aT_,tl!,λr s'=>r=w/\EP X J Z Q r s',tm!,(by rw[HZ]<;>omega),tn!,c8e hr rfl h! a_ (c5e b5t),to!,fT (f1 Am al!),tp!,aE (aW as!),tq!,JE _ _ fS!,tr!,w2 Kc C_ (Sk (Ab (Ag 1 (Ha t) an!) as_)),ts!,Ad s_ bH_,tt!,(by simp only[HZ]<;>omega),tu!,fW hX (dY T) b! rfl b8!,tv!,⟨⟨o,e,ex.1⟩,λa e2=>?_⟩,tw!,wT (w2 fL_ lS_ (Au t.B5 "ours" q_)),tx!,backTo ai kC_,ty!,List.replicate k its,tz!,Obj.mapSeq f,tA!,bM bZ dW rfl T.R7 dI fI!,tB!,λ_ _ q=>HU _ q,tC!,An 4 (Cs 3 (Gz t) E lX_),tD!,.cons ru .nil,tE!,bS (sc:=Aj Pp) rfl k_,tF!,.lst (xs++zs),tG!,gc.toArray.size,tH!,⟨e,e2,?_⟩,tI!,r.append r2,tJ!,An 8 (Ag 2 dt! (Ab g! (Ab (wl (Ci tI_)) Ac))),tK!,Az (Mo l4! el_),tL!,An 5 (wl (f2 Bv (Aa 8) tK_)),tM!,Heap.SameBut a s.heap h',tN!,upd H a ob,tO!,fT (f2 Xh H_ A_),tP!,Vp (We 1 H_ F_),tQ!,wl (fC (.tup [b5!,ly_])),tR!,wT (w2 dg_ (wl hM_) tQ!),tS!,ns.map WData.int,tT!,pre_splitW u4,tU!,fT (f2 Sh V! et!),tV!,fT (f2 Gw tU_ F_),tW!,bR gK gL X_ aD,tX!,fT (f2 Du H_ bP!),tY!,Ci (Ad H_ bH_),tZ!,fT (f2 Aw tX_ tY!),t0!,An 5 (wl (f2 Bv a7! C!)),t1!,Ad (Ci ts!) Ah,t2!,dX (bH U! bP at! aD m_),t3!,IntsAre vs ns,t4!,Ad sB! (Ad sx! Ah),t5!,Bq ca! aB! lF_,t6!,Az (Ag 4 Ni (Ab g! (Ab aB! (Ab (wl (Xi (fT U_) lC_ lg!)) (Ab hP_ Ac))))),t7!,An 5 (w2 Ce ca! eo!),t8!,Gh (Fg t7_),t9!,bM bZ dW rfl T.R7 dI h2_]
def z'tt:String:=z [ta_,aB bJ! (aB bJ! aH),tb_,JG (pZ xs lo hi) hz,tc_,(r.drop s9_).take lS!,td_,Ag 1 (Cf t) an!,te_,Jc t.NotThere E (Xo (gN 1 g0)),tf_,Jx (wT (Ay t.B6 "has_item" 2 (Bs t) C_ as_)),tg_,call eq! (v::us),th_,bF T.U7 T.X6 k!,ti_,Ay t.B6 "has" 2 fG_ td_ as_,tj_,(by rw[hj];simpa using ew),tk_,qD (aT nd rfl h! tk!),tl_,slot_list_getitem.lookup,tm_,⟨rfl,fin⟩,tn_,(·.setIfInBounds j u),to_,Bb 1 [] (Bo sM_) F! (Ck (Cp to!)) (wl rN_),tp_,Bb 1 [0] lI_ F! fI_ (Ag 2 (Dq t) lQ!),tq_,upd H p (.lst (xs.set j v)),tr_,(by rw[hk];exact⟨_,I',q⟩),ts_,λh' c' kp e=>fin its r' hz h' c' kp e,tt_,(λ_ e=>nomatch e),tv_,⟨o,e,ex.2.1⟩,tw_,λ_ _ _ _ _=>aY (show(bg!:List Str).Nodup by decide+kernel) rfl h!,tx_,List.replicate k xs,ty_,Array Value->Array Value,tz_,An 3 (Ay t.B6 "signs_of" 2 (Br t) ti! as_),tA_,cR (mY hX T.V4 hr.hd rfl T.V2 aK!),tB_,Af (Ap (Ck (Cp (fT (Ea Kt Kt A_ F_ (f1 Bm fK_))))) Bg Bj) (Aq aB!),tC_,(by rw[HZ];omega),tD_,Ap (Ck (Cp (fT (f1 Nc (Ad (Fz 1 [] (Pe H_) F! aA! b1!) Ah))))) Bg Bj,tE_,An 5 (wl (Xi (fT (f2 Xh F_ A_)) (f2 Al U_ (f2 Iq F_ C!)) bP!)),tF_,Gh (Ol A_ (f1 Bm fK_) a6!),tG_,Bi (f2 Bv bH! a6!),tH_,Cj.cons (j:=2) Cj.nil,tI_,Ad sA_ (Ad s_ (Ad V! (Ad (Qo H_ (Bi bH!) tG_) Ah))),tJ_,2 ^ 63 - 1,tK_,Ci (Ad (f2 Iq a6! C!) Ah),tL_,λ_ _ _ _ _=>aY (show([T_,aJ!]:List Str).Nodup by decide+kernel) rfl h!,tM_,bM bZ dW rfl T.R7 dI lM_,tN_,An 3 (wl (Rw lk_)),tO_,fT (f2 BH (Ci (Ad (f2 Al (To 1 h8_) al_) (Ad (f2 Al (To 1 h8_) A_) Ah))) (Ci (Ad lD! (Ad bK! Ah)))),tP_,starEach [e] X.env,tQ_,starEach [e,f] X.env,tR_,Bq q_ sq_ (wl (f2 Aw hM_ fJ!)),tS_,Bo (w2 Ce g! fU!),tT_,f2 Gw a5_ s_,tU_,f2 Al (f2 Al U_ V!) C!,tV_,An 5 (wl (f2 Bv V! C!)),tW_,aT nd rfl h! (cC N! bE K! (lO eY (Fu.m eZ) (aC tW!) (nF bZ a5a rfl T.R7 dI fR!)) n_),tX_,f2 Al U_ a7!,tY_,true==true,tZ_,Ck (Mi tX! tZ!),t0_,f2 Bv (Lq U_ Cm ev!) (Me t1!),t1_,Lq U_ ev! Cm,t2_,"_law_parent_here",t3_,f2 Al s_ az_,t4_,An 4 (Xn mc! (wl (f2 Aw lC_ fE!))),t5_,Bq md_ aB! (Fw (Ab aJ_ (Ab aJ_ (Ab aJ_ hH_)))),t6_,Bq (w2 Ce md_ eo!) hP_ (wl bI!),t7_,f1 Bm (Ad V! Ah),t8_,f2 Aw (f2 Al (f2 Al V! bH!) A_) lD!,t9_,Ap (Ck (fT t8_)) (An 6 (wl me_)) Bj]
def z'u:String:=z [ua!,bR rG rR at! aD,ub!,λb z=>?_,uc!,Params->W.Frag,ud!,∀(w:World) (h:Heap),YP w h->(bk!).In h,ue!,dR (aK (pT T) b! rfl aT_),uf!,Da fU! lF_ (Da mb_ Fa (Da md! Fa Kv)),ug!,An 2 (Ag 1 Jw an!),uh!,wT (w2 hL! (wl (f2 Al sI! A_)) tQ!),ui!,Ad sY_ (Ad (f2 Al H_ C!) Ah),uj!,Jx (wT (Ff C_ (wl (Ci ui!)) mh_)),uk!,.inl (.inl (e _ _ h)),ul!,Bo (w2 Ce ca! q_),um!,An 2 (Ag 1 Nh as_),un!,Bo (w2 Kc (wl (fC (.lst [rP_,rQ!]))) (w1 Og (Ab mi_ Ac))),uo!,aK (gD T) b! rfl b8!,up!,BB (wT (w2 (λ_=>BG true) (Ag 2 (Jt t) dq_) lB_)) uo_,uq!,aS (ne c _ q),ur!,ForInStep.yield ((name,a)::r),us!,f2 Aw a5_ s_,ut!,(by simpa using hk),uu!,(if(k==fV_)=true then _ else _)=_,uv!,λp hp=>hn p if!,uw!,mJ cells r _ x h,ux!,Aq (w2 (λ_=>BG false) (Ag 2 (Jt t) (Ab g! (Ab (wl (fC (.tup [(.int 9),(.int 9)]))) Ac))) mh_),uy!,An 3 (wl (f2 Er s_ ml!)),uz!,X.N[j]?=some x,uA!,kE (iG rfl T.S7 aD),uB!,.str "ab~ z",uC!,fC (.int 140),uD!,f2 Aw (f2 Er mm_ al_) A_,uE!,["check","part"],uF!,An 1 (Nm (Ab (Dy t.B5 2 eA! hH_) (Ab (Dy t.B5 2 eA! (Ab (wl (fC (.int 7))) Ac)) (Ab (Dy t.B5 2 eA! (Ab (wl (fC (.int 15))) Ac)) Ac)))),uG!,An 2 (Nm (Ab mq! (Ab mq! (Ab mq! Ac)))),uH!,ForInStep.yield ok,uI!,T.X7 _ rfl rfl rfl rfl,uJ!,An 7 (wl (f2 Er a7! az_)),uK!,wl (f2 Al s_ bH!),uL!,Az (Ag 2 dx! (Ab hV! (Ab hT_ Ac))),uM!,Mm hH_ (wl a6!),uN!,([]:List sd_),uO!,(λv z=>by cases z),uP!,[aJ!,aS_,"parent",ls_],uQ!,λ_ _=>False,uR!,[cH_,bj_,t2_,l9!],uS!,[cA!,hx!,lc!],uT!,I8.pin ea_ ri_,uU!,Mq nl ix Z,uV!,∀cl C ao bo fp,Oq bN_ c9 tt,uW!,Za NL.length ix wi g tt te,uX!,cZ (ar J s Z H _ I h) λv s1 Y=>cZ Y λuw s2 h2=>?_,uY!,⟨JH (IQ hb hC),JH (IQ hb hD)⟩,uZ!,λb o hb e=>(db.2 b hb).trans e,u0!,eh c (ph x c h),u1!,JG I2.sz hD,u2!,∀a vs,Eh KF H a vs->Eh KF H' a vs,u3!,Ak.map ht hl hd xs vs r,u4!,aY (i:=3) iZ.nd rfl h!,u5!,λ_ _ q=>a5u e q,u6!,.dct kf ef,u7!,bR gK gL b4! aD,u8!,IV.mp K.nd,u9!,h.fr b b1 b2]
def z'uu:String:=z [ua_,aN aJ aM (b6q a_ ua! n_) aD n_,ub_,(by rw[IK];exact hl),uc_,Bq ca! eo! (wl (f2 Bv (f2 Bv (Lq V! Cm (Bi a7!)) (Aa 8)) (Lq V! (Bi a7!) Cm))),ud_,(∀(s:Shared) (u:Value),BindsTo s fd ic! [(x,u)]),ue_,Option Value,uf_,An 1 (Mn uf!),ug_,Xd K x qual st f fd,uh_,∀(kV bv pm:Value) (an:dw_) (ah ct:Value) (us:l_),aj_=P_->bindArgs mh! cF_=pure cE_,ui_,⟨oc,od,.func mh!,iq⟩,uj_,Az (Ag 2 Uh pR!),uk_,.inl (.inr ⟨o,e _ _ h⟩),ul_,["_law_row"],um_,⟨o.slots,e⟩,un_,Ab C_ lr_,uo_,wT (w2 Ue (Ag 2 (Gu t) dq_) (Ag 2 Fq un_)),up_,Str×NameKind,uq_,Ap (wT (w2 Ue (Ag 2 (Qm t) dq_) (Ag 2 Fk un_))) ew_ Bj,ur_,ForInStep (List ex!),us_,Bb 1 [3] (Bo (w2 Ce C_ fU!)) F! (Ck (fT us!)) g!,ut_,Ap (wT (w2 Ue (Nm (Ab (Sk (Ab aB! (Ab (Ag 2 (Li t) dq_) Ac))) Ac)) us_)) ew_ Bj,uu_,Bb 1 [0,3] (Gh (Fg de!)) F! fI_ (Ag 3 (Jo t) (Ab q_ (Ab C_ an!))),uv_,Ap (wT (w2 Ue uu_ (w2 Ce (w2 Ce C_ md!) aB!))) ew_ Bj,uw_,aY nd rfl a9!,ux_,aB K! lP_,uy_,f2 Sh H_ al_,uz_,bS (sc:=Aj Lz) rfl k_,uA_,∀b∈fp,b<K_,uB_,f2 Er mm_ de!,uC_,cJ (fM T) b! k! (aB cG! aH),uD_,bF T.U7 T.X5 k!,uE_,aY (show(uE!:List Str).Nodup by decide+kernel) rfl h!,uF_,Ab lp_ Ac,uG_,Ad w_ (Ad A_ Ah),uH_,Gh (Fg (f2 Er (f1 Ks uG_) lc_)),uI_,An 6 (wl (f1 Ks (Ad w_ (Ad (f2 Bv C! H_) Ah)))),uJ_,f2 Aw (f2 Er (f2 Ev a7! az_) de!) A_,uK_,Ap (Ck (fT uJ_)) (Az (Ag 2 dx! (Ab uK! (Ab (wl (f2 Al s_ (f2 Er me_ az_))) Ac)))) (Az (Ag 3 (Lj t) (Ab uK! (Ab (wl (f2 Ev a7! (fC (.int 12)))) (Ab (wl (f2 Al F_ bH!)) Ac))))),uL_,[⟨tg,iter,c9,0⟩],uM_,([]:List Value),uN_,Ap (BB (wT (w2 Ue (Ag 2 dr_ (Ab (wl V!) ii_)) am!)) (Jx (wT (Ag 2 (Jq t) (Ab (wl V!) (Ab am! Ac)))))) ew_ Bj,uO_,[aJ!,T_,a6_],uP_,[aJ!,sj!,aS_,lv!,"text"],uQ_,[z_,aS_,el!,"text"],uR_,bk_++[ms!],uS_,.int 16 tk,uT_,t.HandsError,uU_,X.env.kindOf y.1=some .cell\/X.env.kindOf y.1=some .free,uV_,∀cl C ao bo fp,PE bN_ d7 te,uX_,λh' db=>?_,uY_,I2.pin p hp,uZ_,.inr (JG I2.sz hC),u0_,λx c h=>(u0!).1,u1_,λx c h=>(u0!).2,u2_,∀a h1,Rd H a dc_->Rd H' a dc_,u3_,(by rw[IF h];rfl),u4_,λ_ _ q=>bK e q,u5_,λ_ _ q=>e.seq q,u6_,⟨a,vs,rfl,h,r⟩,u7_,aC (aN aJ aM X_ dn_ n_),u8_,⟨_,mup_same⟩,u9_,aB (a6y hN! as!) aH]
def z'v:String:=z [va!,fv ρ=some v,vb!,λb u e=>?_,vc!,Bf kp n a0,vd!,[.int a,.int b],ve!,u'++[cd!]++v,vf!,f ρ=some ds,vg!,⟨by rintro J s Z H Q I ⟨G,ρ,d,er,e,k⟩;exact h J s Z H Q I mB!⟩,vh!,λx=>if x=n then[]else W.txt x,vi!,∀Z G H Q ρ d,OR X.K own G H Z ρ->ft ρ=some d->(∀G' H',Bn G H G' H'->Q d H')->t Z H Q,vj!,λb o z=>?_,vk!,if y=n then[]else W.txt y,vl!,a6h ho ha.ok hb.ok,vm!,b2z hr ha.ok hb.ok hs,vn!,("numbers",.fn a4),vo!,b2f h.ok he,vp!,⟨b2b h.ok⟩,vq!,⟨G1,ρ,d,cM!,e,λG2 H2 s2=>k G2 H2 dB!⟩,vr!,.dir false,vs!,⟨h.ok.pt⟩,vt!,⟨b2w h.ok⟩,vu!,λv G1 H1 s1 r1=>?_,vv!,k _ G1 H1 s1 Ao.bl,vw!,k _ G1 H1 s1 Ao.bl,vx!,a0n hc.ok ha.ok hb.ok,vy!,(by rw[<-aG r1];exact eG hl),vz!,s1.sub.free hp,vA!,rE hc hg hm hv ha.ok hn a8 he a7,vB!,(aq!).length=P_,vC!,∀ρ ds,fs ρ=some ds->g_=n,vD!,h.inj _ _ l' hd z,vE!,(by rw[e1];exact hb),vF!,Int->Int->D,vG!,.bl (decide mP!),vH!,.bl (decide f7_),vI!,j<1073741824,vJ!,λi j=>decide (0<=j)&&decide (j<=1000000)&&decide (cz!<2 ^ 64),vK!,.bl (Pi i j),vL!,mup_ne (JF p2),vM!,Tp xs lo hi,vN!,PO X lo (Zs X.K own ol),vO!,ad (.nm i),vP!,s4.trans iB_,vQ!,if x=i then l else W.txt x,vR!,λq hq y hy q' bf e=>?_,vS!,p.mem_iff.mp hq,vT!,(bQ!).sl i false l,vU!,λa z=>(by subst z;rcases e2),vV!,.int (k':Nat),vW!,setT W i (U++(mU_).map dD_++v),vX!,.builtin "all",vY!,.int (k0:Nat),vZ!,.fn (ad (.row i false)),v0!,(∀d,ds[i]?=some d->af.go i H'/\∀x gj,af.yld i H' x gj->∃rq,Bn G' H' rq gj/\Ao KF rq d x),v1!,hI.inj _ _ l hi z,v2!,Ak KF G1 ds vs,v3!,(D.tup iG_,D.str Y_,true),v4!,(by rw[hl,JA];exact IP _ z),v5!,⟨dE_,λhi=>by rw[IK,NX]at hi;exact NO hi.symm⟩,v6!,Cg b=some kb,v7!,(λr M'=>match r with|.rt d=>R d M'|.nx _=>R .non M'),v8!,f ρ M λ_ M1=>q ρ M1 R,v9!,Ys KF af ds G1]
def z'vv:String:=z [va_,r.mono (gX h),vb_,⟨v,Y,h2.mono x.g⟩,vc_,Z[i]?=some cc!,vd_,[.int a,.int b,.int c],ve_,(ag_).map c_,vf_,BC X.K own f,vg_,(by rw[<-z];exact hq),vh_,λx=>if x=n then[.int 0,.int 0,.int 0,.int 0]else W.num x,vi_,λa b hm=>?_,vj_,if b∈Ii own Z then none else G' b,vk_,if x=n then[.int 0,.int 0,.int 0,.int 0]else W.num x,vl_,a6k ho ha.ok hb.ok hm,vm_,a6b ho ha.ok hb.ok hm,vn_,⟨d,rfl,mE_⟩,vo_,⟨a6a h.ok⟩,vp_,b2c ha.ok hb.ok,vq_,k G1 H1 s1,vr_,c1y ha.ok hb.ok,vs_,oF mI! (ad (.dir true)) (ad vr!) (ad .nums) mI_ (ad .hid),vt_,b3c ha.ok hb.ok,vu_,λv G2 H2 s2 r2=>k v G2 H2 dB! r2,vv_,c1z ha.ok hb.ok,vw_,DT X own c ft,vx_,dB h.ok hs.ok bc,vy_,s1.trans (Bn.laid s1.sub hp),vz_,⟨by rw[s];exact JG ty.1 hB,by rw[s];exact ty.2⟩,vA_,Zc X.K ps.length g,vB_,∀ρ ds,fs ρ=some ds->g_=P_,vC_,(by rw[KA];decide),vD_,k _ G H aN! Ao.str,vE_,∀c,O c->M' c=M c,vF_,∀i j H,Ao KF H a5! (gv i j),vG_,k _ G H aN! (hg _ _ G),vH_,λ_ j=>decide (0<j),vI_,λ_ j=>decide (0<j)&&decide vI!,vJ_,.inr (.inr ⟨dX!,rfl⟩),vK_,k v G H aN! h2,vL_,Cg i=some ki,vM_,(eI!).set p.toNat hz_,vN_,PO X hi (Zs X.K own oh),vP_,a0i rr l h,vQ_,∀x∈W.its,s∉(a8_).map c_,vR_,W.txt i=U++v,vS_,(by rw[hl];exact z),vT_,⟨q,.inl z,h⟩,vU_,(λxs H Q=>∃x n,xs=[x]/\AU KF x H n/\Q hz_ H),vV_,[ba!,bq!,vV!],vW_,bs.map V.bl,vX_,hI.row (b:=false) hi,vY_,⟨_,_,_,rfl⟩,vZ_,.int (k0:Nat),v0_,i=g_->af.stop i H',v1_,PI X tg e wi,v2_,mup M1 mI_ (.dct (Bf k5 bs! es!) (Hq k5 bs! e5)),v3_,setT W i (U++mY_::v),v4_,Kk j.toNat,v5_,⟨hl,iH!⟩,v6_,if i∈W.its then setT W i (wrT b gb! f8_)else W,v7_,AR KF 2 (Rv d7! (Rv (Ll j) AS)),v8_,fo ρ=some Z!,v9_,⟨cF (by rw[<-aG az];omega),?_⟩]
def z'w:String:=z [wX!,Around,wY!,Value,wZ!,World,wa!,λv H2 hy=>?_,wb!,∀q,Hw V' q->Hw V q\/N q,wc!,az.mono x2.g,wd!,e▸nw q l,we!,λx0 x1 x2 x3 x4=>(he x0 x1 x2 x3 x4).ok,wf!,Aa 0 ρ=some iC!,wg!,EF X.K G0 F0 own ce f,wh!,DS X own ba st q1,wi!,q=.row x b\/q=.fol x b\/q=.pre x b,wj!,old .ob trivial,wk!,wP hN hi hx h.ok hs hf,wl!,⟨G',ρ,r,er.grow x',e2,k⟩,wm!,s.or.sub.trans ww,wn!,(V.sl x b []).ls x b,wo!,(by rw[<-z.1,<-z.2];exact l),wp!,λz=>absurd z.symm cz,wq!,(λb u e=>by rw[aS (hG e)];exact s.or.sub b u e),wr!,(λ(r:Fl) (M':Mh)=>match r with|.rt d=>R d M'|.nx _=>R .non M'),ws!,[na!,bo!,some a,cO_,some pl],wt!,h5.mono x.g,wu!,chl W.rows pl,wv!,λvs H Q E h=>h.1,ww!,hb ah A outer s H E hr,wx!,rB I xs ys vs n n' rr b5,wy!,IB ⟨c1,rfl⟩,wz!,ds.getD j .non,wA!,Ex X.K H b ws,wB!,(by rw[HZ,HZ,<-h3,<-h4,<-Y,<-h2];simpa using hl),wC!,a0e I _ _ _ n n' r r',wD!,A.units+Hk d<cLine,wE!,Fu X.K r' g',wF!,fa ρ=some v!,wG!,fa ρ=some af_,wH!,⟨G,ρ,x,er,e1,λv G1 H1 s1 r1=>⟨G1,ρ,y,cM!,e2,λw G2 H2 s2 r2=>hg s2.sub eE_ r2 e3 λt G3 H3 s3 r3=>?_⟩⟩,wI!,(r2.mono s3.g).mono s4.g,wJ!,fa ρ=some x,wK!,L2.Key×Value,wL!,ha.ok J s Z H _ I h,wM!,b5b (k:=Sum.inr z) r1,wN!,Ok X.prog X.w X.K X.mg X.base k x ps g,wO!,.bl (a==b),wP!,λi _=>i<iU!,wQ!,x.cps.toList.map λc=>.str Y_,wR!,⟨(KP.mp hc).1,λv gj hy=>?_⟩,wS!,c2d a_ a_,wT!,I1.kept λb o e=>HU _ e,wU!,ys.map V.str,wV!,wrT b eO! bu!,wW!,s.heap.IsTuple tt xs,w0!,(mU_).map dD_,w1!,Obj.cls_mapFields ..,w2!,Uk W iW_ d W',w3!,w.its x hx,w4!,Hn W iW_ bi,w5!,show A.in1.handled=none from hh,w6!,HS (wpAny_throw ?_),w7!,((eP_).extBut.push _).push _,w8!,xs[k1]?=some x,w9!,Builtin.«zip.__next__» ⟨[.ref z],[]⟩]
def z'ww:String:=z [wa_,⟨go,wa!⟩,wb_,∀q,N q->M (bg q)=none,wc_,((wc!).mono x3.g).mono x4.g,wd_,(wc!).mono x3.g,we_,a6j cj cg j4 gr cap calm ar.ok hg hi we! hs,wf_,Aa 1 ρ=some x,wg_,m1 _ (h.lv (q:=.ob) trivial),wh_,(by rw[z]at l;exact l),wi_,h2.ok G0 F0,wj_,.Assign eJ! e pos,wk_,m1 _ (h.lv l),wl_,Z.set i cc!,wm_,λj d q n=>?_,wn_,(by rw[KI wv]),wo_,⟨aW_,aW_,aW_⟩,wp_,hy.resolve_right c,wq_,[e].length+(du_).length+es_<30,wr_,.Call (.Attribute bt! "append" ax) [e] [] ai,ws_,dB h.ok fK bc,wt_,Xd KF x qual st ag fd,wu_,(((({Ls W with pr:=λa p=>((bQ!).pr a p/\a≠n)\/(a=n/\p=pl)}:Ix).sl pl true (Lf n b wu!)).nw n true).nw n false).nn n eL!,wv_,F.ok S wv! (λah A outer s H vs Q E hr h=>?_),ww_,⟨er,Bn.refl sub,ao!⟩,wx_,(by unfold Av at h;exact h),wy_,IF λz=>c1 z.1,wz_,es.getD j .non,wA_,(List.range (min us.toArray.size nd_)).all (λj=>Ew wz! wz_)&&iN_==nd_,wB_,Eh X.K H b ws,wC_,f cP!=some d,wD_,⟨dx,dy,rx.mono sub,ry.mono sub,h.1.1,h.1.2,h.2,dE!⟩,wE_,Ea g g' fa fb fc,wF_,f ρ=some a4!,wG_,fb ρ=some d,wH_,⟨bb,rfl,?_⟩,wI_,nq.trans (s4.trans s5),wJ_,fb ρ=some y,wK_,λJ s Z H Q I h=>?_,wL_,(c:Int)==37,wM_,cs.map λc=>.str Y_,wN_,Addr->Option ni_,wO_,(((n::r).map D.int).length:Nat),wP_,λi _=>iU!<=i,wQ_,cN rfl rfl rfl,wR_,∀i h,fm i h->∃o,h.get? it=some o/\∀v,o.data≠.cell v,wS_,λi h=>i<=iU!/\fm i h,wT_,λi h st=>z7 _ i h st,wU_,.str (Txt.join z ys),wV_,s.heap.IsTupleIter jt tt n,wW_,Builtin.SmallTypes.nextOf (.ref jt),wY_,[ba!,bq!,gi_],w1_,D.tup bR!∉pre,w2_,pre++[.tup bR!],w3_,(by first|rfl|(dsimp only[firstArgMember];rfl)),w4_,wpAny_handled ?_,w5_,⟨_,_,rfl⟩,w6_,(mC_).resolve_right e,w7_,setT W a wV!,w8_,ys[k2]?=some y,w9_,(λfin s'=>∃v,fin=.done (.ret v)/\Q v s')]
def z'x:String:=z [xc!,Program,xR!,Shared,xa!,ft ρ=some true,xb!,ft ρ=some false,xd!,g9.extBut cb.extBut D.l1z,xe!,RN sm λh3 u9 de=>?_,xf!,bW (bW (bW g2 cb.extBut D.i2z) bu.extBut D.i12.symm) de.extBut D.TOi2.symm,xg!,((iu.extBut cb.extBut D.l2z).extBut bu.extBut D.l2i1).extBut de.extBut D.l2TO,xh!,[ap!,bo!,some d],xi!,fo ρ=some d,xj!,rawInt xg_,xk!,cb.extBut _ _ c1 x,xl!,pyNext i1_,xm!,F.entry_zip_next,xn!,λx hx=>h x bt_,xo!,DJ h l1 l2,xp!,.tup [.int o.tm,nt!],xq!,∀a,k' (f a)=k a,xr!,DK s.heap l1 l2,xs!,(a.map Op.key).Nodup,xt!,⟨o,es,ep,kp _ o (λz=>(hf _ z).2.1 rfl) ho,r⟩,xu!,λd o' hd e'=>kp d o' (λhm=>?_) e',xv!,λ_ e'=>e',xw!,Al o.v bF_,xx!,(show nv!=true by decide+kernel),xy!,[z,TI,TO,i1,i2],xz!,Mt nB! os B,xA!,.nx [O_,ab!,y'],xB!,λc o _ _ _ e _=>e,xC!,λc o hc e n=>?_,xD!,((xw!).bind λx=>Al x aI!)=_,xE!,(λc o u e=>by rw[nD!];exact e),xF!,Bf σ a ai!,xG!,(by unfold Mt;rw[hu];exact Y),xH!,(λd q=>by rw[nE_];exact q),xI!,λo ho=>hd o (b7.mem_iff.mp ho),xJ!,λM' ep y Y h2=>hR p M' ep hp Y λb hb=>(nE!).trans nD_,xK!,(∀b,b≠q->M' b=M b),xL!,bootBuiltins "zip"=some nw!,xM!,X.mg "zip"=none,xN!,.Call (.Name "zip" p) bb_ [] pos,xO!,(nG_).getD .non,xP!,[gr!,none,none,none,none],xQ!,(λx y H Q=>Pz (λi j=>.bl k8_) x y H Q\/∃i j,x=.str i/\y=.str j/\Q vK! H),xS!,W.nsIn KF mainGlobals x=some dd_,xT!,KF.lookup f=some ⟨oc,od,.func xS_,iq⟩,xU!,∀(kV bv pm:Value) (an:dw_) (ah ct:Value) (us:l_),aj_=P_->bindArgs xS_ cF_=pure cE_,xV!,(Sum.inr r.1:L2.Key)=Sum.inr y,xW!,Sum.inr.inj z,xX!,[(root,.non),(binn,.non)],xY!,fs.map V.ref,xZ!,([.hid,.wri,.nums,.dir false,.row binn true,.fol binn true,.pre binn true,.row root true,.fol root true,.pre root true,.dir true,.par,.ob]:List Qu),x0!,.fol root true,x1!,.pre root true,x2!,.pre binn true,x3!,(by cases h),x4!,es[i]?=some e,x5!,s.heap.get? d=some o,x6!,dictWalkPlain d u cT! es ja_,x7!,λ_ h=>(by exact(cR!).elim),x8!,(by simpa using a9),x9!,(by show 1<100;decide)]
def z'xx:String:=z [xb_,LI gz c! λY lq cb=>?_,xc_,xN xe_ xd! gx λh2 z8 bu=>HS ?_,xd_,cb.extBut _ _ D.TOz gO,xe_,bW g1 cb.extBut D.i1z,xf_,(D.str k::r),xg_,h5.objs.size,xh_,de.extBut _ _ D.TOz.symm (bu.extBut _ _ D.i1z.symm lq),xi_,f4 ρ=some e,xj_,xs[k1]?=none\/ys[k2]?=none,xk_,k="undo"\/k="redo",xl_,⟨_,gz,rfl⟩,xm_,F.args_zip_next_1 _,xn_,DK h l1 l2,xo_,k="undo"\/k="redo",xp_,α->Int×Int,xq_,DM s.heap l1,xr_,DJ s.heap l1 l2,xs_,I.step ny! (λc o _ _ hc e _=>kp c o hc e) (λc o _ _ hc e _=>⟨o.slots,kp c o hc e⟩) p0_ (λc o hc e=>⟨o,kp c o hc e⟩) p1! p1_ (λc ps e=>kx!) p3! nz_ I.bare,xt_,I.hok c o e,xu_,λx=>Aw x cg_,xv_,[a1,a2,a3,a4],xw_,Al dJ! I_,xx_,(show nu_=true by decide+kernel),xy_,Mt .str os A,xz_,Mt .str os σ,xA_,⟨trivial,hR M ep y hp λb _=>rfl⟩,xB_,λc o _ _ _ e _=>um_,xC_,λc o _ e=>⟨o,e⟩,xD_,(λc xs e=>by rw[nD!];exact e),xE_,mup M p (.dct xF! Bb!),xF_,λc ps e=>⟨#[],by rw[nD!,e];simp⟩,xG_,λM' bp y' Y h2=>hR M' bp y' xG! h2,xH_,I1.hok c o e,xI_,(by rw[b7.length_eq];simp;omega),xJ_,.dct dt bp,xK_,(λx=>by simp),xL_,starEach bb_ X.env=c9_::starEach [b] X.env,xM_,(backTo pos (starEach [b] X.env)).any c_=false,xN_,(by simpa using h2),xO_,.dct kq ep,xP_,λi p h=>(by simp[W0]at h),xQ_,(by assumption),xS_,W.fnOf x x ie! a8! aU_ .none kV bv pm an ah ct,xT_,W.codeIn KF ah x=true,xU_,rows.map (AB w),xV_,(λz=>by simp at z),xW_,[(root,.fn r1),(binn,.fn r2)],xX_,fs.map D.fn,xY_,fs.map Value.ref,xZ_,List L2.Key,x0_,.fol binn true,x1_,(show v=.none from hx),x2_,QB hT OB.lookup ?_,x3_,λi hi=>?_,x4_,Ml P w s.heap es ks,x5_,o.data=.dict es ep,x6_,.obj t.B6 [],x7_,⟨x7!,KU,x7!,fu!⟩,x8_,λe=>hh (by rw[q3,e];simp),x9_,(by show 2<100;decide)]
def z'y:String:=z [ya!,(by show 3<100;decide),yb!,ar=none/\rest.find? cS_=Kg ks k,yc!,(by rw[<-e];exact q1),yd!,OJ ho hd ?_,ye!,(show B+20*(os.length+1)=B+20+20*os.length by omega),yf!,(by rw[show Op.nm x=Op.nm y from z.symm];exact IU hy),yg!,Nj i4_ aY!,yh!,[gr!,ap!,aY_,none,none],yi!,(λx _=>by simp),yj!,(by rw[e3,e1];exact hb),yk!,dictGet a u,yl!,g M x y=some d,ym!,aa!<=sizeLine,yn!,Pu f2 ρ M b,yo!,zB ho hc hd (by simp[Yj]),yp!,Pu fv ρ M v,yq!,mup M p (.lst (xs.set i v)),yr!,some (.lst yq_),ys!,((j+1:Nat):Int),yt!,⟨n+1,?_⟩,yu!,σ.map Op.v,yv!,.ins C dx vs,yw!,(u++o::v++os),yx!,a.free hM z,yy!,.tup [.str a,.str b],yz!,(a==k||b==k),yA!,MR P w KF M' G' H',yB!,BEq.comm (a:=Str.ofString "redo"),yC!,Hq σ u.2 ep,yD!,⟨by rintro J s Z H Q I ⟨G,ρ,M,R,st,e,k⟩;exact h J s Z H Q I n4!⟩,yE!,∀Z G H Q ρ M R,Qq X.prog X.w X.K own G H Z ρ M->ft ρ M R->(∀d M' G' H',R d M'->XM M G H M' G' H'->MR X.prog X.w X.K M' G' H'->Q d H')->t Z H Q,yF!,if _ then _ else f8!,yG!,W.its.map λi=>(i,.lst jm!),yH!,⟨_,rfl,k _ M' G' H' r' x' m'⟩,yI!,⟨G1,ρ,M1,R,jn!,r1,λd M2 G2 H2 r2 x2 m2=>k d M2 G2 H2 r2 cl! m2⟩,yJ!,k _ M1 _ G1 H1 r1 x1 m1 Ao.bl,yK!,Bn.laid x1.sub hp,yL!,λb z=>absurd rfl z,yM!,m1.ext yK!,yN!,.tup [c,d],yO!,(match rs[k]? with|some q=>!decide (q.2=p)|none=>false),yP!,Bm [.lst dO!]=_,yQ!,Hq h1 d ep,yR!,∀bh s',Inv X J Z jr_ s'->Fv X.prog X.w X.K G jr_ a yR_->Q () s',yS!,((k+1:Nat):Int),yT!,⟨_,rfl,JW h⟩,yU!,.builtin "dict.get",yV!,ifT (by rw[cond,IN z]) ?_,yW!,.inr ⟨j,p_,h2,h3⟩,yX!,Bb 1 [1] _ _ _ _,yY!,HP (PN hT Q!),yZ!,wo W.rows i,y0!,!decide (q.1=i),y1!,[ac!,aU!,e0!,dN_,gE_,mW_,none],y2!,(rs.take a++bo_::rs.drop a),y3!,.lst ((dO!).drop a),y4!,k3 ju! eY_ eZ!,y5!,λq=>decide gG_,y6!,fx ρ=some x,y7!,Bw t8! fT! DN,y8!,Ck (Si "move"),y9!,Gb (Ck (Si "set")) Rt]
def z'yy:String:=z [ya_,ks[i]?=some k',yb_,(∀x∈os,x.nm∉pre),yc_,(∃ue,Qt W' ue),yd_,h5 q (by rw[oq];simp) vn,ye_,λy hy z=>?_,yf_,(ops.map Op.nm).Nodup,yg_,(∃pre,Qt W' pre),yh_,hp.mem_iff.mp hx,yi_,(gx_).nodup_iff.mpr nn,yj_,sV hu x hk ho hd ?_,yk_,HP (xQ hu hk λtk=>HP yj_),yl_,(je_).getD z,ym_,dictSet a u v,yn_,Ab f1 (Ab f2 Ac),yo_,Pm ft ρ M true,yp_,ho _ (hi _ ?_),yq_,l.map Op.v,yr_,Paired F l m,ys_,some (.int nY!),yt_,(by rw[df,i1];rfl),yu_,.int (co!:Nat),yv_,Fv P w KF G H a c,yw_,MR P w KF M1 G1 H1,yx_,(by rw[hM];simp),yy_,(by rw[e];simp),yz_,⟨?_,h2.mono x.g ?_⟩,yA_,List D->Mh->Prop,yB_,Bf σ u.2 eS!,yC_,Yw X.prog X.w X.K own f,yD_,rF nd hl ?_,yE_,⟨_,xQ_,h⟩,yF_,Qq X.prog X.w X.K own G H Z ρ M,yG_,W.its.map λi=>(i,.fn (qa i)),yH_,.dct yG! e,yI_,k _ M1 G1 H1 r1 x1 m1,yJ_,.inr (.inr ⟨i,hi,rfl⟩),yK_,x1.trans (.ext yK!) m1,yL_,x1.sub.free hp,yM_,⟨Y,h2.mono (At.refl G) (aS hb)⟩,yN_,∀q∈rs,Sd q.1/\Sd q.2,yO_,λY h2 z q=>?_,yP_,.bl (!decide ((e0_).2=p)),yQ_,(f1 Bm h7_ by_).bind (λz=>Sh dM_ z)=_,yR_,.dct n0_ yQ!,yS_,[R!,aU!,e0!,dN_,gE_,gG!,y],yT_,((List.range' k m)).map λj=>D.int nV_,yU_,⟨o,rfl,h ho⟩,yV_,(by rw[cond,IG z]),yW_,upd H a (dE a bh cT_),yX_,[ac!,aU!,e0!,dN_,none,none,none],yY_,⟨by simp[big];omega,?_⟩,yZ_,λ_ K hK=>hK,y0_,Al gD_ I_,y1_,.inl ⟨rfl,λj hj=>by omega⟩,y2_,.lst ((dO!).take a++[Ax bo_]),y3_,pY a! I m sub e ⟨_,r,rx⟩ hk λs' I'=>HS ⟨.bl _,H,I',rfl,q⟩,y4_,Hq n6! et_ e,y5_,W.rows.filter λq=>decide gG_,y6_,kget cn! x,y7_,Ck (Si "put"),y8_,Ck (Si "drop"),y9_,Ap (Gb (Ck (Si "write")) Rt) Qp (Ap (Gb (Ck (Si "cut")) Rt) Bg Bj)]
def z'z:String:=z [zM!,W.Frag,za!,Pn X.prog X.w X.K r g,zb!,x1.trans jz_ m1,zc!,b=true->q1 ρ M R,zd!,⟨ys,z,rfl⟩,ze!,sub.free hl,zf!,mup M2 q.1 (.lst (q.2++[v])),zg!,.Call (.Attribute o "append" ax) [a] [] ai,zh!,.inl ⟨rfl,xb,Eh.of hH⟩,zi!,W.its.map λi=>dQ!,zj!,fx ρ=some a,zk!,m2.write z3 ⟨_,bI,cG h2 (Ak.cons q2 Ak.nil)⟩,zl!,kget q.2.1 y,zm!,(e3_).grow x2 m2,zn!,(bx_).mono x3.g,zo!,l[j]?.map c_,zp!,Ff fo fa fb,zq!,some (.tup [nk_,a0,b,tx]),zr!,dE s.heap.objs.size [] 0,zs!,List ai_->Mh->Prop,zt!,MP X own pos keys jp fp,zu!,(by rw[IR,LO];omega),zv!,D.tup ba_∉W.its,zw!,Bf cn! ae! bA!,zx!,BD X.prog X.w X.K M0 G0 F0 own ce f,zy!,Hq jE_ ae! e2,zz!,JI (ne j hj),zA!,Bn G jF! G' H',zB!,IF (λhr=>by rw[(s.root hr).2]at e;rcases e),zC!,h2.ok M0 G0 F0,zD!,λd M' v G' H' r x m q=>k2 d M' v G' H' r (sr.x.trans x or!) m q,zE!,Ap ft q1 q2,zF!,λd M' v G' H' r x m q=>k1 ρ M' G' Z H' r os!,zG!,mup M2 p zF_,zH!,(zG_).grow x2 m2,zI!,a7n hL dv0 dv2 gq,zJ!,[ac!,L!,none,none,none,none,none,none,none,none],zK!,[ac!,L!,some o.d,none,none,none,none,none,none,none],zL!,fb ρ=some z,zN!,∀x,(kget wd x=none/\kget kb x=none)\/∃k:Str,kget wd x=some ai!/\kget kb x=some eS!,zO!,Ey x.d=none/\¬kget wd x.nm=some b5!,zP!,[O_,ac!,ab!,some x.v],zQ!,bw.mono a!,zR!,LR sm rfl ?_,zS!,IV.mpr ⟨HY,KU⟩,zT!,(by show 3<=1000;decide),zU!,⟨se lj,?_⟩,zV!,⟨m9,cy.mr,ao!⟩,zW!,Yw X.prog X.w X.K [] ft,zX!,∀cl C ao bo fp,ME bN_ [] d7 fe,zY!,⟨pe.or.cap NL.length ix sh,m1,ao!⟩,zZ!,mM (pI h) rfl,z0!,λds M1 vs G1 H1 r1 x1 m1 q1=>?_,z1!,Ay C m ps.length g fo fs,z2!,λds M2 us G2 H2 r2 x2 m2 q2=>?_,z3!,⟨by rw[IW,<-aG q2];exact r2.1,G2,.fn p::ds,M2,R,x2.sub,m2,Ak.cons Ao.fn q2,r2.2,λd M3 v G3 H3 r3 x3 m3 q3=>k d M3 v G3 H3 r3 ol! m3 q3⟩,z4!,mup M1 x (.obj C []),z5!,⟨G,_,M,_,⟨⟨er,m,ao!⟩,.refl sub,ao!⟩,e.2,λaj M' G' ae H' r sr=>kk _ M' _ G' H' r sr.x sr.st.mr Ao.non,λd M' v G' H' r x m q=>kk d M' v G' H' r x m q⟩,z6!,(d==sysModules)=false,z7!,List (Addr×D),z8!,OK (JV hT LC (JR LC hT RE ?_ (QZ _))),z9!,Ga hD! aA! hC! [none,none] jI!]
def z'zz:String:=z [za_,Aa 2 ρ=some no!,zb_,Gb (Ck ft) fu,zc_,b=false->q2 ρ M R,zd_,Bn.laid sub hl,ze_,(by rw[kK,IB ha]),zf_,attributeBase o "append" X.env d7_=eval o X.env,zg_,u.map λi=>dQ!,zh_,λz M2 u G2 H2 r2 x2 m2 q2=>?_,zi_,⟨_,vs,u,rfl,rfl,Y,by rw[<-aG h2];exact IQ r2.1 (cF p!),?_⟩,zj_,(cl!).trans (.write m2 x2.sub z3) m2,zk_,L.cell (wt,_) gD!,zl_,.Attribute o "get" ax,zm_,hb.run I2 zm! r2 λz M3 zv G3 H3 jv s3 r3 x3 m3 q3 I3 rz=>OM ?_,zn_,⟨yv,zp_,ry⟩,zo_,⟨zv,q3,rz⟩,zp_,q2.mono x3.g,zq_,[ac!,R!,zq!,some nm,y4,some jB!,gG!,y,none,none],zr_,⟨#[s.cps.toList.getD k 0]⟩,zs_,[ac!,R!,jC_,cf!,y4,some oi_,e4_,none,none,none],zt_,mup M c (.dct (σ++h1) (n+ak!)),zu_,p.mem_iff.mpr hq,zv_,a∈W.its\/a=root,zw_,Hq cn! ae! e1,zx_,Bf jE_ ae! bS_,zy_,λj hj p e=>?_,zz_,λb=>O b\/b=q,zA_,λb o e hb=>?_,zB_,(_,Cq.dct ((gK!).map _) _),zC_,⟨G,ρ,M,_,sr,e,λaj M' G' ae H' r dh=>⟨G',aj,M',R,dh,r,k1,k2⟩,λd M' v G' H' r x m q=>k2 d M' v G' H' r x m q⟩,zD_,λd M' v G' H' r x m q=>k1 _ M' G' _ H' r ((os!).set b8 q),zE_,⟨G,ρ,M,_,sr.st,e,λb M' G' H' r x m=>?_⟩,zF_,.obj C (Gk x y fs),zG_,sr.grow x1 m1,zH_,Vf w x0 d nm,zI_,.Subscript o i p2,zJ_,Bq fo fi f,zK_,.write m3 x3.sub hM,zL_,∀K:Bool->Mh->Prop,K b M->ft ρ M K,zM_,λd M' v G' H' r x m q=>?_,zN_,.dct kb e0,zO_,Rz X own own body q1,zP_,(by rw[h2];rfl),zQ_,(by simpa using c'),zR_,(by rw[ye!];exact g4),zS_,k3 bA! eY_ eZ!,zT_,Vt r r' ta tb tc,zU_,(by rw[<-z];exact hc),zV_,mM (yW h) rfl,zW_,∀cl C ao bo fp,Oq bN_ c9 zW!,zX_,Bb NL.length ix fi bnd ft fe,zY_,mM ar! rfl,zZ_,eU rfl (b3e rfl),z0_,(by rw[<-aG q1];exact r1.1),z1_,⟨G,ρ,M,_,st,e',ox!⟩,z2_,(MU.mpr λx hx=>by obtain⟨_,_,rfl⟩:=IY.mp hx;rfl),z3_,qX rfl ?_ (mM (vY _) uh),z4_,Vj X.prog X.w X.K X.mg X.base k x C ps g,z5_,Ms h d es ep,z6_,s.heap.IsKeyIter it d i es.length ep,z7_,∀c∈cs,∃g,Hu t c.1=some g/\g [c.2]=some v!,z8_,HS (HP hB!)]
end
open Lean in
local macro_rules|`($s:ident)=>match s.getId with|.str .anonymous t=>let c:=t.back;if c=='!'||c=='_' then match (let b:=c=='!';if t.length<3 then if b then z'0 else z'00 else match t.front with|'a'=>if b then z'a else z'aa|'b'=>if b then z'b else z'bb|'c'=>if b then z'c else z'cc|'d'=>if b then z'd else z'dd|'e'=>if b then z'e else z'ee|'f'=>if b then z'f else z'ff|'g'=>if b then z'g else z'gg|'h'=>if b then z'h else z'hh|'i'=>if b then z'i else z'ii|'j'=>if b then z'j else z'jj|'k'=>if b then z'k else z'kk|'l'=>if b then z'l else z'll|'m'=>if b then z'm else z'mm|'n'=>if b then z'n else z'nn|'o'=>if b then z'o else z'oo|'p'=>if b then z'p else z'pp|'q'=>if b then z'q else z'qq|'r'=>if b then z'r else z'rr|'s'=>if b then z's else z'ss|'t'=>if b then z't else z'tt|'u'=>if b then z'u else z'uu|'v'=>if b then z'v else z'vv|'w'=>if b then z'w else z'ww|'x'=>if b then z'x else z'xx|'y'=>if b then z'y else z'yy|'z'=>if b then z'z else z'zz|_=>if b then z'0 else z'00).splitOn ("\r"++t++"\r") with|[_,f]=>do return z'Z (.fromRef (<-getRef)) f|_=>Macro.throwUnsupported else Macro.throwUnsupported|_=>Macro.throwUnsupported
open Lean in
local macro_rules|`(tactic|push_cast)=>`(tactic|show"pc!")|`(tactic|push_cast[$x,*])=>match z't't.splitOn "\rpc!\r" with|[_,f]=>do let s:=(z'Z (.fromRef (<-getRef)) f)[1][1][0][0][0];return s.setArg 4 (s[4].setArg 1 (mkNullNode (s[4][1].getArgs.push (mkAtom ",")++x.elemsAndSeps)))|_=>Macro.throwUnsupported
open Lean in
local macro_rules|`(tactic|show$s:str)=>match z't't.splitOn ("\r"++s.getString++"\r") with|[_,f]=>do let q:=z'Z (.fromRef (<-getRef)) f;let q:TSyntax ``Lean.Parser.Tactic.tacticSeq:=⟨q[1][1]⟩;`(tactic|($q))|_=>Macro.throwUnsupported
set_option hygiene true
open Lean in
local macro_rules(kind:=Lean.Parser.Command.declaration)|x=>if x.getPos?.isNone||x[1].isOfKind ``Parser.Command.theorem then Macro.throwUnsupported else let m:=(x[0].reprint.getD "").trimAscii.toString;let p:=m=="protected"||(x.find? (·.isOfKind ``Parser.Tactic.renameI)).isSome;let N:=z'N (!p) 9999;let k:=N x[1];let u:=match k[1][0].getId with|.str _ s=>s.front.isUpper|_=>false;match k.isOfKind ``Parser.Command.definition&&(m=="protected"||m==""||m=="nonrec"),u||m=="nonrec" with|true,false=>do let d<-`(theorem $(⟨k[1]⟩):declId $(⟨.node .none ``Parser.Command.declSig #[k[2][0],k[2][1][0]]⟩):declSig $(⟨k[3]⟩):declVal);if p then return N (<-`(set_option tactic.hygienic true in $d:command)) else return N d|true,_=>do return N (<-`(noncomputable def $(⟨k[1]⟩):declId $(⟨k[2]⟩):optDeclSig $(⟨k[3]⟩):declVal))|_,_=>return N x
open Lean in
local macro_rules|`(universe $x*)=>do let p:=`PySem.Challenge;let c:=p.str "cw_manyhands_k14_whole_nothing_lost_holds";return mkNullNode (<-(p.str "pw_manyhands_k14_whole_nothing_lost"::x.toList.map (λi=>c.str i.getId.toString)++(List.range 887).map λn=>c.str s!"o_{n+43}").toArray.mapM λn=>do return z'N false 99 (<-`(noncomputable def $(mkIdent (PySem.W.Fast.stemOf n).1):ident:=0)))
universe env_41 heap_39 heap_46 heap_930 sts_109 sts_124 sts_167 sts_232 sts_262 sts_313 sts_49 sts_515 sts_552 sts_610 sts_64 sts_688 sts_775 sts_79 sts_856 sts_94 tree_108 tree_123 tree_166 tree_229 tree_261 tree_312 tree_429 tree_47 tree_511 tree_551 tree_609 tree_63 tree_687 tree_774 tree_78 tree_855 tree_929 tree_93 view_39
local macro_rules|`(tactic|omega)=>`(tactic|first|lia|omega +splitDisjunctions)
theorem z'Hd{G:Prop}(h:∀g:Prop,(G->g)->g):G:=h G λx=>x
set_option hygiene false in
local macro_rules|`(tactic|obtain $p:rcasesPatMed:=$e:term)=>do let s:=p.raw.reprint.getD "";if (s.splitOn ",").length>2+(s.splitOn "rfl").length then `(tactic|first|(refine z'Hd λz'g z'k=>?_;rcases $e:term with $p:rcasesPatMed<;>refine z'k ?_<;>clear z'g z'k)|rcases $e:term with $p:rcasesPatMed) else `(tactic|rcases $e:term with $p:rcasesPatMed)
open Lean in
local macro_rules|`(tactic|rintro $x:rintroPat*)=>let l:=x.back!.raw[0];let p:TSyntax `rcasesPat:=⟨l⟩;if l.isOfKind ``Parser.Tactic.rcasesPat.tuple&&((l.reprint.getD "").splitOn ",").length>3 then `(tactic|(rintro $(x.pop):rintroPat* z';obtain $p:rcasesPat:=z')) else Macro.throwUnsupported
set_option hygiene false in
local macro_rules|`(tactic|rcases $x:term)=>`(tactic|first|exact d0q $x rfl|exact cne $x rfl|exact cneB $x rfl|exact d0r $x rfl|obtain rfl:=Option.some.inj $x|subst $x)
set_option tactic.hygienic false
noncomputable section
def d0q{P:Prop}{x y:Option α}(h:x=y)(e:(x.isSome==y.isSome)=false):P:=by subst h;rw[LS]at e;cases e
def d0r{P:Prop}{x y:R_}(h:x=y)(e:(x.isEmpty==y.isEmpty)=false):P:=by subst h;rw[LS]at e;cases e
namespace L2
open PySem PySem.Spec PyProof.Rows
abbrev Key:=Sum Int Str
def Oh:Key->Value->Bool
 |.inl k,v=>Value.isInt k v
 |.inr x,v=>Value.isStrOf x v
def CP(w:wZ!):Key->Int
 |.inl k=>hashInt k
 |.inr x=>hashStr w x
def bA:∀{k:Key} {v:wY!},Oh k v=true->(∃i t,k=Sum.inl i/\v=Value.int i t)\/(∃x t,k=Sum.inr x/\v=Value.str x t)
 |.inl i,v,h=>by
  obtain⟨t,e⟩:=Value.isInt_shape (k:=i) (v:=v) h;exact .inl ⟨i,t,rfl,e⟩
 |.inr x,v,h=>by
  obtain⟨t,e⟩:=Value.isStrOf_shape (x:=x) (v:=v) h;exact .inr ⟨x,t,rfl,e⟩
def vG(i:Int)(t:Tok):Oh j7_ c2!=true:=by simp[Oh,Value.isInt]
def pB(x:Str)(t:Tok):Oh j8_ fk_=true:=by simp[Oh,Value.isStrOf]
def c4t(a b:Int):decide (j8!=Sum.inl b)=(a==b):=by
 by_cases e:a=b
 .subst e;simp
 .have h:¬j8!=Sum.inl b:=λq=>e (Sum.inl.inj q);rw[IG h];exact(JY.mpr e).symm
def c4q(a b:Str):decide (j9!=Sum.inr b)=decide (a=b):=by
 by_cases e:a=b
 .subst e;simp
 .have h:¬j9!=Sum.inr b:=λq=>e (Sum.inr.inj q);rw[IG h,IG e]
def c4s(a:Int)(b:Str):decide (j8!=Sum.inr b)=false:=IG pm!
def c4r(a:Str)(b:Int):decide (j9!=Sum.inl b)=false:=IG pm!
nonrec def mixKind(prog:xc!)(w:wZ!):PySem.KeyKind prog w Key where
 is:=Oh
 hash:=CP w
 inj:=λv a b ha hb=>by
  obtain⟨i,t,rfl,rfl⟩|⟨x,t,rfl,rfl⟩:=bA ha
  .obtain⟨j,u,rfl,e⟩|⟨y,u,rfl,e⟩:=bA hb
   .injection e with e1 _;rw[e1]
   .exact ka_
  .obtain⟨j,u,rfl,e⟩|⟨y,u,rfl,e⟩:=bA hb
   .exact ka_
   .injection e with e1 _;rw[e1]
 byValue:=λk v h=>by
  obtain⟨i,t,rfl,rfl⟩|⟨x,t,rfl,rfl⟩:=bA h<;>rfl
 pyHash:=λhv h=>by
  obtain⟨i,t,rfl,rfl⟩|⟨x,t,rfl,rfl⟩:=bA hv
  .exact wpAny_pyHash_int h
  .exact wpAny_pyHash_str h
 eqBool:=λhu hv h=>by
  obtain⟨i,t,rfl,rfl⟩|⟨x,t,rfl,rfl⟩:=bA hu
  .obtain⟨j,u,rfl,rfl⟩|⟨y,u,rfl,rfl⟩:=bA hv
   .rw[c4t]at h;exact wpAny_eqBool_int h
   .rw[c4s]at h;exact SeqAt.EqAt.int_str i t y u _ _ _ _ h
  .obtain⟨j,u,rfl,rfl⟩|⟨y,u,rfl,rfl⟩:=bA hv
   .rw[c4r]at h;exact SeqAt.EqAt.str_int x t j u _ _ _ _ h
   .rw[c4q]at h;exact wpAny_eqBool_str h
 «strs»:=λk x t v h=>by
  obtain⟨i,u,rfl,e⟩|⟨y,u,rfl,e⟩:=bA h
  .exact ka_
  .injection e with e1 _
   subst e1;cases v<;>rfl
def a1b(prog:xc!)(w:wZ!)(i:Int)(t:Tok):(pn_).is j7_ c2!=true:=vG i t
def kC(prog:xc!)(w:wZ!)(x:Str)(t:Tok):(pn_).is j8_ fk_=true:=pB x t
end L2
namespace L2
open PySem PySem.Spec PyProof.Rows
inductive V where
 |non|bl (b:Bool)|int (i:Int)|str (x:Str)|byt (b:Array UInt8)|flt (b:UInt64)|ref (a:qT!)|ty (n:String)
 deriving DecidableEq
def Be:V->Value->Prop
 |.non,u=>u=c2_
 |.bl b,u=>u=Value.bool b
 |.int i,u=>∃t,u=Value.int i t
 |.str x,u=>∃t,u=Value.str x t
 |.byt b,u=>∃t,u=Value.bytes b t
 |.flt b,u=>∃t,u=Value.float b t
 |.ref a,u=>u=Value.ref a
 |.ty n,u=>u=Value.type n
abbrev Ar:List V->List Value->Prop:=Paired Be
def Ar.length(r:dY!):f_=aj_:=OL r
def Ar.get:∀{xs:r_} {us:l_} {i:Nat} {x:V},Ar xs us->xs[i]?=some x->∃u,us[i]?=some u/\Be x u
 |_,_,_,_,.nil,e=>by simp at e
 |_,_,0,_,.cons r _,e=>by simp at e;subst e;exact kc!
 |_,_,i+1,x,.cons _ t,e=>by
  obtain⟨u,Y,h2⟩:=Ar.get (i:=i) (x:=x) t cq!;exact po_
def Ar.set(r:Be x u):∀{xs:r_} {us:l_} (i:Nat),Ar xs us->Ar (xs.set i x) (us.set i u)
 |_,_,_,.nil=>.nil
 |_,_,0,.cons _ t=>.cons r t
 |_,_,i+1,.cons q t=>.cons q (Ar.set r i t)
def Ar.append(h:dY!)(s:Ar ys ws):Ar dY_ (us++ws):=by
 induction h with
 |nil=>exact s
 |cons r _ ih=>exact .cons r ih
def Ar.take:∀{xs:r_} {us:l_} (n:Nat),Ar xs us->Ar (xs.take n) (us.take n)
 |_,_,0,_=>.nil
 |_,_,_+1,.nil=>.nil
 |_,_,n+1,.cons r t=>.cons r (Ar.take n t)
def Ar.drop:∀{xs:r_} {us:l_} (n:Nat),Ar xs us->Ar (xs.drop n) (us.drop n)
 |_,_,0,r=>r
 |_,_,_+1,.nil=>.nil
 |_,_,n+1,.cons _ t=>Ar.drop n t
def Lp:Option V->Option Value->Prop
 |some v,some u=>Be v u
 |none,none=>True
 |_,_=>False
def KV:List (κ×V)->List (κ×Value)->Prop:=Paired λ(p:κ×V) (q:κ×Value)=>p.1=q.1/\Be p.2 q.2
nonrec def kV:Key->V
 |.inl i=>.int i
 |.inr x=>.str x
inductive HO where
 |lst (xs:r_)
 |tup (xs:r_)
 |dK (h1:List (Key×V))|dT (h1:List kd!)
 |set (S:Int->Bool) (n:Nat)
 |ins (C dx:qT!) (fs:List cq_)
 |own (x:qT!)
 |xd (fs:List cq_)
 |met (f x:qT!)
 |rng (lo hi:Int)
 |frz (o:Obj) (u:HO)
 |tbl (ps:bD!)
 |ext (φ:Heap->Prop)
abbrev Hp:=Addr->Option HO
nonrec def upd(H:Hp)(a:qT!)(o:HO):Hp:=λb=>if b=a then some o else H b
def bI:upd H a o a=some o:=by unfold upd;rw[D!]
def aS(h:b≠a):upd H a o b=H b:=by unfold upd;rw[IF h]
def bY{H:Hp}(h:H a=some o)(h':kd_):a≠b:=by intro e;subst e;rw[h]at h';rcases h'
section
variable(P:xc!)(w:wZ!)
def Dg(H:Hp)(h:Heap)(a:qT!):HO->Prop
 |.lst xs=>f_<=sizeLine/\∃(its:l_) (n:Nat),Ar xs its/\h.get? a=some {cls:=.type "list",data:=.seq its.toArray n}
 |.tup xs=>f_<=sizeLine/\∃its:List Value,Ar xs its/\IsTup h a aO_
 |.dK h1=>ak!<=sizeLine/\c3!=false/\∃vs,KV h1 vs/\h.DictOf a1_ a vs
 |.dT h1=>ak!<=sizeLine/\c3!=false/\∃xs:List ke!,
   Paired (λ(p:List Key×V) (q:List Key×Addr×Value)=>p.1=q.1/\H q.2.1=some pu_/\Be p.2 q.2.2) h1 xs/\
   ∃o es ep,h.get? a=some o/\gY_/\o.data=.dict es ep/\es.toList=xs.map (entryOfKey fl!)/\(xs.map c_).Nodup
 |.set S n=>h.SetOf (intKind P w) a S n
 |.ins C dx fs=>H dx=some fl_/\a2!<=1000/\dx≠a/\h.get? a=some ke_/\
   ∃mA,h.Ns1 dx mA/\pv_/\PySem.Within mA kf_
 |.own _=>∃o,h.get? a=some o
 |.xd fs=>∃mA,h.Ns1 a mA/\∀f,Lp p9_ (mA f)
 |.rng lo hi=>∃t u v,h.get? a=some {cls:=.type "range",data:=.fields #[.int lo t,.int hi u,.int 1 v]}
 |.frz o u=>h.get? a=some o/\Dg H h a u
 |.tbl ps=>h.get? a=some {cls:=.none,data:=.fields ps}
 |.met f x=>h.get? a=some (W.methodObj W_ fm!)
 |.ext φ=>φ h/\(∃o,h.get? a=some o)/\∀Y h2:Heap,φ Y->(∀o,Y.get? a=some o->h2.get? a=some o)->φ h2
def Js(H:Hp)(h:Heap):Prop:=∀a o,H a=some o->Dg P w H h a o
end
section
variable{P:xc!}{w:wZ!}{H H':Hp}{h h':Heap}{a:qT!}{o:HO}
def Dg.lt(x:kg!):a<bD_:=by
 cases o with
 |lst xs=>obtain⟨_,_,_,_,e⟩:=x;exact IT e
 |tup xs=>obtain⟨_,_,_,p⟩:=x;exact p.lt
 |dK h1=>obtain⟨_,_,_,_,o,_,_,e,_⟩:=x;exact IT e
 |dT h1=>obtain⟨_,_,_,_,o,_,_,e,_⟩:=x;exact IT e
 |set S n=>obtain⟨o,_,_,_,e,_⟩:=x;exact IT e
 |ins C dx fs=>obtain⟨_,_,_,e,_⟩:=x;exact IT e
 |own y=>obtain⟨_,e⟩:=x;exact IT e
 |xd fs=>obtain⟨_,⟨_,_,_,e,_⟩,_⟩:=x;exact IT e
 |rng lo hi=>obtain⟨_,_,_,e⟩:=x;exact IT e
 |frz ob u=>obtain⟨e,_⟩:=x;exact IT e
 |tbl ps=>exact IT gZ_
 |met f y=>exact IT gZ_
 |ext φ=>obtain⟨_,⟨_,e⟩,_⟩:=x;exact IT e
def Paired.mapP{F G:α->β->Prop}(h:Paired F l₁ l₂)(f:∀a b,F a b->G a b):Paired G l₁ l₂:=by
 induction h with
 |nil=>exact .nil
 |cons r _ ih=>exact .cons (f _ _ r) ih
def Dg.stay(x:kg!)(k:∀b u,(b=a\/H b=some fl_)->h.get? b=some u->h'.get? b=some u)
  (ho:∀b,H b=some fl_->H' b=some fl_)(ht:px!):Dg P w H' h' a o:=by
 induction o with
 |lst xs=>obtain⟨z,its,n,r,e⟩:=x;exact⟨z,its,n,r,be!⟩
 |tup xs=>obtain⟨z,its,r,ob,e,c⟩:=x;exact⟨z,its,r,ob,be!,c⟩
 |dK h1=>obtain⟨z,y,vs,r,ob,es,ep,e,c⟩:=x;exact⟨z,y,vs,r,ob,es,ep,be!,c⟩
 |dT h1=>
  obtain⟨z,y,xs,r,ob,es,ep,e,c⟩:=x;exact⟨z,y,xs,Paired.mapP r λp q z=>⟨z.1,ht _ _ z.2.1,z.2.2⟩,ob,es,ep,be!,c⟩
 |set S n=>obtain⟨ob,es,ep,t,e,c⟩:=x;exact⟨ob,es,ep,t,be!,c⟩
 |ins C dx fs=>
  obtain⟨d,z,ne,e,mA,⟨od,es,ep,e2,c⟩,r⟩:=x;exact⟨ho _ d,z,ne,be!,mA,⟨od,es,ep,k _ _ (.inr d) e2,c⟩,r⟩
 |own y=>obtain⟨ob,e⟩:=x;exact⟨ob,be!⟩
 |xd fs=>obtain⟨mA,⟨od,es,ep,e,c⟩,r⟩:=x;exact⟨mA,⟨od,es,ep,be!,c⟩,r⟩
 |rng lo hi=>obtain⟨t,u,v,e⟩:=x;exact⟨t,u,v,be!⟩
 |frz ob u ih=>obtain⟨e,q⟩:=x;exact⟨be!,ih q⟩
 |tbl ps=>
  have e:h.get? a=some {cls:=.none,data:=.fields ps}:=x;show h'.get? a=some {cls:=.none,data:=.fields ps};exact k a _ X! e
 |met f y=>
  have e:h.get? a=some pz!:=x;show h'.get? a=some pz!;exact k a _ X! e
 |ext φ=>obtain⟨p,⟨o,e⟩,st⟩:=x;exact⟨st _ _ p λo q=>k _ _ X! q,⟨o,be!⟩,st⟩
def Js.lt(x:aP_)(e:H a=some o):a<bD_:=(x a o e).lt
def Js.fresh(x:aP_)(e:bD_<=a):H a=none:=by
 cases q:H a with
 |none=>rfl
 |some u=>exact absurd (IQ (x.lt q) e) c3_
def Js.kept(x:aP_)(k:g0_):Js P w H h':=λa o e=>
 (x a o e).stay (λb u _ q=>k b u q) g1_ λ_ _ q=>q
def Js.laid(x:aP_)(k:g0_)(hp:bD_<=a)(new:Dg P w cr! h' a o):Js P w cr! h':=λb u e=>by
 have hn:=x.fresh hp;show"#,"
 .show"!r";exact new
 .rw[c4!]at e;exact(x b u e).stay (λc v _ q=>k c v q) (λc q=>by rw[fm_];exact q) λc xs q=>by rw[fm_];exact q
end
def Rd(H:Hp)(a:qT!)(u:HO):Prop:=H a=some u\/∃o,H a=some fn!
def Rd.ok(r:Rd H a u)(x:aP_):Dg P w H h a u:=by
 obtain r|⟨o,r⟩:=r
 .exact x a u r
 .obtain⟨_,q⟩:=x a _ r;exact q
def DC:Option HO->Prop
 |some (.lst _)=>True
 |some (.dK _)=>True
 |some (.dT _)=>True
 |some (.set _ _)=>True
 |some (.ins _ _ _)=>True
 |some (.ext _)=>True
 |_=>False
section
variable{P:xc!}{w:wZ!}{H:Hp}{h h':Heap}{x e:qT!}{o':HO}
def Js.write(ok:aP_)(mu:ki!)(he:ki_)(k:pC_)(oz:kj!)
  (new:Dg P w pD_ h' x o'):Js P w pD_ h':=λb u q=>by
 have yt:∀c y,H c=some (.own y)->c≠x:=λc y r z=>by subst z;rw[r]at mu;exact mu
 have UX:∀c xs,H c=some bd_->c≠x:=λc xs r z=>by subst z;rw[r]at mu;exact mu
 by_cases hb:b=x
 .subst hb;rw[bI]at q;rcases q;exact new
 .rw[c4!]at q;by_cases dw:b=e
  .have q':H b=some g2!:=by
    obtain z|z:=he
    .exact absurd (dw.trans z) hb
    .rw[dw];exact z
   rw[q]at q';rcases q';obtain⟨v,hv⟩:=oz;exact⟨v,by rw[dw];exact hv⟩
  .refine(ok b u q).stay (λc v hc r=>k c v ?_ r) (λc r=>by rw[aS (yt c b r)];exact r) λc xs r=>by rw[aS (UX c xs r)];exact r
   obtain rfl|hc:=hc
   .exact dw
   .rintro rfl;obtain z|z:=he
    .exact yt c b hc z
    .rw[hc]at z;cases z;exact hb rfl
end
structure Un(fs ex:ax_)(H H':Hp)(h h':Heap):Prop where
 keep:∀b o,h.get? b=some o->H b=none->b∉fs->b∉ex->h'.get? b=some o
 slot:∀b o,h.get? b=some o->H b=none->b∈fs->b∉ex->∃sl,h'.get? b=some {o with slots:=sl}
 free:∀b o,h.get? b=some o->H b=none->b∉ex->H' b=none
 there:∀b o,h.get? b=some o->b∉ex->∃o',h'.get? b=some o'
 tups:∀b xs,H b=some bd_->H' b=some bd_
 frzs:∀b o u,H b=some fn!->H' b=some fn!
 tbls:∀b ps,H b=some (.tbl ps)->∃o8,H' b=some pG_
section
variable{fs fs' ex yu:List Addr}{H H1 H2:Hp}{h Y h2 h':Heap}{a x e:qT!}{o:HO}
def Un.any(u:pH!)(q:h.get? b=some ob)(n:kd_)(hx:b∉ex):∃sl,Y.get? b=some {ob with slots:=sl}:=by
 by_cases hb:b∈fs
 .exact u.slot b ob q n hb hx
 .exact⟨ob.slots,u.keep b ob q n hb hx⟩
def Un.kept(k:g0_):Un fs ex H H h h':=
 ⟨λb ob q _ _ _=>k b ob q,λb ob q _ _ _=>⟨ob.slots,k b ob q⟩,λ_ _ _ n _=>n,λb ob q _=>⟨ob,k b ob q⟩,λ_ _ q=>q,λ_ _ _ q=>q,λ_ ps q=>⟨#[],by rw[q];simp⟩⟩
def Un.refl:Un fs ex H H h h:=Un.kept λ_ _ q=>q
def Un.laid(k:g0_)(hp:bD_<=a)(hn:g3!):Un fs ex H cr! h h' where
 keep:=λb u q _ _ _=>k b u q
 slot:=λb u q _ _ _=>⟨u.slots,k b u q⟩
 free:=λb u q n _=>by rw[aS (JH (IQ (IT q) hp))];exact n
 there:=λb u q _=>⟨u,k b u q⟩
 tups:=λb xs q=>by rw[fm_];exact q
 frzs:=λb u xs q=>by rw[fm_];exact q
 tbls:=λb ps q=>⟨#[],by rw[fm_,q];simp⟩
def Un.write(mu:ki!)(he:ki_)(k:pC_)(oz:kj!):Un fs ex H kl! h h':=by
 have hx:∀b,H b=none->b≠x:=λb n z=>by subst z;rw[n]at mu;exact mu
 have hb:∀b,H b=none->b≠e:=λb n z=>by
  subst z;obtain r|r:=he
  .exact hx b n r
  .rw[n]at r;rcases r
 have hm:∀b u,H b=some u->¬DC (some u)->b≠x:=λb u q nm z=>by subst z;rw[q]at mu;exact nm mu
 refine⟨λb u q n _ _=>k b u (hb b n) q,λb u q n _ _=>⟨u.slots,k b u (hb b n) q⟩,λb u q n _=>by rw[aS (hx b n)];exact n,λb u q _=>?_,
  λb xs q=>by rw[kl_];exact q,λb u xs q=>by rw[kl_];exact q,λb ps q=>⟨#[],by rw[kl_,q];simp⟩⟩
 by_cases dw:b=e
 .subst dw;exact oz
 .exact⟨u,k b u dw q⟩
def Un.mono(u:pH!)(hs:∀b∈fs,b∈fs')(hx:∀b∈ex,b∈yu):Un fs' yu H H1 h Y:=
 ⟨λb ob q n hb he=>u.keep b ob q n (λz=>hb (hs b z)) λz=>he g3_,λ_ _ q n _ he=>u.any q n λz=>he (hx _ z),λb ob q n he=>u.free b ob q n λz=>he g3_,λb ob q he=>u.there b ob q λz=>he g3_,u.tups,u.frzs,u.tbls⟩
end
def DP(h:Heap)(H:Hp):List Addr:=(pL_).filter λa=>(H a).isSome
def Qi(h:Heap)(H:Hp):Heap:=W.hideAll h km_
def b0e(h:Heap)(H:Hp):(g4!).objs.size=bD_:=W.hideAll_size _ _
def b5m(e:pM!)(n:kd_):(g4!).get? b=some o:=
 W.hideAll_get _ e λhm=>by
  have q:(H b).isSome=true:=(JQ.mp hm).2;rw[n]at q;simp at q
def b9r(e:(g4!).get? b=some o):h.get? b=some o/\H b=none:=by
 have e':h.get? b=some o:=W.of_hideAll km_ e;refine⟨e',?_⟩;cases q:H b with
 |none=>rfl
 |some x=>
  have hm:b∈DP h H:=JQ.mpr ⟨PC.mpr (IT e'),by simp[q]⟩;have z:(g4!).get? b=none:=W.hideAll_none km_ hm;rw[z]at e;rcases e
def Yo(g h:Heap)(L:qT!):List dZ!:=(pL_).filterMap λa=>if a=L\/(g.get? a).isSome=true then none else(h.get? a).map λo=>(a,o)
nonrec def rest(g h:Heap)(L d:qT!):List dZ!:=(Yo g h L).filter λp=>decide (p.1≠d)
end L2
namespace L2
open PySem PySem.Spec PyProof.Rows
structure Mod(K:zM!)(mg:L_)(base:Heap):Prop where
 kin:K.In base
 glob:base.Ns mainGlobals mg
 blt:∃mb,base.Ns builtinsNs mb/\∀x:Str,x≠"__name__"->mb x=bootBuiltins x
 nolimit:base.NoLimit
structure Cx where
 prog:Program
 w:World
 K:W.Frag
 mg:Str->Option Value
 base:Heap
 A:Around
 N:List Str
 s₀:Shared
 H₀:Hp
 env:Env
 outer:List Env
 stack:List Env
 ex:List Addr
 fn:Str->Bool
 calm:Bool
 pn:List dZ!
 xe:Value->Shared->Prop
nonrec def frs(l:af!):List Addr:=l.filterMap (·.frame)
abbrev Cx.fs(X:Cx):List Addr:=frs X.outer
def Xb(sc:Scope)(x:Str):Prop:=sc.names.lookup x=some .local\/sc.names.lookup x=some .cell\/sc.names.lookup x=some .free
def Vo(sc:Scope)(x:Str):Prop:=sc.names.lookup x=some .local\/sc.names.lookup x=some .cell
def FT(env:Env)(h:Heap)(m:L_)(x:Str)(u:wY!):Prop:=
 (env.kindOf x=some .local/\m x=some u)\/((env.kindOf x=some .cell\/env.kindOf x=some .free)/\∃c,env.cells.lookup x=some c/\h.IsCell c (some u))
structure Cx.Ok(X:Cx):Prop where
 mod:Mod X.K X.mg X.base
 kind:ko!=.function
 glob:pP_=mainGlobals
 blt:X.env.builtins=builtinsNs
 above:c5!<=X.env.locals
 inj:∀x y c,X.env.cells.lookup x=some c->X.env.cells.lookup y=some c->x=y
 has:∀x,pQ!->∃c,X.env.cells.lookup x=some c
 cab:∀x c,X.fn x=true->X.env.cells.lookup x=some c->c5!<=c
 hd:X.calm=true->ko_=none
 frames:X.A.frames=some X.stack
 stk:X.stack=X.outer\/(X.stack=X.env::X.outer/\kp!=some X.env.locals)
 exf:∀b∈X.ex,b≠X.env.locals/\∀x c,X.env.cells.lookup x=some c->c≠b
 bs:∀b o,X.base.get? b=some o->X.s₀.heap.get? b=some o/\X.H₀ b=none
 bsz:X.base.objs.size<=c5!
 noex:∀b o,X.base.get? b=some o->b∉X.ex
 exfs:∀b∈X.ex,b∉X.fs
 funs:X.s₀.heap.FunFrames X.base X.outer
 frf:∀b∈X.fs,X.H₀ b=none
structure Inv(X:Cx)(J:u_)(Z:List (Option V))(H:Hp)(s:xR!):Prop where
 ok:X.Ok
 os:s.os=X.s₀.os
 bare:AllBare s.gens
 base:Un X.fs X.ex X.H₀ H X.s₀.heap s.heap
 loc:∃m,s.heap.Ns X.env.locals m/\∀(i:Nat) (x:Str) (v:V),X.N[i]?=some x->Z[i]?=some bX!->Xb X.env.scope x->∃u,Be v u/\FT X.env s.heap m x u
 cell:∀x c,X.env.cells.lookup x=some c->∃v,s.heap.IsCell c v
 free:H X.env.locals=none
 freeC:∀x c,X.env.cells.lookup x=some c->H c=none
 pin:∀p∈X.pn++J,s.heap.get? p.1=some p.2/\H p.1=none/\p.1≠X.env.locals/\p.1∉X.fs/\∀v,kp_≠.cell v
 hok:Js X.prog X.w H s.heap
 len:dZ_=X.N.length
section
variable{X:Cx}{J:List (Addr×Obj)}{Z:List (Option V)}{H H':Hp}{s:xR!}{h':Heap}
def Cx.Ok.nofr(ok:X.Ok){b:qT!}{o:Obj}(e:X.base.get? b=some o):b∉X.fs:=λhb=>by
 have:=(ok.funs.mem hb).1;rw[e]at this;rcases this
def Inv.bs(I:b_):∀b o,X.base.get? b=some o->s.heap.get? b=some o/\H b=none:=λb o e=>
 ⟨I.base.keep b o (g4_).1 (g4_).2 (I.ok.nofr e) pQ_,I.base.free b o (g4_).1 (g4_).2 pQ_⟩
def Inv.bk(I:b_):∀b o,X.base.get? b=some o->s.heap.get? b=some o:=λb o e=>(I.bs b o e).1
def Inv.mod(I:b_):Mod X.K X.mg X.base:=I.ok.mod
def Inv.kIn(I:b_):X.K.In s.heap:=I.ok.mod.kin.keeps I.bk
def Inv.lt(I:b_):X.env.locals<i!:=by obtain⟨_,hn,_⟩:=I.loc;exact hn.lt
def Inv.sz(I:b_):c5!<=i!:=JG I.ok.above (NN I.lt)
def Inv.nofs(I:b_){a:qT!}(h:i!<=a):a∉X.fs:=λhb=>by
 obtain⟨_,o,ho,_⟩:=I.ok.funs.mem hb;exact absurd (IQ g5! (JG I.sz h)) c3_
def Inv.cne(I:b_):∀x c,X.env.cells.lookup x=some c->c≠X.env.locals:=λx c e z=>by
 obtain⟨v,o,ho,hd⟩:=I.cell x c e;obtain⟨m,⟨o',es,ep,d9,jw,_⟩,_⟩:=I.loc;rw[z,d9]at ho;rcases ho;rw[jw]at hd;cases hd
def Inv.funs(I:b_):s.heap.FunFrames X.base X.outer:=by
 have all:∀(l:af!),(∀b∈frs l,b∈X.fs)->X.s₀.heap.FunFrames X.base l->s.heap.FunFrames X.base l:=by
  intro l
  induction l with
  |nil=>intro _ _;trivial
  |cons env r ih=>
   intro hs hl;obtain⟨hk,⟨L,o,hf,hn,ho,hd⟩,hr⟩:=hl;have hL:L∈X.fs:=hs L (by unfold frs;rw[PP,hf];exact HV);obtain⟨sl,e⟩:=I.base.slot L o ho (I.ok.frf L hL) hL λz=>I.ok.exfs L z hL
   exact⟨hk,⟨L,_,hf,hn,e,hd⟩,ih (λb hb=>hs b (by unfold frs;rw[PP,hf];exact HR _ hb)) hr⟩
 exact all X.outer (λ_ hb=>hb) I.ok.funs
def Inv.stack(I:b_):s.heap.FunFrames X.base X.stack:=by
 obtain e|⟨e,hf⟩:=kq_
 .rw[e];exact I.funs
 .rw[e];obtain⟨m,hn,_⟩:=I.loc;refine .cons (by rw[I.ok.kind];decide) hf hn ?_ I.funs;exact Heap.get?_none_of_le (JG I.ok.bsz I.ok.above)
def Inv.stkSub(I:b_):∀b∈frs X.stack,b∈X.env.locals::X.fs:=λb hb=>by
 obtain e|⟨e,hf⟩:=kq_
 .rw[e]at hb;exact HR _ hb
 .rw[e]at hb;unfold frs at hb;rw[PP,hf]at hb;exact hb
def Inv.stkFree(I:b_):∀b∈frs X.stack,H b=none:=λb hb=>by
 obtain e|hb:=HW.mp (I.stkSub b hb)
 .rw[e];exact I.free
 .obtain⟨_,o,ho,_⟩:=I.ok.funs.mem hb;exact I.base.free b o ho (I.ok.frf b hb) λz=>I.ok.exfs b z hb
def Inv.step{g':Array GenState}{t':Nat}{d':Drawn}{ch:ax_}(I:b_)
  (je:∀b∈ch,g5_/\b≠X.env.locals/\g6!/\∀p∈X.pn++J,p.1≠b)
  (keep:∀b o,b≠X.env.locals->b∉X.fs->b∉ch->s.heap.get? b=some o->H b=none->h'.get? b=some o)
  (slot:∀b o,b≠X.env.locals->b∈X.fs->b∉ch->s.heap.get? b=some o->H b=none->∃sl,h'.get? b=some {o with slots:=sl})(free:∀b o,b∉ch->s.heap.get? b=some o->H b=none->H' b=none)
  (there:∀b o,b∉ch->s.heap.get? b=some o->∃o',h'.get? b=some o')
  (tups:px!)(frzs:∀b o u,H b=some fn!->H' b=some fn!)(tbls:∀b ps,H b=some (.tbl ps)->∃o8,H' b=some pG_)
  (ns:∀m,s.heap.Ns X.env.locals m->h'.Ns X.env.locals m)(hok:g6_)(hg:kr!):
  Inv X J Z H' {s with heap:=h',gens:=g',drawn:=d',toks:=t'}:=by
 have yw:∀b o,X.s₀.heap.get? b=some o->b≠X.env.locals:=λb o e=>JH pV!;have uq:∀b o,X.s₀.heap.get? b=some o->b∉X.ex->b∉ch:=λb o e hx hb=>by
  obtain z|z:=(je b hb).1
  .exact hx z
  .exact absurd (IQ cs! z) c3_
 have yx:∀x c,X.env.cells.lookup x=some c->∀v,s.heap.IsCell c v->h'.IsCell c v:=by
  rintro x c e v ⟨o,ho,hd⟩;have q9:c∉ch:=λz=>(je c z).2.2.1 x c e rfl;by_cases hc:c∈X.fs
  .obtain⟨sl,q⟩:=slot c o pV_ hc q9 ho kr_;exact⟨_,q,hd⟩
  .exact⟨o,keep c o pV_ hc q9 ho kr_,hd⟩
 refine⟨I.ok,I.os,hg,⟨g8!,g8!,λb o e n hx=>?_,pX!,λb xs e=>tups b xs (I.base.tups b xs e),λb o xs e=>frzs b o xs (I.base.frzs b o xs e),λb ps e=>?_⟩,?_,ks_,?_,ks_,c5_,hok,I.len⟩
 .exact keep b o (yw b o e) hb g8_ kt! kt_
 .show"!W";obtain⟨UY,e2⟩:=slot b _ (yw b o e) hb g8_ e1 kt_;exact⟨UY,e2⟩
 .show"!F";exact free b o' g8_ e1 kt_
 .show"!F";exact there b o' g8_ e1
 .obtain⟨m1,e1⟩:=I.base.tbls b ps e;obtain⟨m2,e2⟩:=tbls b _ e1;exact⟨m1++m2,by rw[e2,Array.append_assoc]⟩
 .obtain⟨m,hn,hl⟩:=I.loc;refine⟨m,ns m hn,pY!⟩;obtain⟨u,r,l⟩:=hl i x v e1 e2 e3;refine⟨u,r,?_⟩;obtain l|⟨k,c,e,z⟩:=l
  .exact .inl l
  .exact .inr ⟨k,c,e,yx x c e _ z⟩
 .obtain⟨v,z⟩:=I.cell x c e;exact⟨v,yx x c e v z⟩
 .obtain⟨m,⟨o,_,_,ho,_⟩,_⟩:=I.loc;exact free _ o (λz=>(je _ z).2.1 rfl) ho I.free
 .obtain⟨v,o,ho,hd⟩:=I.cell x c e;exact free c o (λz=>(je c z).2.2.1 x c e rfl) ho kr_
 .show"!m";have q9:p.1∉ch:=λz=>(je p.1 z).2.2.2 p hp rfl;exact⟨keep p.1 p.2 ne nf q9 e n,free p.1 p.2 q9 e n,ne,nf,d⟩
def Inv.un{t':Nat}(I:b_)(u:Un X.fs [] H H' s.heap h')(hok:g6_):Inv X J Z H' {s with heap:=h',toks:=t'}:=by
 obtain⟨m,⟨o,es,ep,ho,r⟩,_⟩:=id I.loc;obtain⟨sl,hL⟩:=u.any ho I.free c!;exact I.step (g':=s.gens) (d':=s.drawn) (ch:=[]) pZ! (λb o _ hb _ e n=>u.keep b o e n hb c!) (λb o _ hb _ e n=>u.slot b o e n hb c!) (λb o _ e n=>u.free b o e n c!) (λb o _ e=>u.there b o e c!) u.tups u.frzs u.tbls (λm' hm=>by
  obtain⟨o',bh,bp,d9,r'⟩:=hm;rw[ho]at d9;rcases d9;exact pZ_) hok I.bare
def Inv.call(I:b_)(u:Un ha! ch H H' s.heap h')(hok:g6_)(hg:kr!)
  (je:∀b∈ch,g5_/\b≠X.env.locals/\g6!/\∀p∈X.pn++J,p.1≠b):
  Inv X J Z H' {s with heap:=h',gens:=g',drawn:=d',toks:=t'}:=by
 obtain⟨m,⟨o,es,ep,ho,r⟩,_⟩:=id I.loc;obtain⟨sl,hL⟩:=u.any ho I.free λz=>(je _ z).2.1 rfl
 exact I.step (ch:=ch) je (λb o hL hb hc e n=>u.keep b o e n (λz=>(HW.mp (I.stkSub b z)).elim hL hb) hc) (λb o _ _ hc e n=>u.any e n hc) (λb o hc e n=>u.free b o e n hc) (λb o hc e=>u.there b o e hc) u.tups u.frzs u.tbls (λm' hm=>by
  obtain⟨o',bh,bp,d9,r'⟩:=hm;rw[ho]at d9;rcases d9;exact pZ_) hok hg
def Inv.turned(I:b_)(k:∀b o,b≠it->s.heap.get? b=some o->h'.get? b=some o)(hn:H it=none)(hL:it≠X.env.locals)
  (Y:it∈X.ex\/c5!<=it)(h2:∀x c,X.env.cells.lookup x=some c->c≠it)(h3:∀p∈X.pn++J,p.1≠it):Inv X J Z H {s with heap:=h',toks:=t'}:=by
 have yz:∀b u,H b=some u->b≠it:=λb u e z=>by rw[z,hn]at e;rcases e
 refine I.step (g':=s.gens) (d':=s.drawn) (ch:=[it]) ha_ (λb o _ _ hc e _=>k b o hb! e) (λb o _ _ hc e _=>⟨o.slots,k b o hb! e⟩) p0_
  (λb o hc e=>⟨o,k b o hb! e⟩) p1! p1_ (λb ps e=>kx!) p3! p3_ I.bare
 .have e:b=it:=by simpa using hb
  subst e;exact⟨Y,hL,h2,h3⟩
 .show"#1";exact⟨o,es,ep,k _ o (JF hL) ho,r⟩
 .refine(kx_).stay (λc v hc q=>k c v ?_ q) g1_ λ_ _ q=>q;obtain z|z:=hc
  .rw[z];exact yz b u e
  .exact yz c _ z
def Inv.tok(I:b_)(t:Nat):Inv X J Z H {s with toks:=t}:=I.un (h':=s.heap) (t':=t) Un.refl I.hok
def Inv.kept(I:b_)(k:p4_):Inv X J Z H {s with heap:=h',toks:=t'}:=I.un (Un.kept k) (I.hok.kept k)
def Inv.laid(I:b_)(k:p4_)(hp:i!<=a)(new:Dg X.prog X.w cr! h' a o):
  Inv X J Z cr! {s with heap:=h',toks:=t'}:=I.un (Un.laid k hp (I.hok.fresh hp)) (I.hok.laid k hp new)
def Inv.write(I:b_)(mu:ki!)(he:ki_)(k:∀b u,b≠e->s.heap.get? b=some u->h'.get? b=some u)(oz:kj!)
  (new:Dg X.prog X.w kl! h' x o):Inv X J Z kl! {s with heap:=h',toks:=t'}:=I.un (Un.write mu he k oz) (I.hok.write mu he k oz new)
def Inv.pins_of(I:b_)(h:∀p∈rf,s.heap.get? p.1=some p.2/\H p.1=none/\p.1≠X.env.locals/\p.1∉X.fs/\∀v,kp_≠.cell v):Inv X rf Z H s:=
 ⟨I.ok,I.os,I.bare,I.base,I.loc,I.cell,I.free,I.freeC,λp hp=>(IM.mp hp).elim (λz=>I.pin p hb_) (h p),I.hok,I.len⟩
def a0w{N:E_}(hN:N.Nodup){i j:Nat}(a:N[i]?=some x)(b:N[j]?=some x):i=j:=by obtain⟨Y,e1⟩:=IS.mp a;obtain⟨h2,e2⟩:=IS.mp b;exact(List.getElem_inj hN).mp p5!
def uG(I:b_)(hN:a3!)(hi:ac_)(hx:a3_)(r:aQ!)
  (h:∀s',Inv X J d1! H s'->(∃a,Heap.SameBut a s.heap s'.heap/\(a=X.env.locals\/X.env.cells.lookup x=some a))->Q () s')(hf:X.fn x=true\/X.env.scope.names.lookup x=some .local:=by first|exact .inl rfl|exact .inr rfl|assumption):wpAny M A p6_ Q E s:=by
 obtain⟨m,hn,hl⟩:=id I.loc;have UZ:(ko!==.class||(ko!==.module&&X.env.locals != pP_))=false:=by rw[I.ok.kind];rfl
 have y8:i<dZ_:=by rw[I.len];exact(IS.mp hi).1
 have cne:=I.cne;have y9:∀{a:qT!} {h':Heap},(∃o,s.heap.get? a=some o/\H a=none)->Heap.SameBut a s.heap h'->Js X.prog X.w H h':=λ{a h'} ha hs b ob e=>by
  obtain⟨_,_,gr⟩:=ha;refine(I.hok b ob e).stay (λc w' hc q=>(hs.2 c ?_).trans q) g1_ λ_ _ q=>q;rintro rfl;obtain rfl|hc:=hc
  .rw[gr]at e;rcases e
  .rw[gr]at hc;rcases hc
 obtain hk|hk:=hx
 .refine wpAny_storeName_local hk hn (λh' ur hs=>?_) UZ;obtain⟨oL,_,_,kz,_⟩:=id hn;refine h _ ⟨I.ok,I.os,I.bare,p8_,⟨_,ur,p9!⟩,λy c e=>?_,I.free,I.freeC,c5_,y9 ⟨oL,kz,I.free⟩ hs,qa!⟩ ⟨_,hs,c6_⟩
  .exact(qa_).trans kt!
  .show"!W";exact⟨sl,qb_⟩
  .show"!F";exact⟨o',qb_⟩
  .by_cases hj:j=i
   .show"!}";exact⟨u,r,.inl ⟨hk,S!⟩⟩
   .rw[JI (JF hj)]at e2;obtain⟨u',r',q⟩:=hl j y v' e1 e2 e3;refine qd!;obtain⟨k,e⟩|⟨k,c,e,z⟩:=q
    .refine .inl ⟨k,?_⟩;have:y≠x:=λe=>hj (a0w hN e1 (e▸hi));simp[this,e]
    .exact .inr ⟨k,c,e,qd_⟩
  .obtain⟨w',z⟩:=I.cell y c e;exact⟨w',qd_⟩
  .show"!m";exact⟨(hs.2 p.1 ne).trans e,n,ne,nf,d⟩
 .have vy:X.fn x=true:=by
   obtain z|z:=hf
   .exact z
   .rw[z]at hk;cases hk
  obtain⟨c,hc⟩:=I.ok.has x (.inl hk);obtain⟨w',z⟩:=I.cell x c hc;refine wpAny_storeName_cell I.ok.kind hk hc z (λh' c7 hs=>?_);obtain⟨oc,zc,VA⟩:=id z;refine h {s with heap:=h'} ⟨I.ok,I.os,I.bare,p8_,⟨m,hn.sameBut hs (JF (cne x c hc)),p9!⟩,λy c' e=>?_,I.free,I.freeC,c5_,y9 ⟨oc,zc,I.freeC x c hc⟩ hs,qa!⟩ ⟨c,hs,.inr hc⟩
  .exact(qe_).trans kt!
  .show"!W";exact⟨sl,qf!⟩
  .show"!F";exact⟨o',qf!⟩
  .by_cases hj:j=i
   .show"!}";exact⟨u,r,.inr ⟨.inl hk,c,hc,c7⟩⟩
   .rw[JI (JF hj)]at e2;obtain⟨u',r',q⟩:=hl j y v' e1 e2 e3;refine qd!;obtain q|⟨k,c',e,z'⟩:=q
    .exact .inl q
    .refine .inr ⟨k,c',e,z'.sameBut hs ?_⟩;rintro rfl;exact hj (a0w hN e1 (I.ok.inj _ _ _ e hc▸hi))
  .by_cases gb:c'=c
   .subst gb;exact⟨_,c7⟩
   .obtain⟨w2,z2⟩:=I.cell y c' e;exact⟨w2,z2.sameBut hs gb⟩
  .show"!m";refine⟨(hs.2 p.1 ?_).trans e,n,ne,nf,d⟩;intro q;rw[q,zc]at e;have q':oc=p.2:=JO e;exact d w' (by rw[<-q'];exact VA)
def qS(I:b_)(hN:a3!)(hi:ac_)(hx:a3_)(r:aQ!)
  (h:∀s',Inv X J d1! H s'->Q () s')(hf:X.fn x=true\/X.env.scope.names.lookup x=some .local:=by first|exact .inl rfl|exact .inr rfl|assumption):wpAny M A p6_ Q E s:=
 uG I hN hi hx r (λs' I' _=>h s' I') hf
def Inv.call'(I:b_)(ho:s'.os=s.os)(u:Un ha! ch H H' s.heap s'.heap)(hok:Js X.prog X.w H' s'.heap)(hg:AllBare s'.gens)
  (je:∀b∈ch,g5_/\b≠X.env.locals/\g6!/\∀p∈X.pn++J,p.1≠b):Inv X J Z H' s':=by
 obtain⟨h',g',d',t',o'⟩:=s';have e:o'=s.os:=ho;subst e;exact I.call (g':=g') (t':=t') (d':=d') u hok hg je
end
abbrev XK:=Value->Option Addr->Hp->Prop
abbrev St:=List (Option V)
abbrev VK:=V->Hp->Prop
abbrev TE:=St->Hp->VK->Prop
abbrev TT:=St->Hp->qi!->Prop
abbrev TA:=St->Hp->(List V->Hp->Prop)->Prop
structure Qr where
 nx:St->Hp->Prop
 rt:VK
 bk:St->Hp->Prop:=λ_ _=>False
 ct:St->Hp->Prop:=λ_ _=>False
abbrev TS:=Qr->St->Hp->Prop
inductive EP(X:Cx)(J:u_)(Z:St)(Q:VK)(u:wY!)(s':xR!):Prop
 |mk (v:V) (H':Hp) (I:kB_) (r:aQ!) (q:Q v H'):EP X J Z Q u s'
inductive TP(X:Cx)(J:u_)(Z:St)(Q:c7!)(b:Bool)(s':xR!):Prop
 |mk (H':Hp) (I:kB_) (q:Q b H'):TP X J Z Q b s'
inductive AP(X:Cx)(J:u_)(Z:St)(Q:ct!)(us:l_)(s':xR!):Prop
 |mk (vs:r_) (H':Hp) (I:kB_) (r:d1_) (q:Q vs H'):AP X J Z Q us s'
def SP(X:Cx)(J:u_)(D:Qr)(f:Flow)(s':xR!):Prop:=
 match f with
 |.next=>∃ae H',Inv X J ae H' s'/\D.nx ae H'
 |.brk=>∃ae H',Inv X J ae H' s'/\D.bk ae H'
 |.cont=>∃ae H',Inv X J ae H' s'/\D.ct ae H'
 |.ret u=>∃v ae H',Inv X J ae H' s'/\Be v u/\D.rt v H'
def PE(X:Cx)(e:Expr)(t:TE):Prop:=
 ∀(J:u_) (s:xR!) (Z:St) (H:Hp) (Q:VK),Inv X J Z H s->t Z H Q->wpAny d_ X.A d2! aG! X.xe s
def PT(X:Cx)(e:Expr)(t:TT):Prop:=
 ∀(J:u_) (s:xR!) (Z:St) (H:Hp) (Q:c7!),Inv X J Z H s->t Z H Q->wpAny d_ X.A (isTrue e X.env d2!) hc_ X.xe s
def PW(X:Cx)(e:Expr)(t:TT):Prop:=
 ∀(d6:Sem Value) (J:u_) (s:xR!) (Z:St) (H:Hp) (Q:c7!),Inv X J Z H s->t Z H Q->wpAny d_ X.A (isTrue e X.env d6) hc_ X.xe s
def PW.pt(h:kC!):PT X e t:=h _
def PA(X:Cx)(es:ct_)(t:TA):Prop:=
 ∀(pos:Pos) (J:u_) (s:xR!) (Z:St) (H:Hp) (Q:ct!),Inv X J Z H s->t Z H Q->wpAny d_ X.A (spliced qj_) (AP X J Z Q) X.xe s
def PS(X:Cx)(st:Stmt)(t:TS):Prop:=
 ∀(J:u_) (s:xR!) (Z:St) (H:Hp) (D:Qr),Inv X J Z H s->t D Z H->wpAny d_ X.A (exec st X.env) kD! X.xe s
def Nf(X:Cx)(st:d2_)(t:TS):Prop:=
 ∀(J:u_) (s:xR!) (Z:St) (H:Hp) (D:Qr),Inv X J Z H s->t D Z H->wpAny d_ X.A (execs st X.env) kD! X.xe s
def cZ(h:wpAny M A t Q E s)(hQ:∀a s,Q a s->Q' a s):wpAny M A t Q' E s:=LB h hQ λ_ _ x=>x
end L2
namespace L2
open PySem PySem.Spec PyProof.Rows
section
variable{X:Cx}
def EH(i:Nat):TE:=λZ H Q=>∃v,Z[i]?=some bX!/\Q v H
nonrec def tC(v:V):TE:=λ_ H Q=>Q v H
def lW(hN:ac_)(hv:cu!)(hd:y_:=by decide)(bz:cu_:=by decide):PE X cv! (EH i):=by
 intro J s Z H Q I h;obtain⟨v,e,h⟩:=h;obtain⟨m,hn,hl⟩:=I.loc;obtain⟨u,r,l⟩:=hl i x v hN e hv;have fin:EP X J Z Q u s:=kE!;obtain⟨hk,hm⟩|⟨hk,c,hc,cg⟩:=l
 .exact wpAny_Name (wpAny_loadName_local I.ok.kind hk hn hm fin) hd
 .obtain hk|hk:=hk
  .exact wpAny_Name (wpAny_loadName_cell I.ok.kind hk hc cg fin) hd
  .exact wpAny_Name (wpAny_loadName_free I.ok.kind hk hc cg fin bz) hd
def b3a {i j pos}:PE X qn_ (tC ay!):=λ_ _ _ H _ I h=>wpAny_Constant_int ⟨aG_,H,aQ_,G!,h⟩
def c7b {b j pos}:PE X (.Constant kF! j pos) (tC a4!):=λ_ _ _ H _ I h=>Constant_bool ⟨.bl b,H,I,rfl,h⟩
def c3r {j pos}:PE X qo_ (tC .non):=λ_ _ _ H _ I h=>Constant_none ⟨.non,H,I,rfl,h⟩
def b2u {x j pos}:PE X (.Constant bX_ j pos) (tC bX_):=λ_ _ _ H _ I h=>Calls.Constant_str ⟨.str x,H,aQ_,G!,h⟩
def Gl(X:Cx)(x:Str):Prop:=X.env.kindOf x=some .globalImplicit
def gR(I:b_)(hg:G_)(hm:qp_)(h:Q u s)
  (hd:y_:=by decide):wpAny d_ X.A qq_ Q E s:=
 Calls.Name_function_global I.ok.kind hg (Calls.loadGlobal_global qr_ hm h) hd
def iE(I:b_)(hg:G_)(hm:cv_)(hv:qs_)(h:Q u s)
  (hn:cw!:=by decide)(hd:y_:=by decide):wpAny d_ X.A qq_ Q E s:=by
 obtain⟨mb,Y,h2⟩:=I.mod.blt;exact Calls.Name_function_global I.ok.kind hg (Calls.loadGlobal_builtin qr_ hm (by rw[I.ok.blt];exact Y.keeps I.bk) ((h2 x hn).trans hv) h) hd
def b9g(hg:G_)(hm:qp_)(r:aQ!)(hd:y_:=by decide):PE X cv! (tC v):=
 λ_ _ _ H _ I h=>gR I hg hm kE! hd
def b9h(hg:G_)(hm:cv_)(hv:qs_)(r:aQ!)(hn:cw!:=by decide)(hd:y_:=by decide):PE X cv! (tC v):=
 λ_ _ _ H _ I h=>iE I hg hm hv kE! hn hd
variable{a b:Expr}{ta tb:TE}{pos:Pos}
nonrec def tB(t:TE):TT:=λZ H Q=>t Z H λx H1=>∃c,x=.bl c/\Q c H1
def b2f{e:Expr}{t:TE}(h:hd_)(he:he!:=by intro _;rfl):PT X e (tB t):=by intro J s Z H Q I hw;refine isTrue_plain (cZ qt_ ?_) (he _);rintro v s1 ⟨x,H1,I1,r1,q1⟩;obtain⟨d,rfl,q⟩:=q1;subst r1;exact JW ⟨H1,I1,q⟩
variable{tA ut:TT}{rest:List Expr}
def EV(t u:TT):TT:=λZ H Q=>t Z H λc H1=>if c=true then u Z H1 Q else Q false H1
def HB(t u:TT):TT:=λZ H Q=>t Z H λc H1=>if c=true then Q true H1 else u Z H1 Q
def EO(t:TT):TT:=λZ H Q=>t Z H λc H1=>Q (!c) H1
def a6a(ha:fr!):PW X kG! tA:=by
 intro wh J s Z H Q I h;refine isTrue_and qu_;cases c with
 |true=>exact isTrue_and_nil e
 |false=>exact e
def b2b(ha:fr!):PW X kG_ tA:=by
 intro wh J s Z H Q I h;refine isTrue_or qu_;cases c with
 |false=>exact isTrue_or_nil e
 |true=>exact e
def b2c(ha:fr!)(hb:PW X d3! ut):PW X d3_ (EV tA ut):=by
 intro wh J s Z H Q I h;refine isTrue_and d4!;rintro c s1 ⟨H1,I1,q1⟩;cases c with
 |true=>exact hb wh J s1 Z H1 Q I1 q1
 |false=>exact qw_
def c1y(ha:fr!)(hb:PW X d4_ ut):PW X d5! (HB tA ut):=by
 intro wh J s Z H Q I h;refine isTrue_or d4!;rintro c s1 ⟨H1,I1,q1⟩;cases c with
 |true=>exact qw_
 |false=>exact hb wh J s1 Z H1 Q I1 q1
def b2h(ha:fr!):PT X fr_ (EO tA):=by intro J s Z H Q I h;exact isTrue_not (cZ (ha J s Z H (λc H1=>Q (!c) H1) I h) λ_ _ ⟨H2,I2,q⟩=>⟨H2,I2,q⟩)
def BV(ta tb:TE):TE:=λZ H Q=>ta Z H λx H1=>∃c,x=.bl c/\if c=true then tb Z H1 Q else Q af_ H1
def EN(ta tb:TE):TE:=λZ H Q=>ta Z H λx H1=>∃c,x=.bl c/\if c=true then Q v! H1 else tb Z H1 Q
def BP(ta:TE):TE:=λZ H Q=>ta Z H λx H1=>∃c,x=.bl c/\Q (.bl (!c)) H1
def b2w {op}{t:TE}(h:PE X a t):PE X kI! t:=λJ s Z H Q I hw=>BoolOp_one qy_
def b3c(ha:aR!)(hb:PE X d3! tb):PE X d3_ (BV ta tb):=by
 intro J s Z H Q I h;refine BoolOp_and d4!;rintro v s1 ⟨x,H1,I1,r1,q1⟩;obtain⟨c,rfl,q1⟩:=q1;subst r1;refine JW ?_;cases c with
 |true=>exact hb J s1 Z H1 Q I1 q1
 |false=>exact⟨he_,H1,I1,rfl,q1⟩
def c1z(ha:aR!)(hb:PE X d4_ tb):PE X d5! (EN ta tb):=by
 intro J s Z H Q I h;refine BoolOp_or d4!;rintro v s1 ⟨x,H1,I1,r1,q1⟩;obtain⟨c,rfl,q1⟩:=q1;subst r1;refine JW ?_;cases c with
 |false=>exact hb J s1 Z H1 Q I1 q1
 |true=>exact⟨d6!,H1,I1,rfl,q1⟩
def c3q(ha:aR!):PE X fr_ (BP ta):=by intro J s Z H Q I h;refine UnaryOp_ d4!;rintro v s1 ⟨x,H1,I1,r1,q1⟩;obtain⟨c,rfl,q1⟩:=q1;subst r1;exact not_of (JW ⟨.bl (!c),H1,I1,rfl,q1⟩)
def HC(t:TT)(ta tb:TE):TE:=λZ H Q=>t Z H λc H1=>if c=true then ta Z H1 Q else tb Z H1 Q
def a0n{c:Expr}(hc:PT X c tA)(ha:aR!)(hb:cx!):PE X kI_ (HC tA ta tb):=by
 intro J s Z H Q I h;refine wpAny_IfExp qz!;rintro d s1 ⟨H1,I1,q1⟩;cases d with
 |true=>exact ha J s1 Z H1 Q I1 q1
 |false=>exact hb J s1 Z H1 Q I1 q1
end
end L2
namespace L2
open PySem PySem.Spec PyProof.Rows
def Eh(K:zM!)(H:Hp)(a:qT!)(xs:r_):Prop:=
 Rd H a H!\/
  ∃(o:Obj) (its:bD!) (n:Nat),K.lookup a=some o/\o.cls=.type "list"/\o.dict=none/\o.data=.seq its n/\its.size<=sizeLine/\Ar xs hf_
def Ex(K:zM!)(H:Hp)(a:qT!)(xs:r_):Prop:=
 Rd H a bd_\/
  ∃(o:Obj) (its:bD!) (n:Nat),K.lookup a=some o/\o.cls=.type "tuple"/\o.data=.seq its n/\its.size<=sizeLine/\Ar xs hf_
def FM:Value->Option V
 |.none=>some .non
 |.bool b=>some a4!
 |.int i _=>some ay!
 |.str x _=>some bX_
 |.bytes b _=>some (.byt b)
 |.float b _=>some (.flt b)
 |.ref a=>some D_
 |.type n=>some (.ty n)
 |_=>none
def Be.abs{x:V}{u:wY!}(r:Be x u):FM u=some x:=by
 cases x with
 |non=>cases r;rfl
 |bl _=>cases r;rfl
 |int _=>obtain⟨t,rfl⟩:=r;rfl
 |str _=>obtain⟨t,rfl⟩:=r;rfl
 |byt _=>obtain⟨t,rfl⟩:=r;rfl
 |flt _=>obtain⟨t,rfl⟩:=r;rfl
 |ref _=>cases r;rfl
 |ty _=>cases r;rfl
def Be.inj{x y:V}{u:wY!}(r:Be x u)(q:Be y u):x=y:=JO (r.abs.symm.trans q.abs)
def Ar.inj(h:dY!):Ar ys us->xs=ys:=by
 induction h generalizing ys with
 |nil=>intro h;cases h;rfl
 |cons r t ih=>intro h;cases h with|cons r' t'=>rw[r.inj r',ih t']
section
variable{X:Cx}{J:List (Addr×Obj)}{Z:St}{H:Hp}{s:xR!}{a:qT!}{xs ys:List V}
def Eh.of{K:zM!}(h:H a=some H!):Eh K H a xs:=.inl kJ!
def Ex.of{K:zM!}(h:H a=some bd_):Ex K H a xs:=.inl kJ!
def Inv.list(I:b_)(h:qz_):∃its:List Value,Ar xs its/\PlainL s.heap a aO_/\f_<=sizeLine:=by
 obtain h|⟨o,its,n,hk,hc,hd,hs,hz,r⟩:=h
 .obtain⟨z,its,n,r,e⟩:=h.ok I.hok;exact⟨its,r,⟨_,n,e,rfl,rfl,rfl⟩,z⟩
 .refine⟨hf_,r,⟨o,n,qB!,hc,hd,qA_⟩,?_⟩;show"!q"
def Inv.tuple(I:b_)(h:qD!):∃its:List Value,Ar xs its/\IsTup s.heap a aO_/\f_<=sizeLine:=by
 obtain h|⟨o,its,n,hk,hc,hs,hz,r⟩:=h
 .obtain⟨z,its,r,p⟩:=h.ok I.hok;exact⟨its,r,p,z⟩
 .refine⟨hf_,r,⟨o,qB!,hc,n,qA_⟩,?_⟩;show"!q"
def Inv.list_inj(I:b_)(h:qz_)(h':Eh X.K H a ys):xs=ys:=by
 obtain⟨its,r,⟨o,n,e,_,_,d⟩,_⟩:=I.list h;obtain⟨its',r',⟨o',n',e',_,_,d'⟩,_⟩:=I.list h';rw[e]at e';rcases e';rw[d]at d';injection d' with d1 _
 have:its=its':=by simpa using congrArg Array.toList d1
 subst this;exact r.inj r'
def Inv.tuple_inj(I:b_)(h:qD!)(h':Ex X.K H a ys):xs=ys:=by
 obtain⟨its,r,⟨o,e,_,n,d⟩,_⟩:=I.tuple h;obtain⟨its',r',⟨o',e',_,n',d'⟩,_⟩:=I.tuple h';rw[e]at e';rcases e';rw[d]at d';injection d' with d1 _
 have:its=its':=by simpa using congrArg Array.toList d1
 subst this;exact r.inj r'
end
abbrev Cx.wish(X:Cx)(E:I!):Cx:={X with xe:=E}
abbrev Cx.nox(X:Cx):Cx:=X.wish λ_ _=>False
def Cx.Ok.wish{X:Cx}(ok:X.Ok)(E:I!):(fs_).Ok:=
 hg_
def Cx.Ok.unwish{X:Cx}{E:I!}(ok:(fs_).Ok):X.Ok:=
 hg_
section
variable{X:Cx}{J:List (Addr×Obj)}{Z:St}{H:Hp}{s:xR!}{E:Value->Shared->Prop}
def Inv.wish(I:b_)(E:I!):Inv fs_ J Z H s:=⟨I.ok.wish E,I.os,I.bare,I.base,I.loc,I.cell,I.free,I.freeC,I.pin,I.hok,I.len⟩
def Inv.unwish(I:Inv fs_ J Z H s):Inv X J Z H s:=⟨I.ok.unwish,I.os,I.bare,I.base,I.loc,I.cell,I.free,I.freeC,I.pin,I.hok,I.len⟩
def SP.unwish(h:SP fs_ J D f s'):SP X J D f s':=by
 cases f with
 |next=>obtain⟨ae,H',I,q⟩:=h;exact kL!
 |brk=>obtain⟨ae,H',I,q⟩:=h;exact kL!
 |cont=>obtain⟨ae,H',I,q⟩:=h;exact kL!
 |ret u=>obtain⟨v,ae,H',I,r,q⟩:=h;exact⟨v,ae,H',I.unwish,r,q⟩
def Nf.nox{st:d2_}(h:Nf X.nox st t):Nf X st t:=λJ s Z H D I hw=>
 LB (h J s Z H D (I.wish _) hw) (λ_ _ q=>q.unwish) λ_ _ z=>False.elim z
end
section
variable{X:Cx}{st:Stmt}{rest:List Stmt}{t u:TS}{e:Expr}{te:TE}{pos:Pos}
def BQ:TS:=λD Z H=>D.nx Z H
def EJ(t u:TS):TS:=λD Z H=>t {D with nx:=u D} Z H
def a6c:Nf X [] BQ:=λ_ _ Z H _ I h=>QC qG!
def rD(Y:hi!)(h2:Nf X rest u):Nf X hi_ (EJ t u):=by
 intro J s Z H D I h;refine wpAny_execs_cons (cZ (Y J s Z H {D with nx:=u D} I h) λf s1 q=>?_);cases f with
 |next=>
  obtain⟨ae,H',I',q⟩:=q;exact h2 J s1 ae H' D I' q
 |ret v=>exact q
 |brk=>exact q
 |cont=>exact q
def cR(Y:hi!):Nf X [st] t:=by
 intro J s Z H D I h;refine wpAny_execs_cons (cZ (Y J s Z H D I h) λf s1 q=>?_);cases f with
 |next=>exact QC q
 |ret v=>exact q
 |brk=>exact q
 |cont=>exact q
def Inv.quiet(I:b_):interactive X.env=false:=by simp[interactive,I.ok.kind]
def BR(te:TE):TS:=λD Z H=>te Z H λ_ H1=>D.nx Z H1
def mT(he:bY!)(hs:kL_:=by rfl):PS X kM! (BR te):=by intro J s Z H D I h;exact wpAny_Expr_any (cZ hj! λv s1 ⟨x,H1,I1,r1,q1⟩=>⟨Z,H1,I1,q1⟩) I.quiet hs
def EL(te:TE):TS:=λD Z H=>te Z H D.rt
def wQ(he:bY!):PS X hj_ (EL te):=by intro J s Z H D I h;exact wpAny_Return_some (cZ hj! λv s1 ⟨x,H1,I1,r1,q1⟩=>⟨x,Z,H1,I1,r1,q1⟩)
def BN:TS:=λD _ H=>D.rt .non H
def b8x:PS X qH! BN:=λ_ _ Z H _ I h=>wpAny_Return_none ⟨.non,Z,H,I,rfl,h⟩
def ER(c:TT)(t u:TS):TS:=λD Z H=>c Z H λb H1=>if b=true then t D Z H1 else u D Z H1
def b2m(hc:PT X c tc)(ha:Nf X a t)(hb:Nf X b u):PS X (.If c a b pos) (ER tc t u):=by
 intro J s Z H D I h;refine wpAny_If qz!;rintro d s1 ⟨H1,I1,q1⟩;cases d with
 |true=>exact ha J s1 Z H1 D I1 q1
 |false=>exact hb J s1 Z H1 D I1 q1
end
abbrev TG:=V->St->Hp->qH_->Prop
abbrev CY:=List V->St->Hp->qH_->Prop
def PG(X:Cx)(uv:Expr)(t:TG):Prop:=
 ∀(J:u_) (s:xR!) (Z:St) (H:Hp) (v:V) (u:wY!) (Q:hk!),Inv X J Z H s->Be v u->t v Z H Q->
  wpAny d_ X.A (assign uv X.env u) qI! X.xe s
def DY(X:Cx)(ts:ct_)(t:CY):Prop:=
 ∀(J:u_) (s:xR!) (Z:St) (H:Hp) (vs:r_) (us:l_) (Q:hk!),Inv X J Z H s->Ar vs us->t vs Z H Q->
  wpAny d_ X.A (assignInOrder ((assignEach ts X.env).map S_) us) qI! X.xe s
abbrev CW:=V->V->V->Hp->kO_->Prop
def Vg(X:Cx)(t:CW):Prop:=
 ∀(J:u_) (s:xR!) (Z:St) (H:Hp) (o i v:V) (ov iv u:wY!) (Q:Hp->Prop),Inv X J Z H s->Be o ov->Be i iv->Be v u->t o i v H Q->
  wpAny d_ X.A (setItem ov iv u) (λ_ s'=>∃H',Inv X J Z H' s'/\Q H') X.xe s
abbrev FQ:=V->V->Hp->VK->Prop
def GR(X:Cx)(op:Operator)(t:FQ):Prop:=
 ∀(J:u_) (s:xR!) (Z:St) (H:Hp) (x y:V) (v u:wY!) (Q:VK),Inv X J Z H s->Be x v->Be y u->t x y H Q->
  wpAny d_ X.A (inplaceOp op v u) aG! X.xe s
section
variable{X:Cx}{pos:Pos}
def Ll(i:Nat):TG:=λv Z H Q=>Q d1! H
def aY(hN:a3!)(hi:ac_)(hx:a3_)(hf:X.fn x=true\/X.env.scope.names.lookup x=some .local:=by first|exact .inl rfl|exact .inr rfl|assumption):PG X cv! d7!:=by intro J s Z H v u Q I r h;exact wpAny_assign_Name (qS I hN hi hx r (λs' I'=>⟨_,H,I',h⟩) hf)
def AS:CY:=λvs Z H Q=>vs=[]/\Q Z H
def Rv(t:TG)(u:CY):CY:=λvs Z H Q=>∃v r,vs=v::r/\t v Z H λae H'=>u r ae H' Q
def a6g:DY X [] AS:=by intro J s Z H vs us Q I r h;obtain⟨e,h⟩:=h;subst e;cases r;exact assignInOrder_nil qG!
def mU(Y:PG X e t)(h2:DY X es u)
  (hs:(assignEach aq! X.env).map S_=assign e X.env::(kP!).map S_:=by rfl):DY X aq! (Rv t u):=by
 intro J s Z H vs us Q I r h;obtain⟨v,vr,e1,h⟩:=h;subst e1;cases r with
 |cons r rr=>
  rw[hs];refine assignInOrder_cons (cZ (Y J s Z H _ _ _ I r h) ?_);rintro _ s1 ⟨bj,H1,I1,q1⟩;exact h2 J s1 bj H1 _ _ Q I1 rr q1
def AR(K:zM!)(n:Nat)(t:CY):TG:=λv Z H Q=>∃a xs,v=.ref a/\Ex K H a xs/\f_=n/\t xs Z H Q
def b2r(hc:aq_)(h:DY X es t)
  (hn:(kP!).length=n:=by rfl)(bc:(kP!).findIdx? c_=none:=by rfl):PG X (.Tuple es k pos) (AR X.K n t):=by
 intro J s Z H v u Q I r hw;obtain⟨a,xs,e1,hq,hl,hw⟩:=hw;subst e1;subst r;obtain⟨its,rv,ht,hz⟩:=I.tuple hq;refine assign_Tuple_tuple az! ht (by simp[hn,<-hl,rv.length]) bc λh' hx=>?_;have I1:Inv X J Z H {s with heap:=h'}:=I.kept (t':=s.toks) λb o e=>hx b o (JH cs!) e;exact h J _ Z H xs _ Q I1 (by simpa using rv) hw
def FI(to ti:TE)(t:CW):TG:=λv Z H Q=>to Z H λo H1=>ti Z H1 λi H2=>t o i v H2 λH3=>Q Z H3
def c3p(ho:PE X o to)(hi:PE X i ti)(hs:Vg X t)
  (ha:∀v,assign qJ! X.env v=(do
   let ov <-holding [v] d7_
   let iv <-holding [v,ov] qK!
   standAt pos
   holding hk_ qJ_
   release hk_ []):=by intro _;rfl):PG X qJ! (FI to ti t):=by
 intro J s Z H v u Q I r h;rw[ha];refine HP (JS qK_);rintro ov s1 ⟨x,H1,I1,r1,q1⟩;refine HP (JS (cZ (hi J s1 Z H1 _ I1 q1) ?_));rintro iv s2 ⟨y,H2,I2,r2,q2⟩;refine HP (QU (HP (JS (cZ (hs J s2 Z H2 x y v ov iv u _ I2 r1 r2 r q2) ?_))));rintro _ s3 ⟨H3,I3,q3⟩;exact wpAny_release ⟨Z,H3,I3,q3⟩
def Zv(te:TE)(g:TG):TS:=λD Z H=>te Z H λx H1=>g x Z H1 D.nx
def c3m(he:bY!)(hg:kQ!)(hs:swapsWithSole [tg] e pos.line X.env=pure false:=by rfl)(hw:swappedStores [tg] e X.env=pure none:=by rfl)
  (Y:(assignEach [tg] X.env).map S_=[assign tg X.env]:=by rfl):PS X (.Assign [tg] e pos) (Zv te g):=by
 intro J s Z H D I h;refine wpAny_Assign_stores bY_ hs hw;rintro v s1 ⟨x,H1,I1,r1,q1⟩;rw[Y];exact cZ (hg J s1 Z H1 x v _ I1 r1 q1) λ_ s2 q=>q
def wP(hN:a3!)(hi:ac_)(hx:a3_)(he:bY!)(hs:swapsWith e (some kQ_) pos.line X.env=pure false:=by rfl)(hf:X.fn x=true\/X.env.scope.names.lookup x=some .local:=by first|exact .inl rfl|exact .inr rfl|assumption):
  PS X (.Assign qN_ e pos) (Zv te d7!):=by
 intro J s Z H D I h;refine wpAny_Assign_Name bY_ hs;rintro v s1 ⟨y,H1,I1,r1,q1⟩;exact qS I1 hN hi hx r1 (λs2 I2=>⟨_,H1,I2,q1⟩) hf
def EU(i:Nat)(te:TE)(ti:FQ):TS:=λD Z H=>∃x,Z[i]?=some fv!/\te Z H λy H1=>ti x y H1 λz H2=>D.nx (Z.set i (some z)) H2
def c3l(hN:a3!)(hi:ac_)(hx:a3_)(he:bY!)(ho:GR X op ti)(hf:X.fn x=true\/X.env.scope.names.lookup x=some .local:=by first|exact .inl rfl|exact .inr rfl|assumption):
  PS X (.AugAssign kQ_ op e pos) (EU i te ti):=by
 intro J s Z H D I h;obtain⟨v,e1,h⟩:=h;obtain⟨m,hn,hl⟩:=I.loc;have VB:Xb X.env.scope x:=by obtain k|k:=hx;exact .inl k;exact .inr (.inl k)
 obtain⟨u,r,l⟩:=hl i x v hi e1 VB;refine wpAny_AugAssign_Name ?_;have go:wpAny d_ X.A d2! (λw ao=>wpAny d_ X.A (inplaceOp op u w) (λr c8=>wpAny d_ X.A (storeName X.env x r) (λ_=>SP X J D .next) X.xe c8) X.xe ao) X.xe s:=by
  refine cZ hj! ?_;rintro w s1 ⟨y,H1,I1,r1,q1⟩;refine cZ (ho J s1 Z H1 v y u w _ I1 r r1 q1) ?_;rintro z s2 ⟨zv,H2,I2,r2,q2⟩;exact qS I2 hN hi hx r2 (λs3 I3=>⟨_,H2,I3,q2⟩) hf
 obtain⟨hk,hm⟩|⟨hk,c,hc,cg⟩:=l
 .exact wpAny_loadName_local I.ok.kind hk hn hm go
 .obtain hk|hk:=hk
  .exact wpAny_loadName_cell I.ok.kind hk hc cg go
  .obtain k|k:=hx
   .show"!c"
   .show"!c"
def HJ(f:kR!):FQ:=λx y H Q=>∃i j,x=.int i/\y=.int j/\Q (.int (f i j)) H
def c4y:GR X .Add (HJ λi j=>i+j):=by intro J s Z H x y v u Q I r1 r2 h;obtain⟨i,j,e1,e2,q⟩:=h;subst e1;subst e2;obtain⟨t,rfl⟩:=r1;obtain⟨t',rfl⟩:=r2;exact iadd_int hl_
def Zt(c:TT)(tb:TS):TS:=λD Z H=>∃W:Nat->St->Hp->Prop,(∃m,W m Z H)/\∀m Z H,W m Z H->
 c Z H λb H1=>if b=true then∃N:St->Hp->Prop,(∀ae H',N ae H'->∃m',m'<m/\W m' ae H')/\tb {D with nx:=N,ct:=N,bk:=D.nx} Z H1 else D.nx Z H1
def b2k(hp:hm!)(hc:PT X c tc)(hb:qQ_):PS X qS! (Zt tc tb):=by
 intro J s Z H D I h;obtain⟨W,⟨m0,w0⟩,turn⟩:=h;refine wpAny_While (codeAny_whileLoop (λn s'=>∃ae H',Inv X J ae H' s'/\W n ae H') ?_ m0 ⟨Z,H,I,w0⟩);rintro n s1 ⟨bj,H1,I1,w1⟩;refine OD hp (cZ (hc J s1 bj H1 _ I1 (turn n bj H1 w1)) ?_);rintro b s2 ⟨H2,I2,q2⟩;cases b with
 |true=>
  obtain⟨N,hN,q2⟩:=q2;rw[D!];refine OD hp (cZ (hb J s2 bj H2 _ I2 q2) λf s3 q3=>?_);cases f with
  |next=>
   show"!^"
  |cont=>
   show"!^"
  |brk=>exact q3
  |ret v=>exact q3
 |false=>
  rw[IF JB];exact QC ⟨bj,H2,I2,q2⟩
end
structure It where
 go:Nat->Hp->Prop
 yld:Nat->Hp->V->Hp->Prop
 stop:Nat->Hp->Prop
def Eo(X:Cx)(J:u_)(H:Hp)(b:qT!):Prop:=
 H b=none/\b≠X.env.locals/\b∉X.fs/\g5_/\g6!/\∀p∈X.pn++J,p.1≠b
def Inv.fpOk(I:b_)(hb:i!<=b)(hn:H' b=none):Eo X J H' b:=by
 refine⟨hn,MX (IQ I.lt hb),I.nofs hb,.inr (JG I.sz hb),λx c e z=>?_,λp hp z=>?_⟩
 .obtain⟨v,q⟩:=I.cell x c e;exact absurd (IQ q.lt qU_) c3_
 .exact absurd (IQ (IT (kR_).1) qU_) c3_
structure Pf(P:xc!)(w:wZ!)(K:zM!)(tg:Expr)(af:It)(fp:ax_)(it:qT!)(tn:hn_):Prop where
 mem:it∈fp
 obj:∀i h,tn i h->∀b∈fp,∃o,h.get? b=some o/\∀v,o.data≠.cell v
 keep:∀i h h',tn i h->(∀b∈fp,∀o,h.get? b=some o->h'.get? b=some o)->tn i h'
 item:∀(X:Cx),X.prog=P->X.w=w->X.K=K->X.calm=true->∀(i:Nat) (J:u_) (s:xR!) (Z:St) (H:Hp) (E:I!),Inv X J Z H s->kS!->tn i s.heap->af.go i H->
  wpAny B_ X.A ho! (λr s1=>∃u,r=some u/\
   wpAny B_ X.A qV! (λ_ s2=>∃x H',Inv X J Z H' s2/\Be x u/\af.yld i H x H'/\tn ag! s2.heap/\∀b∈fp,H' b=none) E s1) E s
 done:∀(X:Cx),X.prog=P->X.w=w->X.K=K->X.calm=true->∀(i:Nat) (J:u_) (s:xR!) (Z:St) (H:Hp) (E:I!),Inv X J Z H s->kS!->tn i s.heap->af.stop i H->
  wpAny B_ X.A ho! (λr s1=>r=none/\Inv X J Z H s1) E s
 self:∀(A:wX!) (i:Nat) (s:xR!) (Q:I!) (E:I!),tn i s.heap->Q bZ! s->wpAny B_ A qV_ Q E s
abbrev TI:=St->Hp->(It->Hp->Prop)->Prop
def CZ(X:Cx)(J:u_)(Z:St)(tg:Expr)(R:ho_)(uw:wY!)(s2:xR!):Prop:=
 ∃(it:qT!) (fp:ax_) (tn:hn_) (af:It) (H':Hp),uw=.ref it/\Inv X J Z H' s2/\Pf X.prog X.w X.K tg af fp it tn/\tn 0 s2.heap/\(∀b∈fp,Eo X J H' b)/\R af H'
def PI(X:Cx)(tg iter:Expr)(wi:TI):Prop:=
 ∀(J:u_) (s:xR!) (Z:St) (H:Hp) (R:ho_),Inv X J Z H s->wi Z H R->
  wpAny d_ X.A (eval iter X.env) (λv s1=>wpAny d_ X.A (pyIter v) kS_ X.xe s1) X.xe s
def a7q(ho:s.heap.get? it=some o)(hc:o.cls=.type n)(hd:o.data=.fields vs)
  (hn:(qX!).contains n=false)(hQ:Q () s):wpAny M A qV! Q E s:=by
 unfold letOwnedTupleGo;cases tg<;>first
  |exact HS hQ
  |(cases u<;>first
    |exact HS hQ
    |(refine HP (wpAny_load ho ?_);rw[hc,hd];show wpAny M A (if((qX!).contains n&&vs[0]?==some (rawInt _))=true then _ else _) Q E s;rw[IF (by intro h;rw[hn,Bool.false_and]at h;exact Bool.noConfusion h)];exact HS hQ))
def FU(K:zM!)(a:qT!):It:=
 ⟨λi H=>∃xs x,Eh K H a xs/\xs[i]?=some x,λi H x H'=>H'=H/\∀xs,Eh K H a xs->xs[i]?=some x,λi H=>∃xs,Eh K H a xs/\f_<=i⟩
def HN(K:zM!)(a:qT!):It:=
 ⟨λi H=>∃xs x,Ex K H a xs/\xs[i]?=some x,λi H x H'=>H'=H/\∀xs,Ex K H a xs->xs[i]?=some x,λi H=>∃xs,Ex K H a xs/\f_<=i⟩
def EB(lo:Int)(n:Nat):It:=⟨q0!,λi H x H'=>H'=H/\x=.int (lo+i),q0_⟩
def a8n{K:zM!}(a it:qT!):Pf P w K tg (FU K a) [it] it (λi h=>h.IsListIter it a i) where
 mem:=by simp
 obj:=λi h st b hb=>by
  have e:b=it:=by simpa using hb
  subst e;show"!t"
 keep:=λi h h' st k=>st.at λo e=>k it c! o e
 item:=by
  show"!4";obtain⟨xs,x,hq,hx⟩:=hg;obtain⟨its,rv,p,hz⟩:=I.list hq;obtain⟨u,hu,ru⟩:=rv.get hx;show"!a";refine wpAny_pyNext_list_item st p.isList (x:=u) q1! λh' ac sb=>?_;have I1:Inv X J Z H {s with heap:=h'}:=I.turned (t':=s.toks) q1_ f0 f1 f3 f4 f5;obtain⟨o,e,c,d⟩:=id ac;exact⟨u,rfl,a7q (s:={s with heap:=h'}) e c d a_ ⟨x,H,I1,ru,⟨rfl,λys hy=>by rw[I.list_inj hy hq];exact hx⟩,ac,hp_⟩⟩
 done:=by
  show"!4";obtain⟨xs,hq,hx⟩:=hg;obtain⟨its,rv,p,hz⟩:=I.list hq;show"!a";have hl:=d9_;exact wpAny_pyNext_list_end az! st p.isList be_ λh' eb=>q3_
 self:=λ_ _ _ _ _ st h=>wpAny_pyIter_listiter st h
def a2s{K:zM!}(it:qT!)(lo:Int)(n:Nat):Pf P w K tg (EB lo n) [it] it (λi h=>IsRangeIter h it (lo+(i:Nat)*1) q4_ 1) where
 mem:=by simp
 obj:=λi h st b hb=>by
  have e:b=it:=by simpa using hb
  subst e;exact⟨_,st,λv z=>by
   have z':Data.fields _=Data.cell v:=z;cases z'⟩
 keep:=λi h h' st k=>k it c! _ st
 item:=by
  show"!1";have W:=Walks.range (prog:=X.prog) (w:=X.w) az! it lo 1 n;show"!6";refine⟨_,rfl,a7q (s:={s with heap:=h',toks:=tk}) (n:="range_iterator") ac rfl rfl a_ ⟨.int (lo+i),H,I1,⟨t,?_⟩,aH_,ac,hp_⟩⟩;rw[Int.mul_one]
 done:=by
  show"!1";exact wpAny_pyNext_range_end az! st (by have:n<=i:=hg;omega) λh' eb=>q3_
 self:=λ_ _ _ _ _ st h=>wpAny_pyIter_rangeiter st h
end L2
namespace L2
open PySem PySem.Spec PyProof.Rows
section
variable{X:Cx}{tg:Expr}
def CU(K:zM!)(tl:TE):TI:=λZ H R=>tl Z H λx H1=>∃a,x=.ref a/\(∃xs,Eh K H1 a xs)/\R (FU K a) H1
def FH(K:zM!)(tl:TE):TI:=λZ H R=>tl Z H λx H1=>∃a,x=.ref a/\(∃xs,Ex K H1 a xs)/\R (HN K a) H1
def a6f(hl:PE X l tl):PI X tg l (CU X.K tl):=by
 intro J s Z H R I h;refine cZ q7! ?_;rintro v s1 ⟨x,H1,I1,r1,q1⟩;obtain⟨a,e,⟨xs,hq⟩,q⟩:=q1;subst e;subst r1;obtain⟨its,rv,p,hz⟩:=I1.list hq;refine wpAny_pyIter_list p.isList ?_;refine⟨x_,[x_],_,_,H1,rfl,I1.kept (t':=s1.toks) λb o e=>HU _ e,a8n a _,ea!,bE_,q⟩;have e:b=x_:=by simpa using hb
 show"!N"
def b1z{lo hi:Int}(I:b_)(Y:-kV!<=lo)(h2:lo<2 ^ 62)(h3:-kV!<=hi)(h4:hi<2 ^ 62)
  (q:R (EB lo (kV_).toNat) H):wpAny d_ X.A q8_ kS_ E {s with heap:=s.heap.push {cls:=.type "range",data:=.fields #[.int lo t,.int hi u,.int 1 v]},toks:=tk}:=by
 refine wpAny_pyIter_range q8! (small_one Y h2 h3 h4) ?_;have I1:Inv X J Z H {s with heap:=s.heap.push {cls:=.type "range",data:=.fields #[.int lo t,.int hi u,.int 1 v]},toks:=tk}:=I.kept λb o e=>HU _ e;refine⟨(kW!).objs.size,[(kW!).objs.size],_,_,H,rfl,
  I1.kept (t':=tk) λb o e=>HU _ e,a2s _ lo (kV_).toNat,?_,λb hb=>?_,q⟩
 .have e1:lo+cy_*1=lo:=by simp
  have e2:q9! - cy_=Builtin.Range.rangeSize lo hi 1:=by rw[rangeSize_one];split<;>omega
  show IsRangeIter _ _ (lo+cy_*1) (q9! - cy_) 1;rw[e1,e2];exact IL _ rfl
 .have e:b=(kW!).objs.size:=by simpa using hb
  show"!N"
def CT(ta:TA):TI:=λZ H R=>ta Z H λvs H1=>∃j:Int,vs=[.int j]/\-kV!<=j/\j<2 ^ 62/\R (EB 0 j.toNat) H1
def a9c(hg:hq_)(hm:hr!)(ha:PA X [a] ta)(hs:ra!:=by rfl):PI X tg rb! (CT ta):=by
 intro J s Z H R I h;refine Call_ (iE I hg hm boot_range (KJ (cZ fy_ ?_) hs rfl));rintro us s1 ⟨vs,H1,I1,r1,q1⟩;obtain⟨j,e,q1,q2,q⟩:=q1;subst e;cases r1 with
 |cons r rr=>
  cases rr;obtain⟨t,rfl⟩:=r;exact call_range_1 (b1z I1 a! a! q1 q2 (by simpa using q))
def ES(wi:TI)(g:TG)(tb:TS):TS:=λD Z H=>wi Z H λaf H1=>∃W:Nat->Nat->St->Hp->Prop,(∃m,W 0 m Z H1)/\∀i m Z H,W i m Z H->
 (af.stop i H/\D.nx Z H)\/(af.go i H/\∃N:St->Hp->Prop,(∀ae H',N ae H'->∃m',m'<m/\W ag! m' ae H')/\∀x H',af.yld i H x H'->g x Z H' λeg H2=>tb {D with nx:=N,ct:=N,bk:=D.nx} eg H2)
def Od(fp:ax_)(h:Heap):List dZ!:=fp.filterMap λb=>(h.get? b).map λo=>ea_
def iD(hb:b∈fp)(e:pM!):ea_∈Od fp h:=NJ.mpr ⟨b,hb,rc_⟩
def a9r(hp:p∈Od fp h):p.1∈fp/\h.get? p.1=some p.2:=by
 obtain⟨b,hb,e⟩:=NJ.mp hp;cases q:h.get? b with
 |none=>rw[q]at e;rcases e
 |some o=>
  rw[q]at e;have e':ea_=p:=JO e;subst e';exact⟨hb,q⟩
def Inv.pinned(I:b_)(hf:∀b∈fp,Eo X J H b)(ho:∀b∈fp,∃o,s.heap.get? b=some o/\∀v,o.data≠.cell v):Inv X (J++Od fp s.heap) Z H s:=
 I.pins_of λp hp=>(IM.mp hp).elim (λz=>I.pin p hr_) λz=>by
  obtain⟨hb,e⟩:=a9r z;obtain⟨f0,f1,f2,_⟩:=hf p.1 hb;obtain⟨o,e',d⟩:=ho p.1 hb;rw[e]at e';rcases e';exact⟨e,f0,f1,f2,d⟩
def Inv.unpinned(I:Inv X (J++pl) Z H s):Inv X J Z H s:=I.pins_of λp hp=>I.pin p (HX _ (IP _ hp))
def c3j(hp:hm!)(hc:aq_)(hi:kY_)(hg:kQ!)(hb:qQ_)
  (hs:da!:=by intro _;rfl):PS X rf! (ES wi g tb):=by
 intro J s Z H D I h;refine wpAny_For (cZ (hi J s Z H _ I h) λv s1 Y=>cZ Y λuw s2 h2=>?_) hs;obtain⟨it,fp,tn,af,H2,e,I2,T,bx,f2,W,⟨m0,w0⟩,turn⟩:=h2;subst e;have mo:∀{H':Hp},fz!->∀b∈fp,Eo X J H' b:=λhn b hb=>⟨hn b hb,(da_).2⟩;refine codeAny_forLoop_any (λn s'=>∃i ae H',Inv X J ae H' s'/\tn i s'.heap/\fz!/\W i n ae H') ?_ m0 ⟨0,Z,H2,I2,bx,rg_,w0⟩;rintro n s3 ⟨i,gu,H3,I3,ux,zd,w3⟩;obtain⟨stop,qn⟩|⟨go,N,hN,step⟩:=turn i n gu H3 w3
 .refine OD hp (cZ (T.done X rfl rfl rfl hc i J s3 gu H3 X.xe I3 (mo zd) ux stop) ?_);rintro r s4 ⟨hr,I4⟩;subst hr;exact QC ⟨gu,H3,I4,qn⟩
 .refine OD hp (cZ (T.item X rfl rfl rfl hc i J s3 gu H3 X.xe I3 (mo zd) ux go) ?_);rintro r s4 ⟨u,hr,h4⟩;subst hr;refine OD hp (cZ h4 ?_);rintro _ s5 ⟨x,H5,I5,r5,y5,mz,vz⟩;have v3:=I5.pinned (mo vz) rh_;refine OD hp (cZ (hg _ s5 gu H5 x u _ v3 r5 ri!) ?_);rintro _ s6 ⟨m7,H6,I6,q6⟩;refine OD hp (cZ (hb _ s6 m7 H6 _ I6 q6) λf s7 q7=>?_);have again:∀{io:St} {H7:Hp},Inv X (J++Od fp s5.heap) io H7 s7->N io H7->∃m,m<n/\∃i ae H',Inv X J ae H' s7/\tn i s7.heap/\fz!/\W i m ae H':=λ{io H7} I7 n7=>by
   obtain⟨m',hm,w7⟩:=hN io H7 n7;refine⟨m',hm,i+1,io,H7,hs!,T.keep _ _ _ mz λb hb o e=>(rj!).1,bE_,w7⟩;obtain⟨o,e,d⟩:=T.obj _ _ mz b hb;exact(rj!).2.1
  cases f with
  |next=>obtain⟨io,H7,I7,n7⟩:=q7;exact again I7 n7
  |cont=>obtain⟨io,H7,I7,n7⟩:=q7;exact again I7 n7
  |brk=>obtain⟨io,H7,I7,q7⟩:=q7;exact⟨io,H7,hs!,q7⟩
  |ret v=>obtain⟨x7,io,H7,I7,r7,q7⟩:=q7;exact⟨x7,io,H7,hs!,r7,q7⟩
end
end L2
namespace L2
open PySem PySem.Spec PyProof.Rows
abbrev R2:=V->V->Hp->VK->Prop
def Fc(X:Cx)(f:rj_)(r:R2):Prop:=
 ∀(J:u_) (s:xR!) (Z:St) (H:Hp) (x y:V) (v u:wY!) (Q:VK),Inv X J Z H s->Be x v->Be y u->r x y H Q->
  wpAny d_ X.A (f v u) aG! X.xe s
def FO(X:Cx)(f:Value->Sem Value)(r:rk!):Prop:=
 ∀(J:u_) (s:xR!) (Z:St) (H:Hp) (x:V) (v:wY!) (Q:VK),Inv X J Z H s->Be x v->r x H Q->
  wpAny d_ X.A (f v) aG! X.xe s
def Hv(X:Cx)(f:wY!)(r:fz_):Prop:=
 ∀(J:u_) (s:xR!) (Z:St) (H:Hp) (xs:r_) (us:l_) (Q:VK),Inv X J Z H s->Ar xs us->r xs H Q->
  wpAny d_ X.A (call f us) aG! X.xe s
def FP(X:Cx)(r:V->Hp->qi!->Prop):Prop:=
 ∀(J:u_) (s:xR!) (Z:St) (H:Hp) (x:V) (v:wY!) (Q:c7!),Inv X J Z H s->Be x v->r x H Q->
  wpAny d_ X.A kF_ hc_ X.xe s
def BE(r:R2)(ta tb:TE):TE:=λZ H Q=>ta Z H λx H1=>tb Z H1 λy H2=>r x y H2 Q
def HA(r:rk!)(ta:TE):TE:=λZ H Q=>ta Z H λx H1=>r x H1 Q
nonrec def rI(C:Int->Int->Prop)(g:rl!):R2:=λx y H Q=>∃i j,x=.int i/\y=.int j/\C i j/\Q a5! H
def Pz(g:rl!):R2:=λx y H Q=>∃i j,x=.int i/\y=.int j/\Q a5! H
nonrec def rU(g:Int->V):V->Hp->VK->Prop:=λx H Q=>∃i,x=.int i/\Q (g i) H
section
variable{X:Cx}{a b c:Expr}{ta tb tc:TE}{pos:Pos}
def c6b(ha:aR!)(hb:cx!){R:V->V->Hp->Prop}(I:b_)
  (h:ta Z H λx H1=>tb Z H1 λy H2=>R x y H2){f:rj_}
  (hf:∀v u s2 x y H2,Inv X J Z H2 s2->Be x v->Be y u->R x y H2->wpAny d_ X.A (f v u) Q X.xe s2):
  wpAny d_ X.A (eval a X.env) (λv al=>wpAny d_ X.A (eval b X.env) (λu ao=>wpAny d_ X.A (f v u) Q X.xe ao) X.xe al) X.xe s:=by
 refine cZ c7_ ?_;rintro v s1 ⟨x,H1,I1,r1,q1⟩;refine cZ ht! ?_;rintro u s2 ⟨y,H2,I2,r2,q2⟩;exact hf v u s2 x y H2 I2 r1 r2 q2
def a6h(ho:k0!)(ha:aR!)(hb:cx!):PE X k0_ hu!:=by intro J s Z H Q I h;exact wpAny_BinOp rm_
def c7a(ho:FO X (unaryOp op) r)(ha:aR!):PE X (.UnaryOp op a pos) (HA r ta):=by intro J s Z H Q I h;exact UnaryOp_ (cZ c7_ λv s1 ⟨x,H1,I1,r1,q1⟩=>ho J s1 Z H1 x v Q I1 r1 q1)
def opI{g:kR!}
  (rule:∀(i j:Int) (t u:Tok) (s:xR!) (Q:I!) (E:I!),C i j->Q rn_ {s with toks:=s.toks+1}->wpAny d_ X.A k1! Q E s):
  Fc X f (rI C λi j=>.int a5!):=by
 intro J s Z H x y v u Q I rx ry h;obtain⟨i,j,rfl,rfl,hc,q⟩:=h;show"!@";obtain⟨t',rfl⟩:=ry;exact rule i j t t' s _ _ hc rp!
def c7h{g:kR!}
  (rule:∀(i j:Int) (t u:Tok) (s:xR!) (Q:I!) (E:I!),Q rn_ {s with toks:=s.toks+1}->wpAny d_ X.A k1! Q E s):
  Fc X f (Pz λi j=>.int a5!):=by
 show"!Q";exact rule i j t t' s _ _ rp!
def b9n{g:rp_}
  (rule:∀(i j:Int) (t u:Tok) (s:xR!) (Q:I!) (E:I!),Q (.bool a5!) s->wpAny d_ X.A k1! Q E s):
  Fc X f (Pz λi j=>.bl a5!):=by
 show"!Q";exact rule i j t t' s _ _ ⟨.bl a5!,H,I,rfl,q⟩
def AZ(i j:Int):Prop:=0<j/\j<1073741824
def AY(i j:Int):Prop:=0<=j/\j<=1000000/\cz!<2 ^ 64
def Xf(i j:Int):Prop:=(-fA_<i/\i<2 ^ 64)\/(-fA_<j/\j<2 ^ 64)
def Xf.ok(h:Xf i j):IntMulOk i j:=by
 obtain⟨Y,h2⟩|⟨Y,h2⟩:=h
 .exact .of_left rr!
 .exact .of_right rr!
def c3z:Fc X eb! (Pz λi j=>.int (i+j)):=c7h λ_ _ _ _ _ _ _ q=>add_int q
def rG:Fc X (binaryOp .Sub) rr_:=c7h λ_ _ _ _ _ _ _ q=>sub_int q
def a3i:Fc X rs! k2!:=opI λ_ _ _ _ _ _ _ hc q=>mul_int q hc.ok
def gK:Fc X (binaryOp .FloorDiv) k2_:=opI λi j _ _ _ _ _ hc q=>by
 have Y:(0:Int)<j:=hc.1;have h2:j<1073741824:=hc.2;exact floordiv_int a! (by rw[Int.fdiv_eq_ediv_of_nonneg i a!];exact q) (.inl rs_)
def eY:Fc X (binaryOp .Mod) k3_:=opI λi j _ _ _ _ _ hc q=>by
 have Y:(0:Int)<j:=hc;exact mod_int' a! (by rw[Int.fmod_eq_emod_of_nonneg i a!];exact q)
def c3u:Fc X (binaryOp .Pow) k4!:=opI λ_ _ _ _ _ _ _ hc q=>pow_int_small hc.1 hc.2.1 hc.2.2 q
def unI{g:Int->Int}
  (rule:∀(i:Int) (t:Tok) (s:xR!) (Q:I!) (E:I!),Q (.int (g i) s.toks) {s with toks:=s.toks+1}->wpAny d_ X.A (f c2!) Q E s):
  FO X f (rU λi=>.int (g i)):=by
 intro J s Z H x v Q I rx h;obtain⟨i,rfl,q⟩:=h;show"!@";exact rule i t s _ _ ⟨.int (g i),H,aQ_,G!,q⟩
def c2p:FO X (unaryOp .USub) (rU λi=>.int (-i)):=unI λ_ _ _ _ _ q=>neg_int q
end
def EW:V->V->Bool
 |.non,.non=>true|.non,.int _=>true|.int _,.non=>true|.non,.bl _=>true|.bl _,.non=>true|.non,.str _=>true|.str _,.non=>true
 |.int _,.int _=>true|.bl _,.bl _=>true|.str _,.str _=>true|.byt _,.byt _=>true
 |.int _,.str _=>true|.str _,.int _=>true|.bl _,.str _=>true|.str _,.bl _=>true
 |_,_=>false
def GI:R2:=λx y H Q=>EW x y=true/\Q (.bl (!decide (x=y))) H
def a8a:decide (V.int i=V.int j)=(i==j):=by rw[MJ];simp
def c5o:decide (V.bl i=V.bl j)=(i==j):=by rw[MJ];simp
def a7z:decide (V.str i=V.str j)=(i==j):=by rw[MJ];simp
def c1b:decide (V.byt i=V.byt j)=(i.toList==j.toList):=by rw[MJ];cases i;cases j;simp
section
variable{X:Cx}{a b c:Expr}{ta tb tc:TE}{pos:Pos}
def eA(I:b_)(q:Q (.bl k) H)(e:k=k'):EP X J Z Q (.bool k') s:=by subst e;exact⟨.bl k,H,I,rfl,q⟩
def uR:Fc X ry! GI:=by
 intro J s Z H x y v u Q I rx ry h;obtain⟨hs,q⟩:=h;cases x with
 |non=>
  subst rx;cases y with
  |non=>cases ry;exact PySem.EqNone.ne_none_none bf!
  |bl j=>cases ry;exact PySem.EqNone.ne_none_bool bf!
  |int j=>obtain⟨t',rfl⟩:=ry;exact PySem.EqNone.ne_none_int bf!
  |str j=>obtain⟨t',rfl⟩:=ry;exact PySem.EqNone.ne_none_str bf!
  |_=>exact absurd eb_ JB
 |bl i=>
  subst rx;cases y with
  |non=>cases ry;exact PySem.EqNone.ne_bool_none bf!
  |bl j=>cases ry;exact ne_bool (eA I q (congrArg not c5o))
  |str j=>obtain⟨t',rfl⟩:=ry;exact PySem.EqMixed.ne_bool_str bf!
  |_=>exact absurd eb_ JB
 |int i=>
  obtain⟨t,rfl⟩:=rx;cases y with
  |non=>cases ry;exact PySem.EqNone.ne_int_none bf!
  |int j=>obtain⟨t',rfl⟩:=ry;exact ne_int (eA I q (congrArg not a8a))
  |str j=>obtain⟨t',rfl⟩:=ry;exact PySem.EqMixed.ne_int_str bf!
  |_=>exact absurd eb_ JB
 |str i=>
  obtain⟨t,rfl⟩:=rx;cases y with
  |non=>cases ry;exact PySem.EqNone.ne_str_none bf!
  |bl j=>cases ry;exact PySem.EqMixed.ne_str_bool bf!
  |int j=>obtain⟨t',rfl⟩:=ry;exact PySem.EqMixed.ne_str_int bf!
  |str j=>obtain⟨t',rfl⟩:=ry;exact ne_str (eA I q (congrArg not a7z))
  |_=>exact absurd eb_ JB
 |byt i=>
  obtain⟨t,rfl⟩:=rx;cases y with
  |byt j=>obtain⟨t',rfl⟩:=ry;exact W.ne_bytes (eA I q (congrArg not c1b))
  |_=>exact absurd eb_ JB
 |_=>cases y<;>exact absurd eb_ JB
def a6o:Fc X (compareOp .Lt) k7_:=b9n λ_ _ _ _ _ _ _ q=>lt_int q
def c7e:Fc X k8! (Pz λi j=>.bl k8_):=b9n λ_ _ _ _ _ _ _ q=>le_int q
def a6p:Fc X rA_ la!:=b9n λ_ _ _ _ _ _ _ q=>gt_int q
def c7g:Fc X (compareOp .GtE) lb!:=b9n λ_ _ _ _ _ _ _ q=>ge_int q
def a3j:Fc X rB! rB_:=by
 intro J s Z H x y v u Q I rx ry h;obtain⟨rfl,q⟩:=h;subst ry;refine is_none_gen (eA I q ?_);cases x<;>first
  |(subst rx;rfl)
  |(obtain⟨t,rfl⟩:=rx;rfl)
def wU:Fc X rC! rD!:=by
 intro J s Z H x y v u Q I rx ry h;obtain⟨rfl,q⟩:=h;subst ry;refine isnot_none_gen (eA I q ?_);cases x<;>first
  |(subst rx;rfl)
  |(obtain⟨t,rfl⟩:=rx;rfl)
def Fc.or(h:Fc X f r)(h':Fc X f r'):Fc X f rD_:=by
 intro J s Z H x y v u Q I rx ry q;obtain q|q:=q
 .exact h J s Z H x y v u Q I rx ry q
 .exact h' J s Z H x y v u Q I rx ry q
def aP(b:Expr)(h:op≠.In:=by decide)(h2:op≠.NotIn:=by decide):behindInMarks op b=false:=by
 have e1:(op==CmpOp.In)=false:=by cases op<;>first|rfl|exact absurd rfl h
 have e2:(op==CmpOp.NotIn)=false:=by cases op<;>first|rfl|exact absurd rfl h2
 cases b<;>simp[behindInMarks,e1,e2]
def a6k(ho:bF!)(ha:aR!)(hb:cx!)(hm:ec_):PE X ed! hu!:=by intro J s Z H Q I h;exact wpAny_Compare1 rm_ hm
def Yx(t:TE):TT:=λZ H Q=>t Z H λx H'=>∃k,x=.bl k/\Q k H'
def a6b(ho:bF!)(ha:aR!)(hb:cx!)(hm:ec_):PT X ed! (Yx hu!):=by
 intro J s Z H Q I h;refine wpAny_isTrue_Compare1 (cZ c7_ λv s1 ⟨x,H1,I1,r1,q1⟩=>cZ ht! λu s2 ⟨y,H2,I2,r2,q2⟩=>
  cZ lb_ λc s3 ⟨z,H3,I3,r3,k,e,q3⟩=>?_) hm
 subst e;subst r3;exact JW ⟨H3,I3,q3⟩
def Vt(r r':R2)(ta tb tc:TE):TE:=λZ H Q=>ta Z H λx H1=>tb Z H1 λy H2=>r x y H2 λz H3=>∃k,z=.bl k/\
 (if k=true then tc Z H3 λw' H4=>r' y w' H4 Q else Q af_ H3)
def b3b(ho:bF!)(d9:hv_)(ha:aR!)(hb:cx!)(hc:PE X c tc)
  (hm:hw!:=by with_unfolding_all rfl):PE X hw_ zT_:=by
 intro J s Z H Q I h;refine Compare_chain (cZ c7_ λv s1 ⟨x,H1,I1,r1,q1⟩=>chain_link (cZ ht! λu s2 ⟨y,H2,I2,r2,q2⟩=>
  cZ lb_ λd s3 ⟨z,H3,I3,r3,k,e,q3⟩=>?_)) hm
 subst e;subst r3;refine JW ?_;cases k with
 |false=>exact ite_ff ⟨he_,H3,I3,rfl,q3⟩
 |true=>exact ite_tt (chain_last (cZ rG! λw' s4 ⟨z',H4,I4,r4,q4⟩=>d9 J s4 Z H4 y z' u w' Q I4 r2 r4 q4))
def b2j(ho:bF!)(d9:hv_)(ha:aR!)(hb:cx!)(hc:PE X c tc)
  (hm:hw!:=by with_unfolding_all rfl):PT X hw_ (Yx zT_):=by
 intro J s Z H Q I h;refine isTrue_chain (cZ c7_ λv s1 ⟨x,H1,I1,r1,q1⟩=>test_link (cZ ht! λu s2 ⟨y,H2,I2,r2,q2⟩=>
  cZ lb_ λd s3 ⟨z,H3,I3,r3,k,e,q3⟩=>?_)) hm
 subst e;subst r3;refine JW ?_;cases k with
 |false=>
  obtain⟨k',e',q'⟩:=q3;cases e';exact ite_ff ⟨H3,I3,q'⟩
 |true=>
  refine ite_tt (test_last (cZ rG! λw' s4 ⟨z',H4,I4,r4,q4⟩=>cZ (d9 J s4 Z H4 y z' u w' _ I4 r2 r4 q4) ?_));rintro d' s5 ⟨z2,H5,I5,r5,k2,e2,q5⟩;subst e2;subst r5;exact JW ⟨H5,I5,q5⟩
def CV(K:zM!)(x:V)(H:Hp)(k:Bool):Prop:=
 match x with
 |.non=>k=false
 |.bl b=>k=b
 |.int i=>k=fC_
 |.str y=>b0!<=sizeLine/\k=((b0!:Int) != 0)
 |.byt y=>y.size<=sizeLine/\k=((y.size:Int) != 0)
 |.ref p=>(∃xs,Eh K H p xs/\k=! dc!)\/(∃xs,Ex K H p xs/\k=! dc!)\/∃h1,H p=some dc_/\k=! ld_
 |_=>False
def a4l(r:KV h1 vs):(!vs.isEmpty)=! ld_:=by cases r<;>rfl
def sN(r:Ar xs its):(! le!)=! dc!:=by cases r<;>simp
def oZ:(sizeLine:Nat)<2 ^ 63:=by rw[KA];decide
def c2s:FP X (λx H Q=>∃k,CV X.K x H k/\Q k H):=by
 intro J s Z H x v Q I rx h;obtain⟨k,e,q⟩:=h;have hl:=oZ;have hs:sizeLine=16777216:=KA;cases x with
 |non=>
  subst rx;have e':k=false:=e;subst e';exact truthy_none le_
 |bl b=>
  subst rx;have e':k=b:=e;subst e';exact JW le_
 |int i=>
  show"!@";have e':k=fC_:=e;subst e';exact PySem.P.truthy_int le_
 |str y=>
  show"!@";obtain⟨hy,e'⟩:b0!<=sizeLine/\k=((b0!:Int) != 0):=e;subst e';exact PySem.P.truthy_str a! rI_
 |byt y=>
  show"!@";obtain⟨hy,e'⟩:y.size<=sizeLine/\k=((y.size:Int) != 0):=e;subst e';exact W.truthy_bytes a! rI_
 |ref p=>
  subst rx;have e':(∃xs,Eh X.K H p xs/\k=! dc!)\/(∃xs,Ex X.K H p xs/\k=! dc!)\/∃h1,H p=some dc_/\k=! ld_:=e;obtain⟨xs,hx,e'⟩|⟨xs,hx,e'⟩|⟨h1,hx,e'⟩:=e'
  .subst e';obtain⟨its,r,pl,hz⟩:=I.list hx;have ay:=ay_;exact wpAny_truthy_list pl.isList hy! rJ!
  .subst e';obtain⟨its,r,pl,hz⟩:=I.tuple hx;have ay:=ay_;exact truthy_tuple pl hy! rJ!
  .subst e';obtain⟨hz,hS,vs,r,m⟩:ak!<=sizeLine/\(p==sysModules)=false/\∃vs,KV h1 vs/\s.heap.DictOf (mixKind X.prog X.w) p vs:=I.hok p _ hx;have ay:ak!=aR_:=OL r;exact wpAny_truthy_dict hS m a! ⟨H,aQ_,by rw[a4l r];exact q⟩
 |_=>exact(rJ_).elim
def b2g(ha:aR!)(he:∀d6,isTrue a X.env d6=(do let v <-d6;standAt a.pos;holding [v] kF_)):
  PT X a (λZ H Q=>ta Z H λx H'=>∃k,CV X.K x H' k/\Q k H'):=by
 show"!C";exact isTrue_plain (cZ c7_ λv s1 ⟨x,H1,I1,r1,q1⟩=>c2s J s1 Z H1 x v Q I1 r1 q1) (he _)
def a3k:Fc X eb! (λx y H Q=>∃i j,x=.str i/\y=.str j/\i.length+j.length<=sizeLine/\Q rK! H):=by intro J s Z H x y v u Q I rx ry h;obtain⟨i,j,rfl,rfl,hz,q⟩:=h;obtain⟨t,rfl⟩:=rx;obtain⟨t',rfl⟩:=ry;exact add_str (λt' tk=>⟨.str (i++j),H,aQ_,G!,q⟩) hz
def mL(r:Ar [x] us):∃u,us=[u]/\Be x u:=by
 cases r with
 |cons r1 r2=>cases r2;exact⟨_,rfl,r1⟩
def zR(r:Ar dd! us):∃u w',us=[u,w']/\Be x u/\Be y w':=by
 cases r with
 |cons r1 r2=>
  cases r2 with
  |cons r3 r4=>cases r4;exact⟨_,_,rfl,r1,r3⟩
def b7h:Hv X rK_ rL!:=by intro J s Z H xs us Q I r h;obtain⟨i,rfl,q⟩:=h;obtain⟨u,rfl,t,rfl⟩:=mL r;exact call_abs_int λu tk=>⟨.int hz!,H,aQ_,G!,q⟩
def b7e:Hv X rM! rN!:=by intro J s Z H xs us Q I r h;obtain⟨x,rfl,hz,q⟩:=h;obtain⟨u,rfl,t,rfl⟩:=mL r;exact ord_of_one hz hl_
def AU(K:zM!)(x:V)(H:Hp)(n:Nat):Prop:=
 match x with
 |.str y=>b0!<=sizeLine/\n=b0!
 |.byt y=>y.size<=sizeLine/\n=y.size
 |.ref p=>(∃xs,Eh K H p xs/\n=f_)\/∃xs,Ex K H p xs/\n=f_
 |_=>False
def bZ:Hv X rO_ (λxs H Q=>∃x n,xs=[x]/\AU X.K x H n/\Q hz_ H):=by
 intro J s Z H xs us Q I r h;obtain⟨x,n,rfl,e,q⟩:=h;obtain⟨u,rfl,rx⟩:=mL r;have hl:=oZ;have hs:sizeLine=16777216:=KA;cases x with
 |str y=>
  show"!@";obtain⟨hy,e'⟩:b0!<=sizeLine/\n=b0!:=e;subst e';exact len_str a! hl_
 |byt y=>
  show"!@";obtain⟨hy,e'⟩:y.size<=sizeLine/\n=y.size:=e;subst e';exact W.len_bytes a! hl_
 |ref p=>
  subst rx;have e':(∃xs,Eh X.K H p xs/\n=f_)\/∃xs,Ex X.K H p xs/\n=f_:=e;obtain⟨xs,hx,e'⟩|⟨xs,hx,e'⟩:=e'
  .subst e';obtain⟨its,r',pl,hz⟩:=I.list hx;have ay:=hA!;exact Calls.call_len_list pl.isList hy! rP!
  .subst e';obtain⟨its,r',pl,hz⟩:=I.tuple hx;have ay:=hA!;exact len_tuple pl hy! rP!
 |_=>exact(rJ_).elim
end
end L2
namespace L2
open PySem PySem.Spec PyProof.Rows
structure Tt(h:Heap)(x dx C:qT!)(mA:L_):Prop where
 obj:h.get? x=some ke_
 ns:h.Ns1 dx mA
 ne:dx≠x
def b0a{h:Heap}(n:h.Ns1 dx mA):∃od,h.get? dx=some od/\∀name,W.lookIn name od=some (mA name):=by
 obtain⟨o,es,ep,ho,hd,hk,_,hm⟩:=n;refine⟨o,ho,λname=>?_⟩;have e:=hm name;unfold nsFind findBy at e;rw[<-Array.find?_toList]at e;unfold W.lookIn;rw[hd];dsimp only;split
 .rename_i y q;rw[q]at e;exact congrArg some e
 .rename_i q;rw[q]at e;have a:es.toList.any (·.refKey)=false:=by
   rw[List.any_eq_false];intro y hy;obtain⟨z,t,VC⟩:=hk y (Array.mem_toList_iff.mp hy);simp[DictEntry.refKey,VC]
  have a':¬es.toList.any (·.refKey)=true:=by rw[a];exact JB
  rw[IF a'];exact congrArg some e
def Tt.look(I:Tt h x dx C mA):∃od,W.InstAt h x ke_ C (some od)/\∀name,W.lookIn name od=some (mA name):=
 let⟨od,ho,hl⟩:=b0a I.ns
 ⟨od,⟨I.obj,rfl,rfl,ho⟩,hl⟩
section
variable{prog:xc!}{w:wZ!}{A:wX!}{E:Value->Shared->Prop}{s:xR!}{K:zM!}{x dx C f:qT!}{mA:Str->Option Value}{name:Str}{v:wY!}
def c0o(X:hA_)(I:lg_)(hg:rR!)(hh:rR_)
  (ha:W.findIn K P! name=some none)(hv:mA name=some v)(VD:W.handedIn v=true)(h:Q v {s with toks:=s.toks+1}):
  wpAny l! A (getAttr fm! name expr) Q E s:=by
 show"#0";exact W.get_value X af (li!).1 (W.findObj_own hh ha rfl (by rw[hl,hv])) VD h
def b5n(X:hA_)(I:lg_)(hg:rR!)
  (hf:W.findIn K P! name=some dd_)(ht:W.isFn K W_=true)(hv:mA name=none)(h:Q (.ref f,[.ref x]) s):
  wpAny l! A (getMethod fm! name pl) Q E s:=by
 show"#0";exact W.method_fn X af (li!).1 (li!).2 hf (LP.mp ht) (by show(W.lookIn name od).map (·.isSome)=some false;rw[hl,hv];rfl) h
def b8j(X:hA_)(I:lg_)
  (hs:W.findIn K P! "__setattr__"=some rS!)(hp:W.plainOver K C=true)(ht:W.takerIn K C name=some none)(hh:rR_)
  (hw:PySem.Within mA ns)(bn:rS_)
  (h:∀h',Tt h' x dx C (λy=>if y=name then some v else mA y)->Heap.SameBut dx s.heap h'->Q () {s with heap:=h',toks:=s.toks+2}):
  wpAny l! A (setAttr fm! name v) Q E s:=by
 show"#0";refine W.set_plain X af hs (W.osa_open (s:=lk!) (r:=none) X af hp ht λb=>?_);obtain⟨cd,hc,jw⟩:=W.any_some hh;have hx:s.heap.get? x=some ⟨.ref C,some dx,.plain,#[]⟩:=I.obj;refine HP (HS (HP (HP (wpAny_loadPart hx (HP (W.Looks.here (s:=lk!) (W.looks_clsIn X hc) ?_))))));rw[jw];refine HS (a:=some dx) (HP (HS hB!));refine wpAny_nsSet1 (s:=lk!) I.ns λh' gw bu=>?_;obtain⟨oD,esD,epD,v4,v5,VE⟩:=gw.count (PySem.Within.cons name v hw);refine HP (wpAny_lookBehind v4 (by rw[v5];exact pastItsLine_dict (JG VE (by rw[IW];omega))) ?_);exact HS (h _ ⟨(bu.2 _ (JF I.ne)).trans I.obj,gw,I.ne⟩ bu)
def b4n(X:hA_)(hm:W.makesIn K C=true)
  (hi:W.findIn K P! "__init__"=some dd_)(hf:W.typeIn K W_=some (.type "function"))
  (h:codeAny l! (A.under (.builtin "type.__call__" ⟨.ref C::vs,kw⟩)) (.call W_ ⟨.ref T!::vs,kw⟩) (W.InitBack T! R)
   {s with heap:=(ef!).push hC_}):
  codeAny l! A (.call P! ⟨vs,kw⟩) R s:=by
 obtain⟨hh,g,d,t,os⟩:=s;exact W.make_core (W.makes_of X hm) (W.looks_findIn X hi) (λself=>W.bind_fn X self hf) X! h
end
def Iw(f:Str)(v:V):List cq_->List cq_
 |[]=>[(f,v)]
 |(g,x)::r=>if g=f then(g,v)::r else(g,x)::Iw f v r
def pU(f g:Str)(v:V):∀fs:List cq_,(hD_).lookup g=if g=f then some v else fs.lookup g
 |[]=>by
  show List.lookup g [(f,v)]=_;by_cases h:g=f
  .have hb:(g==f)=true:=LP.mpr h;simp only[List.lookup,hb,IB h]
  .have hb:(g==f)=false:=JY.mpr h;simp only[List.lookup,hb,IF h]
 |(k,x)::r=>by
  have ih:=pU f g v r;rw[ll_];by_cases hk:k=f
  .rw[b1_];by_cases h:g=k
   .have hb:(g==k)=true:=LP.mpr h;simp only[List.lookup,hb,IB (h.trans hk)]
   .have hb:(g==k)=false:=JY.mpr h;simp only[List.lookup,hb,IF (λe:g=f=>h (e.trans hk.symm))]
  .rw[cC_];by_cases h:g=k
   .have hb:(g==k)=true:=LP.mpr h;simp only[List.lookup,hb,IF (λe:g=f=>hk (h.symm.trans e))]
   .have hb:(g==k)=false:=JY.mpr h;simp only[List.lookup,hb];exact ih
def pA(f:Str)(v:V):∀fs:List cq_,f∈(hD_).map c_/\∀g,g∈fs.map c_->g∈(hD_).map c_
 |[]=>⟨by simp[Iw],λg h=>by simp at h⟩
 |(k,x)::r=>by
  obtain⟨i1,i2⟩:=pA f v r;rw[ll_];by_cases hk:k=f
  .rw[b1_];subst hk;exact⟨S!,λg h=>by simpa using h⟩
  .rw[cC_];refine⟨?_,λg h=>?_⟩
   .rw[IJ];exact HR _ i1
   .rw[IJ]at h ⊢;obtain e|e:=HW.mp h
    .exact HW.mpr (.inl e)
    .exact HR _ (i2 g e)
def pV(f:Str)(v:V):∀fs:List cq_,(hD_).length<=a2!+1
 |[]=>by simp[Iw]
 |(k,x)::r=>by
  have ih:=pV f v r;rw[ll_];by_cases hk:k=f
  .rw[b1_,IW,IW];omega
  .rw[cC_,IW,IW];omega
def Lp.some_of(r:Lp bX! o):∃u,o=some u/\Be v u:=by
 cases o with
 |none=>exact(hE!).elim
 |some u=>exact⟨u,rfl,r⟩
def Lp.none_of(r:Lp none o):o=none:=by
 cases o with
 |none=>rfl
 |some u=>exact(hE!).elim
def b0g(r:aQ!):W.handedIn u=true:=by
 cases v with
 |non=>cases (show u=c2_ from r);rfl
 |bl b=>cases (show u=Value.bool b from r);rfl
 |int i=>obtain⟨t,e⟩:=rY!;subst e;rfl
 |str x=>obtain⟨t,e⟩:=rY_;subst e;rfl
 |byt b=>obtain⟨t,e⟩:=(show∃t,u=Value.bytes b t from r);subst e;rfl
 |flt b=>obtain⟨t,e⟩:=(show∃t,u=Value.float b t from r);subst e;rfl
 |ref a=>cases (show u=Value.ref a from r);rfl
 |ty n=>cases (show u=Value.type n from r);rfl
section
variable{P:xc!}{w:wZ!}{H H':Hp}{h h':Heap}{a C dx:qT!}{fs fs':List (Str×V)}
def yP(hok:aP_)(e:hE_):∃mA,Tt h a dx C mA/\pv_/\PySem.Within mA kf_/\a2!<=1000/\H dx=some fl_:=by obtain⟨d,z,ne,ob,mA,n,r,q⟩:=(show Dg P w H h a eg! from hok a _ e);exact⟨mA,⟨ob,n,ne⟩,r,q,z,d⟩
end
structure Sf(K:zM!)(C:qT!):Prop where
 pg:W.plainGet K C Str.empty=true
 hd:W.hasDictIn K C=true
 po:W.plainOver K C=true
 sa:W.findIn K P! "__setattr__"=some rS!
def Sf.get{K:zM!}(c:Sf K C)(f:Str):W.plainGet K C f=true:=c.pg
def Cv(K:zM!)(C:qT!)(f:Str):Prop:=W.findIn K P! f=some none
def Cv.taker{K:zM!}(n:Cv K C f):W.takerIn K C f=some none:=by unfold W.takerIn;rw[show W.findIn K P! f=some none from n];rfl
structure Vk(K:zM!)(C:qT!)(m:Str)(f:qT!):Prop where
 at_:W.findIn K P! m=some dd_
 fn:W.isFn K W_=true
 kp:W.keepIn K W_=true
section
variable{X:Cx}{J:List (Addr×Obj)}{Z:St}{H:Hp}{s:xR!}{a C dx:qT!}{fs:List (Str×V)}{f:Str}{v:V}{A:wX!}{E:Value->Shared->Prop}
def a4n(I:b_)(e:hE_)(c:df!)(n:Cv X.K C f)(l:fs.lookup f=some v)
  (h:∀u s',Inv X J Z H s'->Be v u->Q u s'):wpAny d_ A (getAttr D_ f b) Q E s:=by
 obtain⟨mA,O,r,_,_,_⟩:=yP I.hok e;obtain⟨u,hu,ru⟩:=Lp.some_of (v:=v) (o:=mA f) (by rw[<-l];exact r f);exact c0o I.kIn O (c.get f) c.hd n hu (b0g ru) (h u _ eh_ ru)
def mE(I:b_)(e:hE_)(c:df!)(k:Vk X.K C m g)(l:fs.lookup m=none)
  (h:Q (.ref g,aS!) s):wpAny d_ A (getMethod D_ m pl) Q E s:=by
 obtain⟨mA,O,r,_,_,_⟩:=yP I.hok e;have hn:mA m=none:=Lp.none_of (by rw[<-l];exact r m);exact b5n I.kIn O (c.get m) k.at_ k.fn hn h
def a2y(I:b_)(e:hE_)(c:df!)(n:Cv X.K C f)(hl:a2!<1000)(ry:Be y u)
  (h:∀s',Inv X J Z (upd H a r2!) s'->Q () s'):wpAny d_ A (setAttr D_ f u) Q E s:=by
 obtain⟨mA,O,r,wi,_,ho⟩:=yP I.hok e;have hz:(kf_).length<=sizeLine:=by rw[IK,KA];omega
 refine b8j I.kIn O c.sa c.po n.taker c.hd wi hz λh' O' sb=>h _ ?_;have hd:∃o,h'.get? dx=some o:=by obtain⟨o,_,_,e',_⟩:=O'.ns;exact⟨o,e'⟩
 refine I.write (x:=a) (e:=dx) r2_ (.inr ho) (λb q hb z=>(sb.2 b hb).trans z) hd ?_;refine⟨by rw[aS O.ne];exact ho,?_,O.ne,O'.obj,_,O'.ns,λg=>?_,λg hg=>?_⟩
 .have:=pV f y fs;omega
 .show Lp ((Iw f y fs).lookup g) r4!;rw[pU];by_cases q:g=f
  .rw[IB q,IB q];exact ry
  .rw[IF q,IF q];exact r g
 .by_cases q:g=f
  .rw[q];exact(pA f y fs).1
  .refine(pA f y fs).2 g (wi g λz=>hg ?_);show r4!=none;rw[IF q];exact z
def Inv.made(I:b_):Inv X J Z (upd (upd H s.heap.objs.size (.own T!)) T! (.ins C s.heap.objs.size []))
  {s with heap:=(ef!).push hC_}:=by
 have e1:(ef!).get? i!=some hB_:=IL s.heap rfl;have e2:((ef!).push hC_).get? T!=some hC_:=by
  have:=IL ef! (o:=W.instObj C i!) rfl;rwa[NE]at this
 have e3:(ef!).Ns s.heap.objs.size lo!:=⟨hB_,#[],_,e1,rfl,(λe he=>absurd he c!),dh_⟩;have I1:=I.laid (a:=i!) (o:=.own T!) (h':=s.heap.push hB_) (t':=s.toks) r5_ p! ⟨_,e1⟩;refine I1.laid (a:=i!+1) (o:=.ins C s.heap.objs.size []) (t':=s.toks) r5_ (NO (NE _ _)) ?_;have ne:i!≠i!+1:=JH (PH _);refine⟨by rw[aS ne,bI],JJ _,ne,e2,λ_=>none,(Heap.Ns1.of_empty e3).at λo q=>HU _ q,λ_=>hF!,λy hy=>absurd rfl hy⟩
def c1n(hb:attributeBase e f env r6_=eval e env)
  (h:wpAny l! A r6_ (λo al=>wpAny l! A (getAttr o f true) Q E al) E s):wpAny l! A (eval r7_ env) Q E s:=
 Attribute_any_ h (by rw[arm_eval_Attribute,hb])
end
def ET(K:zM!)(ta:TE)(f:Str):TE:=λZ H Q=>ta Z H λx H1=>∃a C dx fs v,x=.ref a/\H1 a=some eg!/\Sf K C/\Cv K C f/\fs.lookup f=some v/\Q v H1
def EX(K:zM!)(ta tv:TE)(f:Str):TS:=λD Z H=>tv Z H λy H1=>ta Z H1 λx H2=>∃a C dx fs,x=.ref a/\H2 a=some eg!/\Sf K C/\Cv K C f/\a2!<1000/\
 D.nx Z (upd H2 a r2!)
section
variable{X:Cx}{o e value:Expr}{f:Str}{pos k8 tpos:Pos}{ta tv:TE}
def c3s(he:PE X e ta)(hb:attributeBase e f X.env d2!=eval e X.env):PE X r7_ (ET X.K ta f):=by intro J s Z H Q I h;refine c1n hb bY_;rintro u s1 ⟨x,H1,I1,rx,a,C,dx,fs,v,ex,ea,c,n,l,q⟩;subst ex;obtain rfl:u=Value.ref a:=rx;exact a4n I1 ea c n l λu' s2 I2 ru=>⟨v,H1,I2,ru,q⟩
def c3k(ha:lq!)(hv:PE X value tv)(hs:swapsWith value (some (.Attribute o f k8)) pos.line X.env=pure false):PS X (.Assign [.Attribute o f k8] value pos) (EX X.K ta tv f):=by intro J s Z H D I h;refine plainObj_wpAny_Assign_Attribute (cZ (hv J s Z H _ I h) λu s1 ⟨y,H1,I1,ry,q⟩=>cZ (ha J s1 Z H1 _ I1 q) ?_) hs;rintro ov s2 ⟨x,H2,I2,rx,a,C,dx,fs,ex,ea,c,n,l,q2⟩;subst ex;obtain rfl:ov=Value.ref a:=rx;exact a2y I2 ea c n l ry λs3 I3=>⟨Z,_,I3,q2⟩
def c2f(he:bY!)(I:b_)
  (h:te Z H λx H1=>∃a C dx fs g,x=.ref a/\H1 a=some eg!/\Sf X.K C/\Vk X.K C m g/\fs.lookup m=none/\
   ∀s1,Inv X J Z H1 s1->wpAny d_ X.A (callWith pos (.ref g) aS! r9_ di!) Q X.xe s1)
  (ht:eval sa_ X.env=(do
   let ov <-eval e X.env
   standAt ei_
   let(f,first) <-holding [ov] ej!
   callWith pos f first r9_ di!)):
  wpAny d_ X.A (eval sa_ X.env) Q X.xe s:=by
 refine W.methodCall_KW (pl:=pl) bY_ ht;rintro u s1 ⟨x,H1,I1,rx,a,C,dx,fs,g,ex,ea,c,k,l,q⟩;subst ex;obtain rfl:u=Value.ref a:=rx;exact mE I1 ea c k l (q s1 I1)
end
end L2
namespace L2
open PySem PySem.Spec PyProof.Rows
structure Ai(k:Nat)(A:wX!):Prop where
 hd:A.handled=none
 dp:A.depth+3*k+5<recursionLimit
 un:A.units+16*k+200<cLine
 gd:A.guards=some []
def Ai.mono(r:fH!)(h:j<=k):Ai j A:=⟨r.hd,by have:=r.dp;omega,by have:=r.un;omega,r.gd⟩
def Ai.deeper(r:Ai J_ A)(env:Env):Ai k (A.deeper env):=
 ⟨r.hd,by have:=r.dp;show A.depth+1+3*k+5<_;omega,by have:=r.un;show A.units+3+16*k+200<_;omega,r.gd⟩
def Ai.in1(r:Ai J_ A):Ai k A.in1:=
 ⟨r.hd,by have:=r.dp;show A.depth+3*k+5<_;omega,by have:=r.un;show A.units+1+16*k+200<_;omega,r.gd⟩
def a4g{A:wX!}:(hH!).depth=A.depth+1:=by first|rfl|simp[Around.under,Code.weight,Code.isCreation,Code.isGuard,Code.isCaller,Code.frames,Code.isFrame,guardIds]
def a4f{A:wX!}:(hH!).units=A.units+1:=by first|rfl|simp[Around.under,Code.cUnits,Code.frames,Code.isFrame]
def Ai.make(r:Ai J_ A)(C:qT!)(us:l_)(kw:hI!):Ai k hH!:=
 ⟨r.hd,by have:=r.dp;rw[a4g];omega,by have:=r.un;rw[a4f];omega,by first|exact r.gd|(simpa[Around.under,Code.guards,Code.isGuard,guardIds,pushGuards]using r.gd)⟩
def Ai.depth(r:fH!):A.depth<recursionLimit:=by have:=r.dp;omega
def Ai.units(r:fH!):A.units+64<cLine:=by have:=r.un;omega
def Ai.units0(r:fH!):A.units<cLine:=by have:=r.un;omega
def Zu:TA:=λ_ H Q=>Q [] H
def BS(ta:TE)(tr:TA):TA:=λZ H Q=>ta Z H λx H1=>tr Z H1 λxs H2=>Q ek_ H2
section
variable{X:Cx}{e:Expr}{es:List Expr}{te:TE}{t:TA}{pos:Pos}
def fK:PA X [] Zu:=λ_ _ _ _ H Q I h=>OM ⟨[],H,I,.nil,h⟩
def dB(ha:bY!)(hr:fH_)(hs:Y!:=by rfl):PA X aq! (BS te t):=by intro pos J s Z H Q I h;rw[hs];show wpAny _ _ (spliced (dj!::backTo pos kC_)) _ _ s;refine LY d4!;rintro u s1 ⟨x,H1,I1,r1,q1⟩;exact cZ (hr pos J s1 Z H1 _ I1 q1) λus s2 ⟨xs,H2,I2,r2,q2⟩=>⟨x::xs,H2,I2,.cons r1 r2,q2⟩
def EI(t:TA):TE:=λZ H Q=>t Z H λxs H1=>f_<=sizeLine/\∀p,H1 p=none->Q b3! (upd H1 p bd_)
def EQ(t:TA):TE:=λZ H Q=>t Z H λxs H1=>f_<=sizeLine/\∀p,H1 p=none->Q b3! (upd H1 p H!)
def b2t {x1}(h:fH_):PE X sf! (EI t):=by intro J s Z H Q I hq;refine wpAny_Tuple_spliced sf_;have hf:H1 x_=none:=I1.hok.fresh p!;refine⟨.ref x_,upd H1 s1.heap.objs.size bd_,sg!,rfl,q _ hf⟩;exact⟨z,us,r,⟨_,c9!,rfl,_,rfl⟩⟩
def oN(h:fH_):PE X hJ! (EQ t):=by intro J s Z H Q I hq;refine wpAny_List_spliced sf_;have hf:H1 x_=none:=I1.hok.fresh p!;refine⟨.ref x_,upd H1 s1.heap.objs.size H!,sg!,rfl,q _ hf⟩;exact⟨z,us,0,r,c9!⟩
end
abbrev Sp:=List V->Hp->VK->XK->Prop
abbrev Yu:=List Env->Hp->Shared->XK->Value->Shared->Prop
structure Os(P:xc!)(w:wZ!)(K:zM!)(mg:L_)(base:Heap)(A:wX!)(outer:af!)(s:xR!)(H:Hp):Prop where
 frames:A.frames=some outer
 mod:Mod K mg base
 bs:∀b o,base.get? b=some o->s.heap.get? b=some o/\H b=none
 bsz:base.objs.size<=i!
 funs:s.heap.FunFrames base outer
 frf:∀b∈frs outer,H b=none
 hok:Js P w H s.heap
 bare:AllBare s.gens
def CE(outer:af!)(P:xc!)(w:wZ!)(H:Hp)(s:xR!)(Q:VK)(u:wY!)(s':xR!):Prop:=
 ∃v H',s'.os=s.os/\AllBare s'.gens/\Un (frs outer) [] H H' s.heap s'.heap/\Js P w H' s'.heap/\Be v u/\Q v H'
def CR(CX:Yu)(outer:af!)(P:xc!)(w:wZ!)(H:Hp)(s:xR!)(Q:VK)(E:XK)(r:Result)(s':xR!):Prop:=
 match r with
 |.ok (.ret u)=>CE outer P w H s Q u s'
 |.ok _=>False
 |.error e=>CX outer H s E e s'
structure Eb(P:xc!)(w:wZ!)(K:zM!)(mg:L_)(base:Heap)(CX:Yu)(k:Nat)(f:qT!)(fd:FuncData)(ps:E_)(sp:Sp):Prop where
 len:∀vs H Q E,sp vs H Q E->aR_=P_
 run:∀(A:wX!) (outer:af!) (s:xR!) (H:Hp) (args:Args) (us:l_) (vs:r_) (Q:VK) (E:XK),Ai k A->Os P w K mg base A outer s H->BindsTo s fd args cE_->Ar vs us->sp vs H Q E->
  codeAny B_ A (.call W_ args) (CR CX outer P w H s Q E) s
def Eb.mono{K:zM!}(F:Eb P w K mg base CX j f fd ps sp)(h:j<=k):
  Eb P w K mg base CX k f fd ps sp:=⟨F.len,λA outer s H args us vs Q E hr=>F.run A outer s H args us vs Q E (hr.mono h)⟩
def Eb.imp{K:zM!}(F:Eb P w K mg base CX k f fd ps sp)
  (h:∀vs H Q E,VF vs H Q E->sp vs H Q E):Eb P w K mg base CX k f fd ps VF:=
 ⟨λvs H Q E q=>F.len vs H Q E (h _ _ _ _ q),λA outer s H args us vs Q E hr he hb hv hs=>F.run A outer s H args us vs Q E hr he hb hv (h _ _ _ _ hs)⟩
def Os.make{K:zM!}(e:lu!)(C:qT!)(us:l_)(kw:hI!):
  Os P w K mg base hH! outer s H:=⟨by first|exact lw!|(simpa[Around.under,Code.envs,Code.isFrame,pushEnvs]using lw!),e.mod,e.bs,e.bsz,e.funs,e.frf,e.hok,e.bare⟩
def Os.in1{K:zM!}(e:lu!):
  Os P w K mg base A.in1 outer s H:=⟨lw!,e.mod,e.bs,e.bsz,e.funs,e.frf,e.hok,e.bare⟩
section
variable{X:Cx}{J:List (Addr×Obj)}{Z:St}{H:Hp}{s s':xR!}
def Inv.env0(I:b_):Os X.prog X.w X.K X.mg X.base X.A X.stack s H:=
 ⟨I.ok.frames,I.ok.mod,I.bs,JG I.ok.bsz I.sz,I.stack,I.stkFree,I.hok,I.bare⟩
def Inv.after(I:b_)(h:CE X.stack X.prog X.w H s Q u s'):EP X J Z Q u s':=by obtain⟨v,H',os,bare,un,hok,r,q⟩:=h;obtain⟨hh,g,d,t,v6⟩:=s';obtain rfl:v6=s.os:=os;exact⟨v,H',I.call (h':=hh) (g':=g) (d':=d) (t':=t) (ch:=[]) un hok bare sk!,r,q⟩
end
def BU(sp:Sp)(b9:r_)(E:XK)(t:TA):TE:=λZ H Q=>t Z H λvs H1=>sp dk! H1 Q E
def Yy(C:qT!)(m:Str)(sp:Sp)(b9:r_)(E:XK)(ta:TE)(t:TA):TE:=λZ H Q=>ta Z H λx H1=>∃a dx fs,x=.ref a/\H1 a=some eg!/\fs.lookup m=none/\
 t Z H1 λvs H2=>sp (x::dk!) H2 Q E
def Yz(C:qT!)(sp:Sp)(b9:r_)(E:XK)(t:TA):TE:=λZ H Q=>t Z H λvs H1=>∀x dx,H1 x=none->H1 dx=none->dx≠x->
 sp sk_ lx! sl_ E
def Do(K:zM!)(fd:FuncData)(ps:E_)(ds:l_):Prop:=
 ∀(s:xR!) (us:l_),K.In s.heap->(em!).length=P_->BindsTo s fd cF_ (ps.zip em!)
def Do.all{K:zM!}(h:∀us:List Value,aj_=P_->bindArgs fd cF_=pure cE_):Do K fd ps []:=λs us _ hl=>by
 rw[JC]at hl ⊢;exact .of_eq (h us hl)
def Ih(CX:Yu)(X:Cx)(E:XK):Prop:=∀(J:u_) (Z:St) (H:Hp) (s:xR!) (e:wY!) (s':xR!),Inv X J Z H s->CX X.stack H s E e s'->X.xe e s'
section
variable{X:Cx}{CX:Yu}{k:Nat}{f C:qT!}{fd:FuncData}{ps:List Str}{sp:Sp}{b9:List V}{ds:List Value}{E:XK}{x m:Str}{p pos ax:Pos}{e o:Expr}{es:List Expr}{ta:TE}{t:TA}
def wK(F:dk_)(hr:aL!)(hb:dl!)(hd:dm!)(hx:dl_)
  (I:b_)(r:d1_)(h:sp dk! H Q E):wpAny d_ X.A sm_ aG! X.xe s:=by
 have r2:Ar dk! em!:=r.append hd;have hl:(em!).length=P_:=by rw[<-r2.length];exact F.len _ _ _ _ h
 refine wpAny_call (QN (F.run X.A X.stack s H cF_ em! dk! Q E hr I.env0 (hb s us I.kIn hl) r2 h) λr s' hq=>?_);cases r with
 |error e=>exact hx J Z H s e s' I hq
 |ok fl=>
  cases fl with
  |ret u=>exact I.after hq
  |next=>exact False.elim hq
  |brk=>exact False.elim hq
  |cont=>exact False.elim hq
def wR(F:dk_)(hr:aL!)(hg:G_)(hm:X.mg x=some W_)(hk:W.keepIn X.K W_=true)(hb:dl!)(hd:dm!)(hx:dl_)
  (ha:em_)(a8:y_:=by decide)(he:Y!:=by rfl)(a7:au!:=by rfl):
  PE X aT! (BU sp b9 E t):=by
 show"!C";refine LW lx_;refine W.callWith_K (h₀:=X.base) I.ok.mod.kin hk sn! he a7;exact wK F hr hb hd hx I1 r q
def a6i(he:lq!)(c:df!)(hm:qk!)(F:dk_)(hr:aL!)(hb:dl!)(hd:dm!)(hx:dl_)(ha:em_)
  (bc:Y!:=by rfl)(a7:au!:=by rfl)
  (ht:eval en! X.env=(do
   let ov <-eval o X.env
   standAt ei_
   let(f,first) <-holding [ov] ej!
   callWith pos f first lz! di!):=by rfl):
  PE X en! (Yy C m sp b9 E ta t):=by
 show"!C";show"!7";refine W.callWith_K (first:=aS!) (h₀:=X.base) I.ok.mod.kin hm.kp (cZ (ha pos J s1 Z H1 _ I1 q) λus s2 ⟨vs,H2,I2,r,q2⟩=>sp!) bc a7;exact wK (us:=.ref a::us) (vs:=.ref a::vs) F hr hb hd hx I2 (.cons rfl r) q2
def b2x(he:lq!)(c:df!)(hm:qk!)(F:dk_)(hr:aL!)(hb:dl!)(hd:dm!)(hx:dl_)
  (ht:eval hL_ X.env=(do
   let ov <-eval o X.env
   standAt ei_
   let(f,first) <-holding [ov] ej!
   callWith pos f first lA! di!):=by rfl):
  PE X hL_ (Yy C m sp b9 E ta Zu):=by
 show"!C";show"!7";exact W.callWith_K0 (first:=aS!) I1.kIn hm.kp (wK (us:=aS!) (vs:=aS!) F hr hb hd hx I1 qv_ q)
structure Mk(K:zM!)(C f:qT!):Prop where
 makes:W.makesIn K C=true
 init:W.findIn K P! "__init__"=some dd_
 fn:W.isFn K W_=true
 kp:W.keepIn K P!=true
def zZ(M:kH_)(F:dk_)(hr:fJ_)(hb:dl!)(hd:dm!)
  (hx:dl_)(I:b_)(r:d1_)
  (h:∀x dx,H x=none->H dx=none->dx≠x->sp sk_ (upd (upd H dx g2!) x lw_) sl_ E):
  wpAny d_ X.A (call P! us) aG! X.xe s:=by
 have hq:=h T! s.heap.objs.size sr! en_ (JH (PH _));have I2:=Inv.made (C:=C) I;have r2:Ar (V.ref T!::dk!) sr_:=.cons rfl (r.append hd);have hl:(Value.ref T!::us++ds).length=P_:=by
  have e:=r2.length;rw[F.len _ _ _ _ hq]at e;exact e.symm
 refine wpAny_call (b4n (f:=f) I.kIn M.makes M.init (LP.mp M.fn) (QN (F.run _ X.stack _ _ ⟨Value.ref T!::us,[]⟩ sr_ _ _ E (hr.make C us [])
  (I2.env0.make C us []) (hb _ (Value.ref T!::us) I2.kIn hl) r2 hq) λr s' bf=>?_))
 cases r with
 |error e=>exact hx J Z _ _ e s' I2 bf
 |ok fl=>
  cases fl with
  |ret u=>
   obtain⟨v,H',I3,rv,ev,q3⟩:=I2.after bf;subst ev;exact⟨rv,⟨V.ref T!,H',I3,rfl,q3⟩⟩
  |next=>exact False.elim bf
  |brk=>exact False.elim bf
  |cont=>exact False.elim bf
def b9f(M:kH_)(F:dk_)(hr:fJ_)(hg:G_)(hm:fL!)(hb:dl!)(hd:dm!)(hx:dl_)
  (ha:em_)(a8:y_:=by decide)(he:Y!:=by rfl)(a7:au!:=by rfl):
  PE X aT! (Yz C sp b9 E t):=by
 show"!C";refine LW lx_;refine W.callWith_K (h₀:=X.base) I.ok.mod.kin M.kp sn! he a7;exact zZ M F hr hb hd hx I1 r q
def b2y(M:kH_)(F:dk_)(hr:fJ_)(hg:G_)(hm:fL!)(hb:dl!)(hd:dm!)(hx:dl_)
  (a8:y_:=by decide):PE X st! (Yz C sp b9 E Zu):=by
 show"!C";refine LW lx_;exact W.callWith_K0 I.kIn M.kp (zZ (us:=[]) M F hr hb hd hx I .nil h)
end
structure Ei(N P:E_)(sc:Scope):Prop where
 kind:sc.kind=.function
 co:sc.isCoroutine=false
 gen:sc.isGenerator=false
 nd:N.Nodup
 pre:N.take P.length=P
 par:∀x∈P,sc.names.lookup x=some .local\/sc.names.lookup x=some .cell
 nofree:∀y∈sc.names,y.2≠.free
def wA{kindOf:hN_}:∀{binds:hI!} {m:L_},st_->bindL kindOf binds m x=m x
 |[],_,_=>rfl
 |(n,v)::r,m,h=>by
  unfold bindL;rw[wA λw hw=>h w (HR _ hw)];split
  .have:x≠n:=by rintro rfl;exact h v HV
   simp[this]
  .rfl
def wC{kindOf:hN_}:∀{binds:hI!} {m:L_},st_->bindC kindOf binds m x=m x
 |[],_,_=>rfl
 |(n,v)::r,m,h=>by
  unfold bindC;rw[wC λw hw=>h w (HR _ hw)];split
  .rfl
  .have:x≠n:=by rintro rfl;exact h v HV
   simp[this]
def wB{kindOf:hN_}:∀{P:E_} {vs:l_} {i:Nat} {m:L_},P.Nodup->P[i]?=some x->vs[i]?=some v->kindOf x=some .local->
  bindL kindOf (P.zip vs) m x=some v
 |[],_,_,_,_,h,_,_=>by simp at h
 |_::_,[],_,_,_,_,h,_=>by simp at h
 |p::P,w::vs,0,m,nd,Y,h2,hk=>by
  simp at Y h2;subst Y;subst h2;show bindL kindOf hO_ m p=_;unfold bindL;rw[wA λv hv=>(hP!).1 (SL hv).1,b1_];simp
 |p::P,w::vs,i+1,m,nd,Y,h2,hk=>by
  show bindL kindOf hO_ m x=_;unfold bindL;exact wB (i:=i) (hP!).2 sv! sv_ hk
def wD{kindOf:hN_}:∀{P:E_} {vs:l_} {i:Nat} {m:L_},P.Nodup->P[i]?=some x->vs[i]?=some v->kindOf x≠some .local->
  bindC kindOf (P.zip vs) m x=some v
 |[],_,_,_,_,h,_,_=>by simp at h
 |_::_,[],_,_,_,_,h,_=>by simp at h
 |p::P,w::vs,0,m,nd,Y,h2,hk=>by
  simp at Y h2;subst Y;subst h2;show bindC kindOf hO_ m p=_;unfold bindC;rw[wC λv hv=>(hP!).1 (SL hv).1,cC_];simp
 |p::P,w::vs,i+1,m,nd,Y,h2,hk=>by
  show bindC kindOf hO_ m x=_;unfold bindC;exact wD (i:=i) (hP!).2 sv! sv_ hk
def Ke(N:E_)(vs:r_):St:=vs.map some++List.replicate (hQ! - aR_) none
def Ig(CX:Yu)(P:xc!)(w:wZ!)(K:zM!)(mg:L_)(base:Heap)(N:E_)(qual:Str)(scope:Scope)(f:qT!)(cd:wY!)(A:wX!)(outer:af!)(s:xR!)(H:Hp)(E:XK):Cx where
 prog:=P
 w:=w
 K:=K
 mg:=mg
 base:=base
 A:=A.deeper fM!
 N:=N
 s₀:=s
 H₀:=H
 env:=envOfC qual scope s.heap.objs.size f cd
 outer:=outer
 stack:=envOfC qual scope s.heap.objs.size f cd::outer
 ex:=[]
 calm:=true
 fn:=λ_=>true
 pn:=[]
 xe:=λe s'=>wpAny B_ (A.deeper fM!) (leaving fM! e) (λ_ v7=>CX outer H s E e v7) (λe' v7=>CX outer H s E e' v7) s'
def a2h{sc:Scope}(h:sc.names.lookup x=some .cell):∃c,(cellsFrom n sc.names []).lookup x=some c:=by have q:=W.cellsFrom_some sc.names n [] kJ!;exact QH.mp q
def b0d{K:zM!}
  (S:sx_)(hd:bh!)(e0:lu!)(hl:aR_=P_)(r:d1_)
  (x:InCallC s s.heap.objs.size (bindL (fM!).kindOf cE_ λ_=>none) sy_ (bindC (fM!).kindOf cE_ λ_=>none) s1):
  Inv sz! [] fM_ H s1:=by
 have a7:P_<=hQ!:=by have:=congrArg List.length S.pre;rw[LH]at this;omega
 obtain⟨Y,tk,rfl,hk⟩:=x.done;have rg:∀b:Addr,b∉(sz!).ex:=λb z=>absurd sA! c!;refine⟨⟨e0.mod,S.kind,rfl,rfl,IH _,λy z c Y h2=>?_,sC_,λy c _ h=>?_,λ_=>hd,Around.frames_deeper e0.frames,.inr aH_,sD_,e0.bs,e0.bsz,λb _ _=>rg b,sD_,e0.funs,e0.frf⟩,
  rfl,e0.bare,Un.kept hk,⟨_,x.toInCall.ns,λi y v Y h2 h3=>?_⟩,λy c h=>⟨_,x.cell y c h⟩,e0.hok.fresh p!,λy c h=>?_,λp hp=>absurd (show p∈([]:List dZ!)from hp) c!,e0.hok.kept hk,?_⟩
 .exact name_of_addr x.apart (MB Y) (MB h2)
 .have hy:scope.names.lookup y=some .cell\/scope.names.lookup y=some .free:=hy;obtain hy|hy:=hy
  .exact a2h hy
  .exact absurd rfl (S.nofree _ (MB hy))
 .exact NN sF_
 .have hi:i<aR_:=by
   unfold Ke at h2;by_cases hi:i<aR_
   .exact hi
   .rw[ep!]at h2;rw[NH]at h2;split at h2<;>cases h2
  have ha:vs[i]?=some v:=by
   unfold Ke at h2;rw[hR!,JL]at h2;cases e:vs[i]? with
   |none=>rw[e]at h2;rcases h2
   |some a=>rw[e]at h2;cases h2;rfl
  obtain⟨u,hu,rv⟩:=r.get ha;have hp:ps[i]?=some y:=by
   rw[<-S.pre,OO a!];exact Y
  have ze:ps.Nodup:=by rw[<-S.pre];exact S.nd.sublist sG_
  refine⟨u,rv,?_⟩;obtain k|k:=S.par y (NB hp)
  .exact .inl ⟨k,wB ze hp hu k⟩
  .obtain⟨c,e⟩:=a2h (n:=i!+1) k;refine .inr ⟨.inl k,c,e,?_⟩;have q:=x.cell y c e;rw[wD ze hp hu (by show scope.names.lookup y≠_;rw[k];decide)]at q;exact q
 .exact e0.hok.fresh (NN sF_)
 .unfold Ke;show _=hQ!;rw[IR,IK,NR];omega
def c2k{K:zM!}{kV:wY!}
  (lk:K.lookup f=some ⟨oc,od,.func sI_,iq⟩)(bz:sK!)(S:sx_)
  (len:sK_)
  (o9:∀(A:wX!) (outer:af!) (s:xR!) (H:Hp) (vs:r_) (Q:VK) (E:XK),Ai k (A.deeper (envOfC qual scope s.heap.objs.size f ah))->sp vs H Q E->
   ∃t,Nf lE_ body t/\t {nx:=λ_ H'=>Q .non H',rt:=Q} fM_ H):
  Eb P w K mg base CX J_ f sI_ ps sp:=by
 refine⟨len,λA outer s H args us vs Q E hr e0 hb r jf=>?_⟩;have hl:=len _ _ _ _ jf;have KX:K.In s.heap:=e0.mod.kin.keeps λb o e=>(sL!).1;have bw:s.heap.NoLimit:=e0.mod.nolimit.keeps λb o e=>(sL!).1;have cj:∀y∈ps.zip us,scope.names.lookup y.1=some .local\/(scope.names.lookup y.1=some .cell/\((sy_).lookup y.1).isSome=true):=by
  rintro⟨n,v⟩ hy;obtain q|q:=S.par n (SL hy).1
  .exact .inl q
  .exact .inr ⟨q,W.cellsFrom_some _ _ _ (.inl q)⟩
 refine codeAny_call_function hr.depth (KX _ _ lk) rfl S.co S.gen rfl (W.codeRec_of KX bz) (hb _ _ _ _ ?_);refine wpAny_newFunctionEnv_cells S.kind cj λenv he s1 x=>?_;subst he;refine⟨bw.keeps x.toInCall.keep,codeAny_func ?_⟩;obtain⟨t,ht,hq⟩:=o9 A outer s H vs Q E (hr.deeper _) jf;have I:Inv lE_ [] fM_ H s1:=b0d S hr.hd e0 hl r x;refine LB (ht [] s1 fM_ H _ I hq) (λfl s' hs=>?_) λe s' hs=>hs;have fin:∀{ae:St} {H':Hp} {v:V} {u:wY!},Inv lE_ [] ae H' s'->Be v u->Q v H'->CE outer P w H s Q u s':=
  λ{ae H' v u} af rv q=>⟨v,H',af.os,af.bare,af.base,af.hok,rv,q⟩
 cases fl with
 |ret u=>
  obtain⟨v,ae,H',af,rv,q⟩:=hs;exact fin af rv q
 |next=>
  obtain⟨ae,H',af,q⟩:=hs;exact fin (v:=V.non) (u:=c2_) af rfl q
 |brk=>
  obtain⟨_,_,_,q⟩:=hs;exact False.elim q
 |cont=>
  obtain⟨_,_,_,q⟩:=hs;exact False.elim q
end L2
namespace L2
open PySem PySem.Spec PyProof.Rows
section
variable{X:Cx}{x:Str}{p pos:Pos}{e:Expr}{es:List Expr}{t:TA}{id T:String}{r:List V->Hp->VK->Prop}
def GH(r:fz_)(t:TA):TE:=λZ H Q=>t Z H λvs H1=>r vs H1 Q
def rE(hc:lG_)(hg:G_)(hm:cv_)(hv:lH!)(ha:em_)(hn:cw!:=by decide)(a8:y_:=by decide)
  (he:Y!:=by rfl)(a7:au!:=by rfl):PE X aT! (GH r t):=by
 show"!C";refine LW sN!;exact PyProof.Rows.callWith_builtin1 sN_ he a7
def a9e(hc:Hv X do_ r)(hg:G_)(hm:cv_)(hv:lI!)(ha:em_)(hn:cw!:=by decide)(a8:y_:=by decide)
  (he:Y!:=by rfl)(a7:au!:=by rfl):PE X aT! (GH r t):=by
 show"!C";refine LW sN!;exact KJ sN_ he a7
end
end L2
namespace HT
open PySem PyProof.Rows
nonrec def lexLt:List Int->List Int->Bool
 |[],[]=>false
 |[],_::_=>true
 |_::_,[]=>false
 |x::xs,y::ys=>if x=y then lexLt xs ys else decide (x<y)
def lexLt_cons(x y:Int)(xs ys:u!):lexLt ek_ (y::ys)=if x=y then lexLt xs ys else decide (x<y):=rfl
def lexLt_nil_nil:lexLt [] []=false:=rfl
def rY(y:Int)(ys:u!):lexLt [] (y::ys)=true:=rfl
def rZ(x:Int)(xs:u!):lexLt ek_ []=false:=rfl
def b6a(A:wX!)(s:xR!)(a:Int)(t:Tok)(c:Int)(u:Tok):∃e,SeqAt.EqAt A s fO! lJ! e/\(e=true↔a=c):=
 ⟨(a==c),SI a t c u,S!⟩
section
variable{prog:xc!}{w:wZ!}{A:wX!}{E:Value->Shared->Prop}{s:xR!}
def cat_tup(ht:IsTup s.heap t b6_)(hb:IsTup s.heap b ws.toArray)(hv:vs≠[])
  (Y:ws=[]->Q hT! s)(h2:ws≠[]->Q a4_ {s with heap:=s.heap.push {cls:=.type "tuple",data:=.seq (lK_).toArray}})
  (bn:aR_+lL!<=sizeLine):wpAny l! A (binaryOp .Add hT! dp!) Q E s:=by
 obtain⟨⟨cls,dd,data,sl⟩,ho,hc,n,hd⟩:=id ht;obtain⟨⟨zf,k9,data2,f7⟩,jg,ir,n2,jh⟩:=id hb;simp only at hc hd ir jh;subst hc hd ir jh;have e:b6_++ws.toArray=(lK_).toArray:=by simp
 by_cases hw:ws=[]
 .exact concat_meets hU! hU_ noFill_tuple_add seq_tuple_add QQ QM lo_
   (tuple_addW1 t b vs.toArray ws.toArray n n2 dd k9 sl f7 hV_ (by simp[hw])) ⟨ho,jg,Y hw⟩
 .refine concat_meets hU! hU_ noFill_tuple_add seq_tuple_add QQ QM lo_
   (tuple_addW2 t b vs.toArray ws.toArray n n2 dd k9 sl f7 hV_ sR! (by rw[HZ,HZ];exact bn)) ⟨ho,jg,?_⟩
  rw[e];exact h2 hw
nonrec def sIx(n d:Nat):Option Int->Nat
 |none=>d
 |some v=>if v<0 then(lL_).toNat else min v.toNat n
def sIx_none(n d:Nat):sIx n d none=d:=rfl
def sIx_nat(n d k:Nat):sIx n d (some (k:Int))=min k n:=by show(if(k:Int)<0 then((k:Int)+(n:Int)).toNat else min (k:Int).toNat n)=min k n;rw[dq!,NZ]
def c3c(n d:Nat)(hd:d<=n)(o:an_):sIx n d o<=n:=by
 cases o with
 |none=>exact hd
 |some v=>
  show sR_<=n;by_cases hv:v<0
  .rw[IB hv];omega
  .rw[IF hv];exact Nat.min_le_right _ _
def a8f(v:Int)(n d:Nat):sS!=((sIx n d bX!:Nat):Int):=by
 show sS!=((sR_:Nat):Int);by_cases hv:v<0
 .simp only[IB hv];omega
 .simp only[IF hv];omega
def a5e(lo hi:an_)(n:Nat):Builtin.Slice.sliceAdjust lo hi 1 (n:Int)=(hW_,sT_):=by
 have Y:¬((1:Int)<0):=by omega
 unfold Builtin.Slice.sliceAdjust;dsimp only[Y,_root_.if_false];refine Prod.ext ?_ ?_
 .cases lo with
  |none=>rfl
  |some v=>exact a8f v n 0
 .cases hi with
  |none=>rfl
  |some v=>exact a8f v n n
def a3h(i j:Nat):Builtin.Slice.slicePlaces (i:Int) (j:Int) 1=j - i:=by
 unfold Builtin.Slice.slicePlaces;have Y:(1:Int)>0:=by omega
 simp only[Y,KZ,Int.ediv_one];split<;>omega
def qV(p:IsPart v o)(h:Q o s):wpAny l! A (Builtin.Slice.slicePartIndex v) Q E s:=by
 cases p with
 |none=>exact slicePart_none h
 |int i t=>exact slicePart_int h
def oG{lo hi:an_}{Q:Int×Int×Nat->Shared->Prop}(hs:sU_)(pl:sV_)(pu:sW!)
  (h:Q (hW_,1,sIx n n hi - sIx n 0 lo) s):wpAny l! A (Builtin.Slice.sliceApplied hX_ (pure (n:Int))) Q E s:=by
 obtain⟨os,jx,zg,uy⟩:=id hs;unfold Builtin.Slice.sliceApplied Builtin.Slice.sliceFields;refine HP (HP (JX jx uy (x:=vl) rfl (HP (JX jx uy (x:=vu) rfl (HP (JX jx uy (x:=cG_) rfl Q!))))));refine HP (slicePart_none ?_);show wpAny _ _ (if((1:Int)==0)=true then _ else _) _ _ s;rw[IF a_];refine HP (qV pl (HP (qV pu (HP Q!))));show wpAny _ _ (match Builtin.Slice.sliceAdjust lo hi 1 (n:Int)with|(lo,hi)=>pure (lo,(1:Int),Builtin.Slice.slicePlaces lo hi 1)) _ _ s;rw[a5e lo hi n];show wpAny _ _ (pure (hW_,(1:Int),Builtin.Slice.slicePlaces hW_ sT_ 1)) _ _ s;rw[a3h];exact HS h
def b2q(xs:bD!)(i k:Nat):((List.range k).filterMap λ(m:Nat)=>xs[(lO!).toNat]?).toArray=((xs.toList.drop i).take k).toArray:=by
 have e:(λ(m:Nat)=>xs[(lO!).toNat]?)=λm=>xs[i+m]?:=by
  funext m;have:(lO!).toNat=i+m:=by omega
  rw[this]
 rw[e];have:=pick_run xs i k;rw[List.filterMap_map]at this;have e2:((λx=>xs[x]?)∘λx=>i+x)=λm=>xs[i+m]?:=rfl;rw[e2]at this;rw[this]
def getItem_tuple_cut{lo hi:an_}(ht:IsTup s.heap t ak)(hs:sU_)(pl:sV_)(pu:sW!)
  (hw:¬(sIx ak.size 0 lo=0/\sIx ak.size ak.size hi=ak.size))
  (h:Q a4_ {s with heap:=s.heap.push {cls:=.type "tuple",data:=.seq (lO_).toArray}})
  (bn:ak.size<=sizeLine):wpAny l! A (getItem hT! hX_) Q E s:=by
 have uz:sizeOk (.seq (lO_).toArray):=by
  show(lO_).toArray.size<=sizeLine;rw[HZ,LH,OI,LA];exact JG (Nat.min_le_right _ _) (JG (Nat.sub_le _ _) bn)
 have hj:sIx ak.size ak.size hi<=ak.size:=c3c _ _ p! hi;obtain⟨os,jx,zg,uy⟩:=id hs;have VG:s.TypeIs hX_ "slice":=⟨os,jx,zg⟩;unfold getItem
 try with_reducible refine JS ?_
 first|refine HP Q!|skip
 refine HP (wpAny_sequenceKey ht.typeIs a_ ?_);refine HP (JV (name:=Str.ofString "__getitem__") ht.typeIs OZ
  (JR OZ ht.typeIs entry_tuple_getitem ?_ (args_tuple_getitem _ _)))
 show wpAny _ _ (Builtin.Tuple.tupleItemsOf hT!>>=_) _ _ s;refine HP (tupleItemsOf_ ht ?_);refine HP (RG VG ?_);rw[IB a_];refine HP (oG hs pl pu ?_);have VH:¬(s4_=true):=by
  intro q;rw[JD,JD]at q;have q1:s4!=0:=eq_of_beq q.1.1;have q2:sIx ak.size ak.size hi - sIx ak.size 0 lo=ak.size:=eq_of_beq q.2;exact hw ⟨p_,p_⟩
 show wpAny _ _ (if s4_=true then _ else _) _ _ s;rw[IF VH,b2q]
 first
  |exact HP (m:=hZ!) (KS hZ_ uz)
  |exact HP (m:=hZ!) (KS (HP (HS hZ_)) uz)
  |exact HP (HP (m:=hZ!) (KS (HS hZ_) uz))
  |exact HP (HP (m:=hZ!) (KS hZ_ uz))
end
end HT
namespace L2
open PySem PySem.Spec PyProof.Rows
abbrev TO:=St->Hp->(Option Int->Hp->Prop)->Prop
def PO(X:Cx)(e:Option Expr)(t:TO):Prop:=
 ∀(J:u_) (s:xR!) (Z:St) (H:Hp) (Q:s5!),Inv X J Z H s->t Z H Q->
  wpAny d_ X.A (evalPart e X.env) (λu s'=>∃o H',Inv X J Z H' s'/\IsPart u o/\Q o H') X.xe s
def Xr:TO:=λ_ H Q=>Q none H
def BO(t:TE):TO:=λZ H Q=>t Z H λx H1=>∃i,x=.int i/\Q h0! H1
def sP:∀{us:l_},Ar bL_ us->IntsAre us ns:=by
 induction ns with
 |nil=>intro us r;rw[ON]at r;cases r;exact .nil
 |cons n ns ih=>
  intro us r;rw[IJ]at r;cases r with
  |cons r1 r2=>
   obtain⟨t,e⟩:=r1;subst e;exact .cons n t (ih r2)
section
variable{X:Cx}{e:Expr}{te:TE}{lo hi:Option Expr}{tl th:TO}{pos p2:Pos}
def b8z:PO X none Xr:=by intro J s Z H Q I h;rw[evalPart_none];exact HS ⟨none,H,I,cG_,h⟩
def b8y(h:bY!):PO X kN! (BO te):=by intro J s Z H Q I hw;rw[evalPart_some];refine cZ qt_ ?_;rintro u s1 ⟨x,H1,I1,r1,q1⟩;obtain⟨i,rfl,q⟩:=q1;obtain⟨t,rfl⟩:=r1;exact⟨aU!,H1,I1,.int i t,q⟩
def Zm(X:Cx)(r:s5_):Prop:=
 ∀(J:u_) (s:xR!) (Z:St) (H:Hp) (x:V) (v vl vu:wY!) (lo hi:an_) (sl:qT!) (Q:VK),Inv X J Z H s->Be x v->s.heap.IsSliceOf sl vl vu .none->IsPart vl lo->IsPart vu hi->r x lo hi H Q->
  ∃T id,typeLookup do_ "__getitem__"=pure (some eq!)/\s.TypeIs v T/\wpAny d_ X.A (getItem v hX_) aG! X.xe s
def Zm.or(h:Zm X r)(h':Zm X r'):Zm X (λx lo hi H Q=>r x lo hi H Q\/r' x lo hi H Q):=by
 intro J s Z H x v vl vu lo hi sl Q I rx hs pl pu q;obtain q|q:=q
 .exact h J s Z H x v vl vu lo hi sl Q I rx hs pl pu q
 .exact h' J s Z H x v vl vu lo hi sl Q I rx hs pl pu q
def GG(r:s5_)(te:TE)(tl th:TO):TE:=λZ H Q=>te Z H λx H1=>tl Z H1 λl H2=>th Z H2 λu H3=>r x l u H3 Q
def b2v(hr:Zm X r)(he:bY!)(hl:PO X lo tl)(hu:PO X hi th):PE X (.Subscript e lR! pos) (GG r te tl th):=by intro J s Z H Q I h;refine Subscript_ bY_;rintro v s1 ⟨x,H1,I1,r1,q1⟩;refine wpAny_Slice s7_;rintro vu s3 ⟨u,H3,I3,pu,q3⟩;rw[evalPart_none];refine HS ?_;have I4:Inv X J Z H3 {s3 with heap:=s3.heap.push {cls:=.type "slice",data:=.fields #[vl,vu,.none]}}:=I3.kept (t':=s3.toks) λb ob q=>HU _ q;obtain⟨T,id,hT,ht,hg⟩:=hr J {s3 with heap:=s3.heap.push {cls:=.type "slice",data:=.fields #[vl,vu,.none]}} Z H3 x v vl vu l u s3.heap.objs.size Q I4 r1 (Heap.IsSliceOf.new ..) pl pu q3;show wpAny d_ X.A (subscriptTail e lR! v (.ref s8!)) aG! X.xe {s3 with heap:=s3.heap.push {cls:=.type "slice",data:=.fields #[vl,vu,.none]}};exact tail_any (ops:=[.ref s8!,v]) ht hT hg lR_
def Rx(xs:r_)(lo hi:an_):List V:=(ta!).take lS!
def pZ(xs:r_)(lo hi:an_):(fR_).length<=f_:=by unfold Rx;rw[LH,OI];omega
def EZ(K:zM!):V->Option Int->Option Int->Hp->VK->Prop:=λx lo hi H Q=>∃a xs,x=.ref a/\Ex K H a xs/\
 ¬(HT.sIx xs.length 0 lo=0/\HT.sIx xs.length xs.length hi=f_)/\∀p,H p=none->Q b3! (upd H p (.tup fR_))
def c2w:Zm X (EZ X.K):=by
 intro J s Z H x v vl vu lo hi sl Q I rx hs pl pu h;obtain⟨a,xs,rfl,hx,hw,q⟩:=h;subst rx;obtain⟨its,r,ht,hz⟩:=I.tuple hx;have ay:bi!=f_:=by rw[HZ];exact r.length.symm
 refine⟨"tuple",_,OZ.lookup,ht.typeIs,?_⟩;refine HT.getItem_tuple_cut ht hs pl pu (by rw[ay];exact hw) ?_ (by rw[ay];exact hz);rw[ay];refine⟨cH!,_,I.laid (t':=s.toks) (o:=.tup fR_) lT_ p! ?_,rfl,q _ en_⟩;exact⟨tb_,_,tc_,td!⟩
def Ze(K:zM!):R2:=λx y H Q=>∃a b xs ys,x=.ref a/\y=.ref b/\Ex K H a xs/\Ex K H b ys/\xs≠[]/\f_+ad_<=sizeLine/\
 (ys=[]->Q D_ H)/\(ys≠[]->∀p,H p=none->Q b3! (upd H p (.tup dY_)))
def Ar.nil_iff(r:dY!):us=[]↔xs=[]:=by
 cases r with
 |nil=>simp
 |cons _ _=>simp
def b9l:Fc X eb! (Ze X.K):=by intro J s Z H x y v u Q I rx ry h;obtain⟨a,b,xs,ys,rfl,rfl,ha,hb,hx,hz,q1,q2⟩:=h;subst rx;subst ry;obtain⟨its,r1,p1,_⟩:=I.tuple ha;obtain⟨gc,r2,p2,_⟩:=I.tuple hb;refine HT.cat_tup p1 p2 (λz=>hx (r1.nil_iff.mp z)) (λz=>⟨dg!,H,I,rfl,q1 (r2.nil_iff.mp z)⟩) (λz=>?_) (by rw[<-r1.length,<-r2.length];exact hz);refine⟨cH!,_,I.laid (t':=s.toks) (o:=.tup dY_) lT_ p! ?_,rfl,q2 (λw=>z (r2.nil_iff.mpr w)) _ en_⟩;exact⟨by rw[IR];exact hz,_,r1.append r2,td!⟩
end
end L2
namespace L2
open PySem PySem.Spec PyProof.Rows
def Kb(n:Nat)(i:Int):Option Nat:=if 0<=i then(if i<n then some i.toNat else none)else if -(n:Int)<=i then some (i+n).toNat else none
def Fj(xs:R_)(i:Int):Option α:=(Kb xs.length i).bind λj=>xs[j]?
def a7l(h:Kb n i=some j):seqIndex? i n=some j/\j<n/\-(n:Int)<=i/\i<n:=by
 unfold Kb at h;by_cases h0:0<=i
 .rw[IB h0]at h;by_cases Y:i<n
  .rw[IB Y]at h;have e:i.toNat=j:=JO h;exact⟨by rw[seqIndex_of h0 Y,e],p_,p_,Y⟩
  .rw[IF Y]at h;rcases h
 .rw[IF h0]at h;by_cases Y:-(n:Int)<=i
  .rw[IB Y]at h;have e:(i+n).toNat=j:=JO h;exact⟨by rw[seqIndex_neg a! Y,e],p_,Y,p_⟩
  .rw[IF Y]at h;rcases h
def zK(h:Fj xs i=some v):∃j,seqIndex? i f_=some j/\xs[j]?=some v/\j<f_/\-(f_:Int)<=i/\i<f_:=by
 unfold Fj at h;cases e:Kb xs.length i with
 |none=>rw[e]at h;rcases h
 |some j=>
  rw[e]at h;obtain⟨Y,h2,h3,h4⟩:=a7l e;exact⟨j,Y,h,h2,h3,h4⟩
def Nk(b:Expr):Prop:=∀o i,subscripted b false o i=operate [o,i] tg!
def Vm(X:Cx)(r:R2):Prop:=
 ∀(value slice:Expr) (J:u_) (s:xR!) (Z:St) (H:Hp) (x y:V) (v u:wY!) (Q:VK),Inv X J Z H s->Be x v->Be y u->r x y H Q->
  subscripted slice false v u=operate [v,u] (getItem v u)->wpAny d_ X.A (subscriptTail value slice v u) aG! X.xe s
def GT(X:Cx)(id:String)(r:lV!):Prop:=
 ∀(J:u_) (s:xR!) (Z:St) (H:Hp) (x:V) (xs:r_) (v:wY!) (us:l_) (Q:VK),Inv X J Z H s->Be x v->Ar xs us->r x xs H Q->
  wpAny d_ X.A tg_ aG! X.xe s
section
variable{X:Cx}{a b:Expr}{ta tb:TE}{pos:Pos}
def Vm.or(h:Vm X r)(h':Vm X r'):Vm X rD_:=by
 intro value slice J s Z H x y v u Q I rx ry q hs;obtain q|q:=q
 .exact h value slice J s Z H x y v u Q I rx ry q hs
 .exact h' value slice J s Z H x y v u Q I rx ry q hs
def b2z(hr:Vm X r)(ha:aR!)(hb:cx!)(hs:Nk b):PE X lW! hu!:=by intro J s Z H Q I h;exact Subscript_ (c6b ha hb I h λv u s2 x y H2 I2 rx ry q=>hr a b J s2 Z H2 x y v u Q I2 rx ry q (hs _ _))
def CB(K:zM!):R2:=λx y H Q=>∃p xs i v,x=.ref p/\y=.int i/\Eh K H p xs/\Fj xs i=some v/\Q v H
def BZ(K:zM!):R2:=λx y H Q=>∃p xs i v,x=.ref p/\y=.int i/\Ex K H p xs/\Fj xs i=some v/\Q v H
def CA:R2:=λx y H Q=>∃z i c,x=.str z/\y=.int i/\aw!<=sizeLine/\Fj z.cps.toList i=some c/\Q es! H
def a7j:Vm X (CB X.K):=by
 intro value slice J s Z H x y v u Q I rx ry h hs;obtain⟨p,xs,i,z,rfl,rfl,hq,he,q⟩:=h;subst rx;obtain⟨t,rfl⟩:=ry;show"!p";obtain⟨j,Y,h2,h3,h4,h5⟩:=zK he;obtain⟨w,ew,az⟩:=r.get h2;have hl:=ay_;have hn:=oZ;have fin:EP X J Z Q w s:=tj!;by_cases h0:0<=i
 .have hj:i.toNat=j:=by
   rw[seqIndex_of h0 h5]at Y;exact JO Y
  exact item_listR pl.isList h0 a! tj_ fin hs
 .have hj:(i+(bi!:Int)).toNat=j:=by
   rw[seqIndex_neg a! h4]at Y;rw[HZ,<-hl];exact JO Y
  exact subscriptTail_builtinR (x:=w) pl.isList.typeIs tl_
   (wpAny_getItem_list_neg (Q:=tl!) pl.isList a! tm! a! tj_ tm_) hs
def c4v:Vm X (BZ X.K):=by
 intro value slice J s Z H x y v u Q I rx ry h hs;obtain⟨p,xs,i,z,rfl,rfl,hq,he,q⟩:=h;subst rx;obtain⟨t,rfl⟩:=ry;obtain⟨its,r,pl,hz⟩:=I.tuple hq;obtain⟨j,Y,h2,h3,h4,h5⟩:=zK he;obtain⟨w,ew,az⟩:=r.get h2;have hl:=ay_;have hn:=oZ;have fin:EP X J Z Q w s:=tj!;exact subscriptTail_builtinR (x:=w) pl.typeIs slot_tuple_getitem.lookup
  (getItem_tuple (j:=j) (Q:=tl!) pl a! a! (by rw[HZ,<-hl];exact Y) (by simpa using ew) tm_) hs
def c4w:Vm X CA:=by
 intro value slice J s Z H x y v u Q I rx ry h hs;obtain⟨z,i,c,rfl,rfl,hz,he,q⟩:=h;obtain⟨t,rfl⟩:=rx;obtain⟨t',rfl⟩:=ry;obtain⟨j,Y,h2,h3,h4,h5⟩:=zK he;have hl:lX!=aw!:=by simp[Str.length]
 rw[hl]at Y h4 h5;have hn:=oZ;exact tail_any (typeIs_str s z t) slot_str_getitem.lookup (getItem_str (c:=c) (by
  have e1:decide (i< -(2 ^ 63:Int))=false:=IG a!;have e2:decide (i>=2 ^ 63)=false:=IG a!;rw[e1,e2,Bool.or_false]) (by rw[Y];simpa using h2) ⟨ds_,H,aQ_,G!,q⟩) hs
def FD(K:zM!):R2:=λx y H Q=>CB K x y H Q\/BZ K x y H Q\/CA x y H Q
def aJ:Vm X (FD X.K):=a7j.or (c4v.or c4w)
def a4e(its:l_)(n j:Nat)(u:wY!):Obj.mapSeq tn_ {cls:=.type "list",data:=.seq its.toArray n}={cls:=.type "list",data:=.seq (its.set j u).toArray n}:=by simp[Obj.mapSeq]
def Inv.lst(I:b_)(h:H p=some H!):
  ∃(its:l_) (n:Nat),Ar xs its/\s.heap.get? p=some {cls:=.type "list",data:=.seq its.toArray n}/\f_<=sizeLine:=by
 obtain⟨z,its,n,r,e⟩:=I.hok p _ h;exact⟨its,n,r,e,z⟩
def Inv.lstUpd{its its':l_}(I:b_)(h:H p=some H!)
  (ho:s.heap.get? p=some {cls:=.type "list",data:=.seq its.toArray n})(hf:f {cls:=.type "list",data:=.seq its.toArray n}={cls:=.type "list",data:=.seq its'.toArray n'})(r:Ar ys its')(hz:h3_)(t:Nat):
  Inv X J Z (upd H p bi_) {s with heap:=s.heap.update p f,toks:=t}:=by
 have e:(s.heap.update p f).get? p=some {cls:=.type "list",data:=.seq its'.toArray n'}:=by
  rw[LF f ho (by rw[hf]<;>rfl),hf]
 refine I.write (x:=p) (e:=p) (by rw[h];trivial) X! (λb u hb q=>(tq!).trans q) a7_ ?_;exact⟨hz,its',n',r,e⟩
def BW:V->V->V->Hp->kO_->Prop:=λo i v H Q=>∃p xs k j,o=.ref p/\i=.int k/\H p=some H!/\Kb xs.length k=some j/\Q tq_
def b1m:Vg X BW:=by
 intro J s Z H o i v ov iv u Q I ro ri rv h;obtain⟨p,xs,k,j,rfl,rfl,hp,hj,q⟩:=h;subst ro;obtain⟨t,rfl⟩:=ri;obtain⟨its,n,r,ho,hz⟩:=I.lst hp;obtain⟨Y,h2,h3,h4⟩:=a7l hj;have hl:=ay_;have hn:=oZ;have I':Inv X J Z tq_ {s with heap:=s.heap.update p (Obj.mapSeq tn_)}:=
  I.lstUpd hp ho (a4e its n j u) (r.set rv j) (by rw[MD];exact hz) s.toks
 by_cases h0:0<=k
 .have hk:k.toNat=j:=by
   rw[seqIndex_of h0 h4]at Y;exact JO Y
  exact W.ki_setAt ho h0 a! (by rw[HZ,<-hl];exact h4) tr_
 .have hk:(k+(bi!:Int)).toNat=j:=by
   rw[seqIndex_neg a! h3]at Y;rw[HZ,<-hl];exact JO Y
  exact W.ki_setBack ho a! (by rw[HZ,<-hl];exact h3) a! tr_
def wI(lo hi:an_)(n:Nat):(lZ!).1=((HT.sIx n 0 lo:Nat):Int)/\(lZ!).2.1=((HT.sIx n n hi:Nat):Int)/\(lZ!).2.2=1:=by
 refine⟨?_,?_,rfl⟩
 .cases lo with
  |none=>simp[sliceBounds,HT.sIx]
  |some i=>
   show"!P"
   .simp only[h,KZ]<;>omega
   .simp only[h,KC]<;>omega
 .cases hi with
  |none=>simp[sliceBounds,HT.sIx]
  |some i=>
   show"!P"
   .simp only[h,KZ]<;>omega
   .simp only[h,KC]<;>omega
def tK(its:l_)(lo hi:an_):slicePick its.toArray lo hi none=((its.drop (HT.sIx its.length 0 lo)).take (HT.sIx its.length its.length hi - HT.sIx its.length 0 lo)).toArray:=by obtain⟨Y,h2,h3⟩:=wI lo hi bi!;unfold slicePick;rw[Y,h2,h3];simp only[sliceRange_one,pick_run,HZ]<;>rfl
def FB(K:zM!):V->Option Int->Option Int->Hp->VK->Prop:=λx lo hi H Q=>∃a xs,x=.ref a/\Eh K H a xs/\∀p,H p=none->Q b3! (upd H p (.lst fR_))
def b8g:Zm X (FB X.K):=by intro J s Z H x v vl vu lo hi sl Q I rx hs pl pu h;obtain⟨a,xs,rfl,hx,q⟩:=h;subst rx;obtain⟨its,r,ht,hz⟩:=I.list hx;have ay:=ay_;refine⟨"list",_,tl_,ht.isList.typeIs,?_⟩;refine wpAny_getItem_list_slice ht.isList hs pl pu .none c! ?_ tm!;rw[tK,<-ay];refine⟨cH!,_,I.laid (t':=s.toks) (o:=.lst fR_) lT_ p! ?_,rfl,q _ en_⟩;exact⟨tb_,_,0,tc_,c9!⟩
def zG:Hv X dt_ (λxs H Q=>∃p ys,xs=h5_/\(Eh X.K H p ys\/Ex X.K H p ys)/\∀l,H l=none->Q h6! h6_):=by
 intro J s Z H xs us Q I r h;obtain⟨p,ys,rfl,hq,q⟩:=h;obtain⟨u,rfl,rx⟩:=mL r;cases rx;have fin:∀(its:l_),Ar ys its->ad_<=sizeLine->∀(h':Heap) (c':Nat),(∀b o',s.heap.get? b=some o'->h'.get? b=some o')->
   h'.get? i!=some {cls:=.type "list",dict:=none,data:=.seq its.toArray c',slots:=#[]}->EP X J Z Q a4_ {s with heap:=h'}:=λits r' hz h' c' kp e=>
  ⟨cH!,_,I.laid (t':=s.toks) kp p! (show Dg X.prog X.w _ h' _ bi_ from⟨hz,its,c',r',e⟩),rfl,q _ en_⟩
 obtain hq|hq:=hq
 .obtain⟨its,r',pl,hz⟩:=I.list hq;have ay:=hA!;obtain⟨o,ho,hc,n,hd⟩:=pl.isList;exact call_list_seq p X! ho hc hd ts_ tt!
 .obtain⟨its,r',pl,hz⟩:=I.tuple hq;have ay:=hA!;obtain⟨o,ho,hc,n,hd⟩:=pl;exact call_list_seq p du! ho hc hd ts_ tt!
def FZ(K:zM!)(T:String)(x:V)(H:Hp):Prop:=match x with
 |.str _=>T="str"
 |.int _=>T="int"
 |.ref p=>(T="list"/\∃xs,Eh K H p xs)\/(T="tuple"/\∃o,K.lookup p=some o/\o.cls=.type "tuple"/\o.dict=none)\/
   (T="dict"/\((∃h1,H p=some dc_)\/∃h1,H p=some h7!))\/(T="set"/\∃S n,H p=some (.set S n))
 |_=>False
def c2q{J:u_}{Z:St}{H:Hp}{s:xR!}{T:String}{x:V}{v:wY!}(I:b_)(r:Be x v)(ty:FZ X.K T x H):
  s.TypeIs v T/\∀a,v=.ref a->∃ob,s.heap.get? a=some ob/\ob.dict=none:=by
 cases x with
 |str z=>
  obtain⟨t,rfl⟩:=r;cases (show T="str" from ty);exact⟨typeIs_str s z t,tt_⟩
 |int i=>
  obtain⟨t,rfl⟩:=r;cases (show T="int" from ty);exact⟨typeIs_int s i t,tt_⟩
 |ref p=>
  subst r;obtain⟨rfl,xs,hq⟩|⟨rfl,o,hk,hc,hd⟩|⟨rfl,hk⟩|⟨rfl,S,n,hk⟩:=ty
  .obtain⟨its,_,pl,_⟩:=I.list hq;refine⟨pl.isList.typeIs,λa e=>?_⟩;cases e;obtain⟨o,n,e,c,hd,_⟩:=pl;exact⟨o,e,hd⟩
  .refine⟨⟨o,I.kIn p o hk,hc⟩,λa e=>?_⟩;cases e;exact⟨o,I.kIn _ o hk,hd⟩
  .have z:∃o,s.heap.get? p=some o/\gY_:=by
    obtain⟨h1,hk⟩|⟨h1,hk⟩:=hk
    .show"!z"
    .show"!z"
   obtain⟨o,e,ex⟩:=z;refine tv!;cases e2;exact tv_
  .obtain⟨o,_,_,_,e,ex,_⟩:=I.hok p _ hk;refine tv!;cases e2;exact tv_
 |_=>exact False.elim ty
def HD(K:zM!)(T:String)(r:lV!)(to:TE)(t:TA):TE:=λZ H Q=>to Z H λx H1=>FZ K T x H1/\t Z H1 λxs H2=>r x xs H2 Q
variable{o e:Expr}{es:List Expr}{to:TE}{t:TA}{name:Str}{ax ai:Pos}{T id:String}{r:V->List V->Hp->VK->Prop}
def uQ(pa:PlainAttrs T)(slot:Slot T name id)(u0:typeOf eq!=pure (.type "method_descriptor"))(hm:GT X id r)(ho:PE X o to)(ha:em_)
  (gf:attributeBase o name X.env d7_=eval o X.env:=by rfl)
  (gg:((backTo ai sn_).all b8_&&(b9!).all b9_
   &&decide ((aq!).length+(du_).length+es_<30))=true:=by rfl)
  (gh:dv!:=by rfl) (hs:Y!:=by rfl) (gi:(tx!).any c_=false:=by rfl):
  PE X (.Call (.Attribute o name ax) aq! [] ai) (HD X.K T r to t):=by
 show"!C";refine wpAny_Call_method_late gf gg gh rfl qK_;rintro v s1 ⟨x,H1,I1,r1,ty,q1⟩;obtain⟨Y,h2⟩:=c2q I1 r1 ty;refine⟨T,id,pa,slot,u0,Y,h2,?_⟩;have hA:=ha ai J s1 Z H1 _ I1 q1;rw[hs]at hA ⊢;refine PJ (by show(false||(tx!).any c_)=false;rw[gi]<;>rfl) (OQ ?_);exact cZ hA λus s2 ⟨vs,H2,I2,r2,q2⟩=>hm J s2 Z H2 x vs v us Q I2 r1 r2 q2
end
end L2
namespace L2
open PySem PySem.Spec PyProof.Rows
def FS(X:Cx)(id:String)(r:lV!):Prop:=
 ∀(J:u_) (s:xR!) (Z:St) (H:Hp) (x:V) (xs:r_) (v:wY!) (us:l_) (Q:VK),Inv X J Z H s->Be x v->Ar xs us->r x xs H Q->
  wpAny d_ X.A tg_ aG! X.xe s
def Ar.one(h:Ar [x] us):∃u,us=[u]/\Be x u:=by
 cases h with
 |cons r t=>cases t;exact kc!
def Ar.rep{xs:r_}(h:dY!):∀k:Nat,Ar (tx_).flatten (List.replicate k us).flatten
 |0=>.nil
 |k+1=>by
  rw[MC,MC,NY,NY];exact Ar.append h (Ar.rep h k)
def vM(its:l_):∀(k:Nat) (σ:l_),
  List.foldl l2! σ.toArray (List.replicate k aO_)=(σ++(ty!).flatten).toArray
 |0,σ=>by simp
 |k+1,σ=>by
  have e:σ.toArray++aO_=(l2_).toArray:=by simp
  have e2:l2_++(ty!).flatten=σ++(List.replicate J_ its).flatten:=by
   rw[MC,NY,KH]
  rw[<-e2,<-vM its k l2_,<-e,MC,OV]
section
variable{X:Cx}{J:List (Addr×Obj)}{Z:St}{H:Hp}{s:xR!}{l b:qT!}{xs ys zs:List V}
def Inv.lset{its its':l_}{n:Nat}{f:ty_}{t':Nat}(I:b_)(hH:H l=some H!)
  (e:s.heap.get? l=some {cls:=.type "list",data:=.seq its.toArray n})(hf:f aO_=its'.toArray)(hv:Ar ys its')(hz:h3_):
  Inv X J Z h6_ {s with heap:=s.heap.update l tz!,toks:=t'}:=by
 have q:=PySem.IsL.update e f;rw[hf]at q;refine I.write (x:=l) (e:=l) (by rw[hH];exact trivial) X! (λb' u hb hu=>(JE s.heap tz! fS!).trans hu) ⟨_,q⟩ ?_;exact⟨hz,its',_,hv,q⟩
def Inv.lnew{its:l_}{t':Nat}(I:b_)(hv:Ar ys its)(hz:h3_):
  Inv X J Z (upd H s.heap.objs.size bi_) {s with heap:=s.heap.push {cls:=.type "list",data:=.seq aO_},toks:=t'}:=
 I.laid tB! p! ⟨hz,its,0,hv,c9!⟩
def Inv.fresh(I:b_):H i!=none:=I.hok.fresh p!
def Inv.lstM(I:b_)(hH:H l=some H!):f_<=sizeLine/\∃(its:l_) (n:Nat),Ar xs its/\f_=its.length/\s.heap.get? l=some {cls:=.type "list",data:=.seq its.toArray n}:=by obtain⟨z,its,n,r,e⟩:=I.hok l _ hH;exact⟨z,its,n,r,ay_,e⟩
def a0v{n:Nat}(h:l3!):Builtin.List.listTooLong n=false:=by unfold Builtin.List.listTooLong;exact IG a!
end
section
variable{X:Cx}
def Yc:V->List V->Hp->VK->Prop:=λx vs H Q=>∃l xs y,x=.ref l/\vs=[y]/\H l=some H!/\f_<sizeLine/\Q .non (upd H l (.lst (xs++[y])))
def oW:FS X "list.append" Yc:=by intro J s Z H x vs v us Q I rx rv h;obtain⟨l,xs,y,rfl,rfl,hH,hz,q⟩:=h;subst rx;obtain⟨u,rfl,ru⟩:=rv.one;obtain⟨z,its,n,r,hl,e⟩:=I.lstM hH;refine RM F.slot_list_append dv_ F.entry_list_append (F.args_list_append_2 _ _) (PySem.list_append l its.toArray n u tC_) h8!;refine⟨.non,_,I.lset (its':=its++[u]) hH e c! (r.append tD!) ?_,rfl,q⟩;rw[IR,LO];omega
def Yb:V->List V->Hp->VK->Prop:=λx vs H Q=>∃l b xs zs,x=.ref l/\vs=[.ref b]/\H l=some H!/\H b=some (.lst zs)/\f_+zs.length<=sizeLine/\Q .non (upd H l tF!)
def a9w:FS X "list.extend" Yb:=by
 intro J s Z H x vs v us Q I rx rv h;obtain⟨l,b,xs,zs,rfl,rfl,hH,hB,hz,q⟩:=h;subst rx;obtain⟨u,rfl,ru⟩:=rv.one;subst ru;obtain⟨z,its,n,r,hl,e⟩:=I.lstM hH;obtain⟨z2,gc,n2,r2,hl2,e2⟩:=I.lstM hB;have bn:bi!+tG!<=sizeLine:=by rw[HZ,HZ];omega
 have v8:¬(! le!&&Builtin.List.listTooLong (bi!+tG!))=true:=by
  rw[a0v bn,RB];exact JB
 refine RM F.slot_list_extend dv_ F.entry_list_extend (F.args_list_extend_2 _ _)
  (AutoSeq1.list_extend_list_list_0 l its.toArray n b gc.toArray n2 v8 tC_ a!) tH!
 refine⟨.non,_,I.lset (its':=its++gc) hH e c! tI! ?_,rfl,q⟩;rw[IR];omega
def FC:R2:=λx y H Q=>∃l k xs,x=.ref l/\y=.int k/\H l=some H!/\-(2 ^ 63)<=k/\k<2 ^ 63/\f_*k.toNat<=sizeLine/\
 ∀p,H p=none->Q b3! (upd H p (.lst (List.replicate k.toNat xs).flatten))
def c0d(xs:R_)(k:Nat):(tx_).flatten.length=k*f_:=by
 induction k with
 |zero=>simp
 |succ k ih=>rw[MC,NY,IR,ih,Nat.succ_mul,Nat.add_comm]
def b3h:Fc X rs! FC:=by
 intro J s Z H x y v u Q I rx ry h;obtain⟨l,k,xs,rfl,rfl,hH,Y,h2,hz,q⟩:=h;subst rx;obtain⟨t,rfl⟩:=ry;obtain⟨z,its,n,r,hl,e⟩:=I.lstM hH;have ay:bi!*k.toNat<=sizeLine:=by rw[HZ,<-hl];exact hz
 have VI:¬bi!*k.toNat>tJ_ / 8:=by
  have:(sizeLine:Nat)<=tJ_ / 8:=by decide
  omega
 have v9:¬(!Builtin.List.listFitsIndex k)=true:=by
  rw[fitsIndex_both Y h2];exact JB
 have v8:¬Builtin.List.listTooLong (bi!*k.toNat)=true:=by
  rw[a0v ay];exact JB
 have pb:List.foldl l2! #[] (List.replicate (if le!=true then 0 else k.toNat) aO_)=(List.replicate k.toNat its).flatten.toArray:=by
  have f0:∀m:Nat,List.foldl l2! #[] (List.replicate m aO_)=(List.replicate m its).flatten.toArray:=λm=>by
   have:=vM its m [];rw[LN]at this;exact this
  rw[f0];cases its with
  |nil=>simp
  |cons a r'=>rw[bj!]
 refine wpAny_binaryOp_repeat_ref (T:="list") (U:="int") a_ dv_ (λs'=>typeIs_int s' k t) noFill_list_mul F.fills_int_mul F.slot_int_rmul repeat_list F.slot_int_index.lookup
  (RM F.slot_int_rmul (typeIs_int s k t) F.entry_int_rmul (F.args_int_rmul_2 _ _) (int___rmul___int_list k t l its.toArray n)
   ⟨e,rfl,dv_,RM F.slot_list_mul dv_ F.entry_list_mul (F.args_list_mul_2 _ _) (AutoListH.list___mul___list_int_3 l its.toArray n k t v9 VI v8) h8!⟩)
 rw[pb];exact⟨.ref _,_,I.lnew (t':=s.toks) (r.rep k.toNat) (by rw[c0d,Nat.mul_comm];exact hz),rfl,q _ I.fresh⟩
end
end L2
namespace L2
open PySem PySem.Spec PyProof.Rows
section
variable{κ:Type} [DecidableEq κ]
def Kw(h1:List (κ×V))(k:κ):Option V:=(h1.find? λkv=>decide (kv.1=k)).map S_
def b0z{k:κ}(e:p.1=k):Kw (p::r) k=some p.2:=by simp[Kw,MH,e]
def b1a{k:κ}(e:¬p.1=k):Kw (p::r) k=Kw r k:=by simp[Kw,MH,e]
def Lp.isSome_eq(r:Lp o u):o.isSome=u.isSome:=by
 cases o with
 |none=>cases u with
  |none=>rfl
  |some _=>exact(hE!).elim
 |some _=>cases u with
  |none=>exact(hE!).elim
  |some _=>rfl
def KV.val(r:KV h1 vs)(k:κ):Lp (Kw h1 k) (valueAt vs k):=by
 unfold KV at r
 induction r with
 |nil=>exact hF!
 |@cons p q ps qs h t ih=>
  obtain⟨Y,h2⟩:=h;by_cases e:p.1=k
  .have e':q.1=k:=Y.symm.trans e;have b:valueAt (q::qs) k=some q.2:=by simp[valueAt,MH,e']
   rw[b0z e,b];exact h2
  .have e':¬q.1=k:=λz=>e (Y.trans z);have b:valueAt (q::qs) k=valueAt qs k:=by simp[valueAt,MH,e']
   rw[b1a e,b];exact ih
end
def b5b(r:Be (kV k) u):(a1_).is k u=true:=by
 cases k with
 |inl i=>obtain⟨t,e⟩:=rY!;subst e;exact a1b P w i t
 |inr x=>obtain⟨t,e⟩:=rY_;subst e;exact kC P w x t
def pC:∀{ks:List Key} {us:l_},Ar l4_ us->ItemsAre a1_ ks us
 |[],_,r=>by rw[ON]at r;cases r;exact .nil
 |k::ks,_,r=>by
  rw[IJ]at r;cases r with
  |cons h t=>exact .cons (b5b h) (pC t)
abbrev KT(H:Hp):List kd!->List ke!->Prop:=Paired λp q=>p.1=q.1/\H q.2.1=some pu_/\Be p.2 q.2.2
section
variable{P:xc!}{w:wZ!}{H:Hp}{h:Heap}{a:qT!}
def c6w(ok:aP_)(e:Rd H a u):Dg P w H h a u:=e.ok ok
def yL(ok:aP_)(e:H a=some (.tup l4_)):(fl!).is h ks a:=by obtain⟨_,its,r,o,Y,h2,n,h3⟩:=(show Dg P w H h a (.tup l4_)from ok a _ e);exact⟨o,aO_,n,Y,h2,h3,by simpa using pC r⟩
def c8h(ok:aP_)(e:Rd H a h7!):ak!<=sizeLine/\c3!=false/\
  ∃xs,KT H h1 xs/\h.DictOfH fl! a xs:=by
 obtain⟨z,y,xs,r,o,es,ep,Y,h2,h3,h4,h5⟩:=(show Dg P w H h a h7! from c6w ok e);refine⟨z,y,xs,r,o,es,ep,Y,h2,h3,h4,aC_,h5⟩;have all:∀{l:List kd!} {m:List ke!},KT H l m->∀x∈m,(fl!).is h x.1 x.2.1:=by
  intro l m q
  induction q with
  |nil=>intro x hx;exact nomatch hx
  |@cons p q ps qs hq t ih=>
   intro x hx;obtain e|hx:=HW.mp hx
   .subst e;exact yL ok (by rw[<-hq.1];exact hq.2.1)
   .exact ih x hx
 exact all r x hx
def sX(ok:aP_)(e:H a=some h7!):ak!<=sizeLine/\c3!=false/\
  ∃xs,KT H h1 xs/\h.DictOfH fl! a xs:=c8h ok (.inl e)
end
section
variable{X:Cx}{J:List (Addr×Obj)}{Z:St}{H:Hp}{s:xR!}{a:qT!}{y v:V}{u r:wY!}{o:Option V}{A:wX!}{E:Value->Shared->Prop}
def Inv.big(I:b_):sysModules<i!:=by have h:mainGlobals<i!:=(I.mod.glob.keeps I.bk).lt;exact RY a_ h
def d_write(I:b_)(mu:DC (H a))(hs:tM!)(he:∃q,h'.get? a=some q)(new:Dg X.prog X.w tN! h' a ob):
  Inv X J Z tN! {s with heap:=h',toks:=t'}:=
 I.write (x:=a) (e:=a) mu X! (λb q hb z=>(hs.2 b hb).trans z) he new
end
def DB(i:Expr):Prop:=∀ov iv,subscripted i false ov iv=operate [ov,iv] (getItem ov iv)
def b8c{T id:String}
  (hl:typeLookup do_ "__getitem__"=pure (some eq!))(hs:DB slice)
  (h:wpAny l! A (eval value env) (λo al=>wpAny l! A (eval slice env) (λi ao=>ao.TypeIs o T/\wpAny l! A tg! Q E ao) E al) E s):
  wpAny l! A (eval (.Subscript value slice pos) env) Q E s:=by
 refine Subscript_ (LB h (λo al h₁=>LB h₁ (λi ao ji=>?_) λ_ _ x=>x) λ_ _ x=>x);obtain⟨hT,ji⟩:=ji;unfold subscriptTail;refine HP ?_;rw[getitemInPython_of_ne hT.not_modules];refine HP (QB hT hl ?_);have fin:wpAny l! A (subscripted slice false o i) (λr c8=>wpAny l! A (letTemporaryGo value o r>>=λ_=>pure r) Q E c8) E ao:=by
  rw[hs o i];exact wpAny_operating (LB ji (λr c8 g6=>HP (wpAny_letTemporaryGo (HS g6))) λ_ _ x=>x)
 first
  |exact HS h9!
  |exact HP (HS h9!)
  |exact HP fin
structure M1(X:Cx)(o:Expr)(m:Str)(ax:Pos)(e:Expr)(ai:Pos):Prop where
 base:attributeBase o m X.env d7_=eval o X.env
 few:((h9_).all b8_&&(b9!).all b9_
  &&decide (([e]:List Expr).length+(du_).length+es_<30))=true
 line:l1_=true
 trees:backTo ai tP_=[dj!]
structure M2(X:Cx)(o:Expr)(m:Str)(ax:Pos)(e f:Expr)(ai:Pos):Prop where
 base:attributeBase o m X.env d7_=eval o X.env
 few:((backTo ai tQ_).all b8_&&(b9!).all b9_
  &&decide (([e,f]:List Expr).length+(du_).length+es_<30))=true
 line:l1_=true
 trees:backTo ai tQ_=[dj!,(false,eval f X.env)]
end L2
namespace Att
open PySem PySem.W PySem.Calls PyProof.Rows
def qE:∀(ns:u!) (vs:l_),WellAll P h vs tS!->IntsAre vs ns:=by
 intro ns
 induction ns with
 |nil=>
  intro vs w;rw[ON]at w;cases w;exact .nil
 |cons n ns ih=>
  intro vs w;rw[IJ]at w;cases w with
  |cons a b=>
   cases a;exact .cons _ _ (ih _ b)
def a8t{l:OpenLaw}(hn:ia!)
  (u4:l.row.toRowW.claim.pre args=true)(wb:WellAll P h wc args):
  ∃a vs ns,wc=[Value.ref a]/\args=[WData.list tS!]/\h.get? a=some {cls:=.type "list",data:=.seq b6_}/\IntsAre vs ns/\cC!<=n:=by
 have VJ:WShape.hasAll [] args [.list .int]=true:=(tT!).1;have hc:l.pre.holds [] {args:=args}=true:=(tT!).2;obtain⟨d,r,rfl,Y,h2⟩:=hasAllW_cons VJ;obtain rfl:=hasAllW_nil h2;obtain⟨xs,rfl,h3⟩:=hasW_list Y;obtain⟨ns,rfl⟩:=items_int h3;have ay:cC!<=n:=by
  unfold OpenLaw.pre at hc;have h4:(WTm.not (.lt (.lit (.int (n:Int))) (.len (.arg 0)))).holds [] {args:=[.list ia_]}=true:=by
   have h4:=(holds_andW hc).1;rw[hn]at h4;exact h4
  have h5:=condW_of h4 (w_not (w_lt w_lit (w_len_list (w_arg rfl))));rw[IK]at h5;refine Nat.le_of_not_lt λq=>?_;have q':(n:Int)<((cC!:Nat):Int):=by omega
  first
   |(rw[IN q']at h5;exact absurd h5 a_)
   |(simp at h5;omega)
 cases wb with
 |cons w1 w2=>
  cases w2;cases w1 with
  |list ho jy=>exact⟨_,_,ns,rfl,rfl,ho,qE ns _ jy,ay⟩
def a8z(l:OpenLaw)(args:List WData):l.row.toRowW.claim.post args eu! args=true:=
 postW_of (r:=l.row.toRowW) (X:=tY_)
  (show WShape.has [] eu! .bool=true by first|rfl|decide|simp[WShape.has,WShape.arms,WShape.armsAll])
  (show(WTm.eq .res (.lit eu!)).value [] {args:=args,res:=some eu!,after:=args}=some (.bool tY_)from w_eq_bool (w_res rfl) w_lit) rfl
def a2k{l:OpenLaw}
  (hn:ia!)(rh:l6!)
  (call:∀(w:wZ!) (s₀ al:xR!) (mg mb:L_) (fa:qT!) (o:Obj) (pm cd bv:wY!) (a:qT!) (vs:l_) (ns:u!),
   Ground q loose [] XP w s₀ mg mb al.heap->YP w al.heap->
   al.heap.get? fa=some o->o.data=.func (docDef d.name d.params d.body d.scope pm cd bv)->al.heap.CodeRec cd d.name->mg d.name=some eu_->
   al.heap.get? a=some {cls:=.type "list",data:=.seq b6_}->IntsAre vs ns->cC!<=n->al.gens=#[]->
   codeAny (model l.prog w) callerA l6_ l7_ al):
  WalkO q loose XP YP l.row.toRowW d [] l8!:=by
 intro w s₀ al mg mb G g7 fa o pm cd bv dV kV ho hd bz hD jz hg args wc as u4 hlay hrd wb hlo;obtain rfl:dV=.none:=Dflts.none hD rh;obtain rfl:kV=.none:=Dflts.noKw hD;obtain⟨a,vs,ns,rfl,rfl,we,hints,ay⟩:=a8t hn u4 wb;refine enter_call (QN (call w s₀ al mg mb fa o pm cd bv a vs ns G g7 ho (fd_plain hd) bz jz we hints ay hg) λr s' hq=>?_);obtain⟨rfl,h2,h3,h4⟩:=hq;exact⟨.inl ⟨l8_,l8_,[],rfl,dh_,l8_,a8z l _,λ_=>⟨ib!,λ_ hm=>(nomatch hm)⟩⟩,h2,h3,h4⟩
end Att
namespace L2
open PySem PySem.Spec PyProof.Rows
def a8l(h:t3!):Ar bL_ vs:=by
 induction h with
 |nil=>exact .nil
 |cons n t h ih=>exact .cons dw! ih
def Yr(H:Hp):Prop:=∀b,H b=none\/∃o xs,H b=some (.frz o H!)
def b4w{K:zM!}
  (KX:K.In al.heap)(cm:al.heap.Ns mainGlobals mg)(hb:al.heap.Ns builtinsNs mb)(VL:∀x:Str,x≠"__name__"->mb x=bootBuiltins x)(VM:al.heap.NoLimit)(hg:al.gens=#[])
  (ha:al.heap.get? a=some {cls:=.type "list",data:=.seq b6_})(hi:t3!)(hl:rS_)(hr:ma!)
  (F:∀base:Heap,K.In base->base.Ns mainGlobals mg->Eb P w K mg base CX k fa fd [x] sp)(VN:∀(s:xR!) (u:wY!),BindsTo s fd ic! [(x,u)])
  (jf:∀H:Hp,Yr H->Eh K H a bL_->sp aS! H ic_ λ_ _ _=>False)
  (rj:∀H e s',CX [] H al fU_ e s'->False):
  codeAny B_ callerA l6_ l7_ al:=by
 have rv:=a8l hi;have VO:=hi.length;have zh:∀H:Hp,Yr H->Eh K H a bL_->Js P w H al.heap->(∀b,H b≠none->b=a)->(H a≠none->K.lookup a=none)->
   codeAny B_ callerA l6_ l7_ al:=by
  intro H hO hS hok hA hK;have zi:∀{b:qT!} {o:Obj},al.heap.get? b=some o->H b=none->(fV!).get? b=some o:=λe n=>b5m e n;have rg:∀{b:qT!} {o:Obj} {es:id!} {ep:Nat},al.heap.get? b=some o->o.data=.dict es ep->H b=none:=λ{b o es ep} e d=>by
   cases q:H b with
   |none=>rfl
   |some u=>
    have e':b=a:=hA b ca_;subst e';rw[ha]at e;rcases e;have d':Data.seq vs.toArray _=Data.dict es ep:=d;cases d'
  have u5:∀{b:qT!} {m:L_},al.heap.Ns b m->(fV!).Ns b m:=λ{b m} ⟨o,es,ep,e,d,r⟩=>⟨o,es,ep,zi e (rg e d),d,r⟩;have zj:K.In fV!:=λb o e=>zi (KX b o e) (by
   cases q:H b with
   |none=>rfl
   |some u=>
    have e':b=a:=hA b ca_;subst e';rw[hK ca_]at e;rcases e)
  have hM:Mod K mg fV!:=⟨zj,u5 cm,⟨mb,u5 hb,VL⟩,by obtain⟨mc,Y,h2⟩:=VM;exact⟨mc,u5 Y,h2⟩⟩;have e0:Os P w K mg fV! callerA [] al H:=⟨rfl,hM,λb o e=>b9r e,NO (b0e _ _),trivial,λb hb=>absurd (show b∈sB_ from hb) c!,hok,.of_eq hg⟩;refine QN ((F _ zj (u5 cm)).run callerA [] al H l7! aS! aS! _ _ hr e0 (VN al D_) qv_ (jf H hO hS)) λr s' h=>?_;cases r with
  |error e=>exact(rj H e s' h).elim
  |ok fl=>
   cases fl with
   |next=>exact False.elim h
   |brk=>exact False.elim h
   |cont=>exact False.elim h
   |ret u=>
    obtain⟨v,H',os,bare,un,VP,r',q⟩:=h;have q':v=.bl true:=q;subst q';obtain rfl:u=Value.bool true:=r';refine⟨rfl,OldK.of_keep λb o e=>?_,os,bare⟩;cases q:H b with
    |none=>exact un.keep b o e q (by intro z;exact absurd sA! c!) c!
    |some u=>
     obtain z|⟨ob,xs,z⟩:=hO b
     .rw[q]at z;rcases z
     .have z2:=un.frzs b ob _ z;obtain⟨e1,_⟩:=hok b _ z;obtain⟨e2,_⟩:=VP b _ z2;rw[e]at e1;rcases e1;exact e2
 cases hk:K.lookup a with
 |some o=>
  have e:=KX a o hk;rw[ha]at e;rcases e;refine zh lo! (λ_=>.inl rfl) (.inr ⟨_,b6_,_,hk,rfl,rfl,rfl,by rw[HZ,VO];exact hl,by simpa using rv⟩) (λb u z=>by have z':(none:Option HO)=some u:=z;rcases z') (λb z=>absurd rfl z) λz=>absurd rfl z
 |none=>
  refine zh (λb=>if b=a then some (.frz {cls:=.type "list",data:=.seq b6_} (.lst bL_))else none) (λb=>?_) (.inl (.inr ⟨{cls:=.type "list",data:=.seq b6_},D!⟩)) (λb u z=>?_) ub! λ_=>hk
  .show"#,"
   .exact .inr ⟨_,_,IB hb⟩
   .exact .inl (IF hb)
  .show"#,"
   .have z':=(IB hb).symm.trans z;rcases z';subst hb;exact⟨ha,ub_,vs,_,rv,ha⟩
   .have z':=(IF hb).symm.trans z;rcases z'
  .show"#,"
   .exact hb
   .exact absurd (IF hb) z
end L2
namespace L2
open PySem PySem.Spec PyProof.Rows
def b7x{l:W.OpenLaw}{K:uc!}{CX:World->Yu}{sp:World->Sp}
  (hn:ia!)(gw:l3!)(rh:l6!)(hr:ma!)
  (hY:ud!)
  (F:∀(w:wZ!) (mg:L_) (fa:qT!) (h:Heap),(bk!).In h->h.Ns mainGlobals mg->mg d.name=some eu_->
   ∃fd:FuncData,ud_/\
    ∀base:Heap,(bk!).In base->base.Ns mainGlobals mg->Eb l.prog w bk! mg base (CX w) k fa fd [x] (sp w))
  (jf:∀(w:wZ!) (H:Hp) (a:qT!) (ns:u!),cC!<=n->Yr H->Eh bk! H a bL_->sp w aS! H ic_ λ_ _ _=>False)
  (rj:∀(w:wZ!) (H:Hp) (s:xR!) (e:wY!) (s':xR!),CX w [] H s fU_ e s'->False):
  W.WalkO q loose XP YP l.row.toRowW d [] l8!:=by
 refine Att.a2k hn rh λw s₀ al mg mb fa o pm cd bv a vs ns G g7 ho hd bz jz we hints ay hg=>?_;have KX:=hY w _ g7;obtain⟨fd,hb,hF⟩:=F w mg fa _ KX G.T.g jz;exact b4w KX G.T.g G.T.b G.T.builtins G.T.nolimit hg we hints (JG ay gw) hr hF hb (λH hO hS=>jf w H a ns ay hO hS) λH e s'=>rj w H al e s'
def b0x{l:W.OpenLaw}{n k:Nat}{XP:(Str->Option Value)->Heap->Prop}{YP:World->Heap->Prop}{d:DefRec}{K:uc!}{CX:Yu}{sp:W.Frag->Sp}{x:Str}
  (hn:ia!)(gw:l3!)(rh:l6!)(hr:ma!)
  (hY:ud!)
  (F:∀(w:wZ!) (mg:L_) (fa:qT!) (h:Heap),(bk!).In h->h.Ns mainGlobals mg->mg d.name=some eu_->
   ∃fd:FuncData,ud_/\
    ∀base:Heap,(bk!).In base->base.Ns mainGlobals mg->Eb l.prog w bk! mg base CX k fa fd [x] (sp bk!))
  (jf:∀(K:zM!) (H:Hp) (a:qT!) (ns:u!),cC!<=n->Yr H->Eh K H a bL_->sp K aS! H ic_ λ_ _ _=>False)
  (rj:∀(H:Hp) (s:xR!) (e:wY!) (s':xR!),CX [] H s fU_ e s'->False):
  W.WalkO q loose XP YP l.row.toRowW d [] l8!:=
 b7x (K:=K) (CX:=λ_=>CX) (sp:=λw=>sp bk!) hn gw rh hr hY F (λw H a ns Y h2 h3=>jf bk! H a ns Y h2 h3) λ_ H s e s'=>rj H s e s'
end L2
namespace L2
open PySem PySem.Spec PyProof.Rows
def Eg(s:Stmt):Arguments:=match s with
 |.FunctionDef _ a _ _ _ _ _ _ _ _=>a
 |_=>{posonlyargs:=[],args:=[],vararg:=none,kwonlyargs:=[],kw_defaults:=[],kwarg:=none,defaults:=[]}
def Bu(s:Stmt):List Stmt:=match s with
 |.FunctionDef _ _ b _ _ _ _ _ _ _=>b
 |_=>[]
def Aj(s:Stmt):Scope:=match s with
 |.FunctionDef _ _ _ _ _ _ sc _ _ _=>sc
 |_=>{kind:=.function,names:=[],isGenerator:=false,isCoroutine:=false}
abbrev Ng:Yu:=λ_ _ _ _ _ _=>False
abbrev E0:XK:=λ_ _ _=>False
def pQ:Ih Ng X E0:=λ_ _ _ _ _ _ _ h=>h.elim
structure Xd(K:zM!)(x qual:Str)(st:Stmt)(f:qT!)(fd:FuncData):Prop where
 ex:∃(oc:wY!) (od:dw_) (kV bv pm:wY!) (an:dw_) (ah ct:wY!) (iq:mg_),
  fd=W.fnOf x qual ie! a8! aU_ .none kV bv pm an ah ct/\K.lookup f=some ⟨oc,od,.func fd,iq⟩/\W.codeIn K ah qual=true
 kp:W.keepIn K W_=true
section
variable{P:xc!}{w:wZ!}{K:zM!}{mg:Str->Option Value}{base:Heap}
def Xd.ok{st:Stmt}(F:ug_)(S:cI!)(len:sK_)
  (o9:∀(ah:wY!) (A:wX!) (outer:af!) (s:xR!) (H:Hp) (vs:r_) (Q:VK) (E:XK),Ai k (A.deeper (envOfC qual aU_ s.heap.objs.size f ah))->sp vs H Q E->
   ∃t,Nf (Ig Ng P w K mg base N qual aU_ f ah A outer s H E).nox a8! t/\t {nx:=λ_ H'=>Q .non H',rt:=Q} fM_ H):Eb P w K mg base Ng J_ f fd ps sp:=by
 show"!G";refine c2k lk bz S len λA outer s H vs Q E hr jf=>?_;obtain⟨t,h,q⟩:=o9 ah A outer s H vs Q E hr jf;exact⟨t,h.nox,q⟩
def Xd.binds{st:Stmt}(F:ug_)
  (h:uh_):Do K fd ps []:=by
 show"!G";exact .all (h kV bv pm an ah ct)
def mF{st:Stmt}{kV:wY!}(l:K.lookup f=some ui_)
  (c:sK!)(k:W.keepIn K W_=true):Xd K x qual st f mh!:=⟨⟨oc,od,kV,bv,pm,an,ah,ct,iq,rfl,l,c⟩,k⟩
end
def a8p(h:n<=1000):n<sizeLine:=KQ h a_
def jS{A B:Prop}(h:B):if false=true then A else B:=by rw[IF JB];exact h
def jR{A B:Prop}(h:A):if true=true then A else B:=by rw[D!];exact h
def At(H H':Hp):Prop:=∀b o,H b=some o->H' b=some o
def At.refl(H:Hp):At H H:=λ_ _ h=>h
def At.trans(a:At H H1)(b:At H1 H2):At H H2:=λc o h=>b c o (a c o h)
def At.free(e:ev_)(h:H' l=mi!):H l=mi!:=by
 cases q:H l with
 |none=>rfl
 |some o=>
  rw[e l o q]at h;rcases h
def At.seq{K:zM!}(e:ev_)(h:Eh K H a xs):Eh K H' a xs:=by
 rcases h with(h|⟨o,h⟩)|h
 .exact uk!
 .exact uk_
 .exact .inr h
end L2
namespace L2
open PySem PySem.Spec PyProof.Rows
def Inv.track{D:qT!}(I:b_)
  (hD:s.heap.get? D=some {cls:=.type "list",data:=.seq us.toArray n})(r:Ar ys us)(hz:h3_)(hn:H D=none)(hs:c5!<=D)(hL:D≠X.env.locals)
  (hc:∀x c,X.env.cells.lookup x=some c->c≠D)(hp:∀p∈X.pn++J,p.1≠D):Inv X J Z (upd H D bi_) s:=by
 have ne:∀b u,H b=some u->b≠D:=λb u e=>bY e hn;refine I.step (ch:=[D]) ha_ (λb o _ _ _ e _=>e) (λb o _ _ _ e _=>um_) (λb o hc e n=>?_) (λb o _ e=>⟨o,e⟩)
  (λb xs e=>by rw[mj!];exact e) (λb o u e=>by rw[mj!];exact e) (λb ps e=>⟨#[],by rw[mj!,e];simp⟩) mj_ p3_ I.bare
 .have e:b=D:=by simpa using hb
  subst e;exact⟨.inr hs,hL,hc,hp⟩
 .rw[mk!];exact n
 .by_cases hb:b=D
  .show"!r";exact⟨hz,us,n,r,hD⟩
  .rw[c4!]at e;exact(kx_).stay mk_ (λc q=>by rw[uq!];exact q) λc xs q=>by rw[uq!];exact q
nonrec def closOf(cells:bM_):List up_->List ex!->List ex!
 |[],σ=>σ
 |(n,k)::r,σ=>if k==.free then closOf cells r ((n,(cells.lookup n).getD 0)::σ)else closOf cells r σ
structure Yt(X:Cx)(scope:Scope)(cl:bM_):Prop where
 eq:closureFor scope X.env=pure cl
 sub:∀x c,cl.lookup x=some c->X.env.cells.lookup x=some c
 all:∀x,scope.names.lookup x=some .free->∃c,cl.lookup x=some c
def pL:∀(names:ex_) (σ:bM_),(∀p∈names,p.2=.free->∃c,env.cells.lookup p.1=some c)->
  (forIn names σ λx r=>(match x with|(name,kind)=>if(kind==fV_)=true then(do let a <-cellOf env name;pure ur!)else pure ie_:Sem ur_))=(pure (closOf env.cells names σ):Sem (List ex!))
 |[],σ,_=>rfl
 |(n,k)::r,σ,h=>by
  rw[NU];cases hk:(k==fV_)with
  |true=>
   obtain⟨c,hc⟩:=h ey! HV ut!;have c7:env.cells.lookup n=some c:=hc;have e:cellOf env n=pure c:=by unfold cellOf;rw[c7]
   have ih:=pL r ((n,c)::σ) λp hp=>h p if!;have e2:closOf env.cells (ey!::r) σ=closOf env.cells r ((n,c)::σ):=by
    show uu!;rw[b1_,c7];rfl
   rw[e2,<-ih];simp only[hk,KZ,e];rfl
  |false=>
   have ih:=pL r σ λp hp=>h p if!;have e2:closOf env.cells (ey!::r) σ=closOf env.cells r σ:=by
    show uu!;rw[IF (by rw[hk];exact JB)]
   rw[e2,<-ih];simp only[hk];rfl
def mI(cells:bM_):∀(names:ex_) (σ:bM_),(∀p∈names,p.2=.free->∃c,cells.lookup p.1=some c)->(∀p∈σ,cells.lookup p.1=some p.2)->∀p∈closOf cells names σ,cells.lookup p.1=some p.2
 |[],_,_,h=>h
 |(n,k)::r,σ,hn,h=>by
  unfold closOf;split
  .rename_i hk;obtain⟨c,hc⟩:=hn ey! HV ut!;refine mI cells r _ uv! λp hp=>?_;obtain rfl|hp:=HW.mp hp
   .have c7:cells.lookup n=some c:=hc;rw[c7];rfl
   .exact h p hp
  .exact mI cells r _ uv! h
def mK(cells:bM_):∀(names:ex_) (σ:bM_) (x:Str),(∃c,(x,c)∈σ)->∃c,(x,c)∈closOf cells names σ
 |[],_,_,h=>h
 |(n,k)::r,σ,x,h=>by
  unfold closOf;split
  .exact mK cells r _ x (by obtain⟨c,hc⟩:=h;exact⟨c,HR _ hc⟩)
  .exact mK cells r _ x h
def mJ(cells:bM_):∀(names:ex_) (σ:bM_) (x:Str),(x,fV_)∈names->∃c,(x,c)∈closOf cells names σ
 |[],_,_,h=>nomatch h
 |(n,k)::r,σ,x,h=>by
  unfold closOf;obtain h|h:=HW.mp h
  .cases h;rw[IB ig!];exact mK cells r _ _ ⟨_,HV⟩
  .split
   .exact uw!
   .exact uw!
def lP:∀{l:List (Str×β)} {x:Str} {c:β},(x,c)∈l->∃d,l.lookup x=some d
 |[],_,_,h=>nomatch h
 |(n,k)::r,x,c,h=>by
  cases hx:(x==n)with
  |true=>exact⟨k,by simp[KD,hx]⟩
  |false=>
   obtain h|h:=HW.mp h
   .cases h;simp at hx
   .obtain⟨d,hd⟩:=lP h;exact⟨d,by simp[KD,hx,hd]⟩
def a8e(h:∀p∈bN!,p.2=.free->∃c,X.env.cells.lookup p.1=some c):∃cl,Yt X scope cl:=by
 refine⟨closOf X.env.cells scope.names [],?_,ks_,λx e=>?_⟩
 .have e:=pL scope.names [] h;dsimp only[closureFor];rw[show(forIn scope.names ([]:List ex!) λx r=>(match x with|(name,kind)=>if(kind==NameKind.free)=true then(do let a <-cellOf X.env name;pure ur!)else pure ie_:Sem ur_))=pure (closOf X.env.cells scope.names [])from e];rfl
 .exact mI X.env.cells scope.names [] h pZ! (x,c) (MB e)
 .obtain⟨c,hc⟩:=mJ X.env.cells scope.names [] x (MB e);exact lP hc
def Ku(X:Cx)(scope:Scope)(cl:bM_)(C:qT!)(N:E_)(ao:xR!)(bo:Hp)(fp:ax_):Cx:=
 {X with N:=N,s₀:=ao,H₀:=bo,env:=compEnvC scope cl C X.env,outer:=X.stack,stack:=X.stack,ex:=fp,fn:=λ_=>false,pn:=[],xe:=λ_ _=>False}
def kI{env:Env}:∀{names:ex_} {x:Str},(∀y∈names,y.2≠.cell)->
  ((ih_).lookup x=some .cell\/
     (ih_).lookup x=some .free)->names.lookup x=some .free
 |[],_,_,h=>by simp at h
 |(n,k)::r,x,hc,h=>by
  have ih:=@kI env r x λy hy=>hc y ez_;have hk:=hc ey! HV;rw[IJ]at h;by_cases hf:mm!=true
  .simp only[hf,KZ]at h;cases hx:x==n with
   |true=>
    simp only[KD,hx];simp only[JD,LP]at hf;rw[hf.1.1]
   |false=>
    simp only[KD,hx]at h ⊢;exact ih h
  .simp only[hf]at h;cases hx:x==n with
   |true=>
    simp only[JK,KC,KD,hx]at h ⊢;obtain h|h:=h
    .rcases h;exact absurd rfl hk
    .exact h
   |false=>
    show"#%";exact ih h
def kJ{env:Env}:∀{names:ex_} {x:Str},names.lookup x=some .free->
  ((ih_).lookup x=some .cell\/
     (ih_).lookup x=some .free)
 |[],_,h=>by simp at h
 |(n,k)::r,x,h=>by
  have ih:=@kJ env r x;rw[IJ];by_cases hf:mm!=true
  .simp only[hf,KZ];cases hx:x==n with
   |true=>exact .inl (by simp[KD,hx])
   |false=>
    simp only[KD,hx]at h ⊢;exact ih h
  .simp only[hf];cases hx:x==n with
   |true=>
    show"#%";exact .inr h
   |false=>
    show"#%";exact ih h
structure Cj(X:Cx)(scope:Scope)(NF:E_)(ix:n!):Prop where
 len:NF.length=ix.length
 at_:∀(k:Nat) (x:Str),NF[k]?=some x->∃j,ix[k]?=some j/\X.N[j]?=some x/\scope.names.lookup x=some .free/\pQ!
def Cj.nil:Cj X scope [] []:=⟨rfl,λk x e=>by simp at e⟩
def Cj.cons(h:cI_)(Y:uz!:=by rfl)(h2:scope.names.lookup x=some .free:=by rfl)
  (h3:X.env.kindOf x=some .cell\/X.env.kindOf x=some .free:=by first|exact Or.inl rfl|exact Or.inr rfl):Cj X scope (x::NF) (j::ix):=
 ⟨by simp[h.len],λk y e=>by
  cases k with
  |zero=>simp at e;subst e;exact⟨j,rfl,Y,h2,h3⟩
  |succ k=>simpa using h.at_ k y cq!⟩
def Mq(nl:Nat)(ix:n!)(Z:St):St:=List.replicate nl none++ix.map λj=>(Z[j]?).join
def c5r
  (cj:cJ!)(cg:cJ_)(cr:mn_)(I2:mo!)(f2:mo_)(flt:uA_)(hC:K_<=C):
  (Ku X scope cl C N s2 H2 fp).Ok where
 mod:=I2.ok.mod
 kind:=cj
 glob:=I2.ok.glob
 blt:=I2.ok.blt
 above:=hC
 inj:=λx y c Y h2=>I2.ok.inj x y c (cr.sub x c Y) (cr.sub y c h2)
 has:=λx h=>cr.all x (kI cg h)
 cab:=λ_ _ h=>nomatch h
 hd:=I2.ok.hd
 frames:=I2.ok.frames
 stk:=.inl rfl
 exf:=λb hb=>⟨JH (IQ ii! hC),λx c h=>(da_).2.2.2.2.1 x c fW!⟩
 bs:=I2.bs
 bsz:=JG I2.ok.bsz I2.sz
 noex:=λb o e hb=>by
  obtain z|z:=(da_).2.2.2.1
  .exact I2.ok.noex b o e z
  .exact absurd (IQ cs! (JG I2.ok.bsz z)) c3_
 exfs:=λb hb hf=>by
  obtain⟨_,f1,f3,_⟩:=f2 b hb;obtain z|z:=HW.mp (I2.stkSub b hf)
  .exact f1 z
  .exact f3 z
 funs:=I2.stack
 frf:=I2.stkFree
def b5i{D:qT!}
  (cj:cJ!)(cg:cJ_)(cr:mn_)(cap:cI_)(I2:mo!)(f2:mo_)(flt:uA_)
  (hC:K_<=C)(hD:K_<=D)(jj:D≠C)(old:∀b u,s2.heap.get? b=some u->h₁.get? b=some u)(hn:h₁.Ns C m)(v4:h₁.get? D=some oD)(v5:∀v,oD.data≠.cell v):
  Inv (Ku X scope cl C fW_ s2 H2 fp) (bk_++[(D,oD)]) mp_ H2 {s2 with heap:=h₁,toks:=t}:=by
 refine⟨c5r cj cg cr I2 f2 flt hC,rfl,I2.bare,Un.kept old,⟨m,hn,pY!⟩,λx c h=>?_,I2.hok.fresh hC,λx c h=>I2.freeC x c fW!,c5_,I2.hok.kept old,?_⟩
 .have zk:fW_[i]?=some x:=e1;unfold Mq at e2;by_cases hi:i<NL.length
  .rw[hR!,NH]at e2;rw[IB hi]at e2;cases e2
  .rw[ep!,JL,NR]at e2;rw[ep!]at zk;obtain⟨j,hj,hN,hf,hk⟩:=cap.at_ _ _ zk;rw[hj]at e2;have u6:(Z[j]?).join=some v:=JO e2;have e4:Z[j]?=some bX!:=by
    cases q:Z[j]? with
    |none=>rw[q]at u6;rcases u6
    |some o=>rw[q]at u6;exact congrArg some u6
   obtain⟨m2,_,hl⟩:=I2.loc;have hv:Xb X.env.scope x:=hk.elim (λz=>.inr bl!) λz=>.inr cK!;obtain⟨u,r,l⟩:=hl j x v hN e4 hv;refine⟨u,r,.inr ?_⟩;obtain⟨k,_⟩|⟨_,c,hc,z⟩:=l
   .obtain z|z:=hk
    .rw[z]at k;cases k
    .rw[z]at k;cases k
   .obtain⟨c',c7⟩:=cr.all x hf;have e5:=cr.sub x c' c7;rw[hc]at e5;rcases e5;obtain⟨o,ho,hd⟩:=z;exact⟨kJ hf,c,c7,⟨o,old _ _ ho,hd⟩⟩
 .obtain⟨v,o,ho,hd⟩:=I2.cell x c fW!;exact⟨v,o,old _ _ ho,hd⟩
 .have zl:∀b,b≠X.env.locals->b∉X.fs->b∉frs X.stack:=λb Y h2 h3=>(HW.mp (I2.stkSub b h3)).elim Y h2;have b7:p∈bk_++[(D,oD)]:=by simpa[Ku]using hp
  obtain b7|b7:=IM.mp b7
  .obtain⟨e,n,ne,nf,d⟩:=I2.pin p b7;exact⟨old _ _ e,n,JH (IQ cs! hC),zl _ ne nf,d⟩
  .have e:p=(D,oD):=by simpa using b7
   subst e;exact⟨v4,I2.hok.fresh hD,jj,zl _ (MX (IQ I2.lt hD)) (I2.nofs hD),v5⟩
 .show(mp_).length=(fW_).length;unfold Mq;rw[IR,IR,IK,NR,cap.len]
def zE(I:Nat->Shared->Prop)
  (hE:∀e s',E e s'->notedBy l! A env (λe s'=>R (.error e) s') e s')
  (turn:∀n s,I n s->wpAny l! A (pyNext it) (λr al=>match r with
   |none=>R (.ok .next) al
   |some v=>wpAny l! A (letOwnedTupleGo uv it v) (λ_ zm=>wpAny l! A (assign uv env v) (λ_ ao=>
     wpAny l! A (forIn c9 true λc r=>if r=true then do let ok <-isTrue c env (eval c env);pure uH! else pure ie_) (λok c8=>
      if ok=true then wpAny l! A (eval d7 env) (λx u7=>
       wpAny l! A (call (.builtin "list.append") [σ,x]) (λ_ zn=>∃m,m<n/\I m zn) E u7) E c8
      else∃m,m<n/\I m c8) E ao) E zm) E al) E s)
  (n:Nat) (h:I n s):codeAny l! A (.compLoop (.ListComp d7 [⟨uv,iter,c9,0⟩] scope pos) 0 it σ env) R s:=by
 refine codeAny_loop rfl I (λn s hI=>?_) n h;refine wpAny_noted ?_;rw[compTurn_list];refine HP (QU (HP (LB (turn n s hI) (λr al h₁=>?_) hE)));cases r with
 |none=>exact HS h₁
 |some v=>
  refine HP (LB h₁ (λ_ zm VQ=>?_) hE);refine HP (LB VQ (λ_ ao ji=>HP (LB ji (λok c8 g6=>?_) hE)) hE);cases ok with
  |false=>exact HS ⟨rfl,g6⟩
  |true=>
   exact HP (HP (LB g6 (λx u7 jk=>HP (LB jk (λ_ zn j0=>HS (HS ⟨rfl,j0⟩)) hE)) hE))
def Oq(X:Cx)(c9:ct_)(t:TT):Prop:=
 ∀(J:u_) (s:xR!) (Z:St) (H:Hp) (Q:c7!),Inv X J Z H s->t Z H Q->
  wpAny d_ X.A (forIn c9 true λc r=>if r=true then do let ok <-isTrue c X.env (eval c X.env);pure uH! else pure ie_) hc_ X.xe s
def BM:TT:=λ_ H Q=>Q true H
def a0m:Oq X [] BM:=λJ s Z H Q I h=>wpAny_tests_nil ⟨H,I,h⟩
def b2p(h:PT X c t):Oq X [c] t:=λJ s Z H Q I hw=>wpAny_tests_one qy_
def Ul(af:It)(g:TG)(tt:TT)(te:TE)(Fin:ct!)(Z:St)(H:Hp):Prop:=∃W:Nat->Nat->List V->St->Hp->Prop,(∃m,W 0 m [] Z H)/\∀i m ys Z H,W i m ys Z H->ad_<=sizeLine/\
 ((af.stop i H/\Fin ys H)\/(af.go i H/\∀x H',af.yld i H x H'->g x Z H' λeg H2=>tt eg H2 λb H3=>if b=true then te eg H3 λy H4=>∃m',m'<m/\W ag! m' (ys++[y]) eg H4 else∃m',m'<m/\W ag! m' ys eg H3))
abbrev Th(us:l_)(n:Nat):Obj:={cls:=.type "list",data:=.seq us.toArray n}
def vV
  {Fin:ct!}{RR:Value->Addr->Result->Shared->Prop}
  (cj:cJ!)(cg:cJ_)(cr:mn_)(cap:cI_)(calm:aq_)
  (hg:∀C ao bo fp,PG bN_ tg g)(hi:∀C ao bo fp,Oq bN_ c9 tt)(he:∀C ao bo fp,PE bN_ d7 te)
  (I2:mo!)(T:Pf X.prog X.w X.K tg af fp it tn)(bx:tn 0 s2.heap)(f2:mo_)(hw:Ul af g tt te Fin mp_ H2)
  (VR:∀(D C:qT!) (us:l_) (n:Nat) (ys:r_) (H':Hp) (s':xR!),Inv X J Z H' s'->s'.heap.get? D=some (Th us n)->Ar ys us->ad_<=sizeLine->H' D=none->K_<=D->K_<=C->D≠C->H' C=none->
   (∃m,s'.heap.Ns C m)->Fin ys H'->RR (.ref D) C (.ok .next) s'):
  wpAny d_ X.A (newList []) (λσ c8=>wpAny d_ X.A (newFunctionEnv scope X.env.globals cl [] X.env.qual none .none (some X.env)) (λzo u7=>
   codeAny d_ X.A (.compStart fX! 0 bZ! σ {zo with scope:=relabel scope X.env}) (RR σ zo.locals) u7) E c8) E s2:=by
 obtain⟨W,⟨m0,w0⟩,turn⟩:=hw;have flt:∀b∈fp,b<K_:=λb hb=>by obtain⟨o,e,_⟩:=T.obj _ _ bx b hb;exact IT e
 refine KS (wpAny_newFunctionEnv cg (by intro y hy;simp at hy) (λh₁ wf u8=>?_) cj);dsimp only at wf u8 ⊢;generalize wg:s2.heap.push {cls:=.type "list",dict:=none,data:=.seq (uM_).toArray}=G2 at wf u8 ⊢;have hC:fX_=K_+1:=by rw[<-wg,NE]
 have jj:K_≠fX_:=by rw[hC];exact JH (PH _)
 have zp:K_<=fX_:=by rw[hC];exact NM _
 have zq:∀b,b<K_->b≠fX_:=λb hb=>by rw[hC];exact JH (QI hb)
 have old:∀b o,s2.heap.get? b=some o->h₁.get? b=some o:=λb o e=>u8.extBut b o (zq b cs!) (HU _ (wg▸HU _ e));have VS:=u8.extBut _ _ jj (HU _ (wg▸IL _ rfl));have pe:=T.keep _ _ _ bx λb _ o e=>old b o e;have I1:=b5i (NL:=NL) (t:=s2.toks+(uN!).length) cj cg cr cap I2 f2 flt zp p! jj old wf VS uO!;have mo:∀{H':Hp} {oD:Obj},fz!->∀b∈fp,Eo eA_ (bk_++[(K_,oD)]) H' b:=λ{H' oD} hn b hb=>by
  obtain⟨_,f1,f3,f4,f5,f6⟩:=f2 b hb;refine⟨hn b hb,zq b ii!,λz=>(HW.mp (I2.stkSub b z)).elim f1 f3,.inl hb,λx c h=>f5 x c fW!,c5_⟩;have b7:p∈bk_++[(K_,oD)]:=by simpa[Ku]using hp
  obtain b7|b7:=IM.mp b7
  .exact f6 p b7
  .have e:p=(K_,oD):=by simpa using b7
   subst e;exact MX ii!
 have zr:∀c8:Shared,c8={s2 with heap:=h₁,toks:=s2.toks+(uN!).length}->
   codeAny d_ X.A (.compLoop fX! 0 bZ! (.ref K_) (compEnvC scope cl G2.objs.size X.env)) (RR (.ref K_) fX_) c8:=by
  rintro c8 rfl;refine zE (E:=uQ!) (λk s'=>∃i ys us n ae H',Inv eA_ uR_ ae H' s'/\tn i s'.heap/\fz!/\Ar ys us/\W i k ys ae H')
   (λ_ _ z=>z.elim) ?_ m0 ⟨0,[],[],0,_,H2,I1,pe,rg_,.nil,w0⟩
  rintro k s' ⟨i,ys,us,n,ae,H',I',ac,zt,rv,w'⟩;obtain⟨ay,wj⟩:=turn i k ys ae H' w';obtain⟨stop,fin⟩|⟨go,step⟩:=wj
  .refine cZ (T.done eA_ rfl rfl rfl calm i _ s' ae H' _ I' (mo zt) ac stop) ?_;rintro r s4 ⟨hr,I4⟩;subst hr;have zu:=I4.pin ms! (by simp[Ku]);have IX:=I2.call' I4.os I4.base I4.hok I4.bare λb hb=>by
    obtain⟨_,f1,f3,f4,f5,f6⟩:=f2 b hb;exact⟨f4,f1,f5,f6⟩
   obtain⟨mC,VT,_⟩:=I4.loc;exact VR _ _ us n ys H' s4 IX zu.1 rv ay zu.2.1 p! zp jj I4.free ⟨mC,VT⟩ fin
  .refine cZ (T.item eA_ rfl rfl rfl calm i _ s' ae H' _ I' (mo zt) ac go) ?_;rintro r s4 ⟨u,hr,h4⟩;subst hr;refine cZ h4 ?_;rintro _ s5 ⟨x,H5,I5,r5,y5,mz,vz⟩;have v3:=I5.pinned (mo vz) rh_;refine cZ (hg _ _ _ _ _ s5 ae H5 x u _ v3 r5 ri!) ?_;rintro _ s6 ⟨m7,H6,I6,q6⟩;refine cZ (hi _ _ _ _ _ s6 m7 H6 _ I6 q6) ?_;rintro ok s7 ⟨H7,I7,q7⟩;have zw:∀{zx:St} {H8:Hp} {s8:xR!},Inv eA_ (uR_++Od fp s5.heap) zx H8 s8->tn ag! s8.heap/\∀b∈fp,H8 b=none:=λ{zx H8 s8} I8=>by
    refine⟨T.keep _ _ _ mz λb hb o e=>(uT!).1,bE_⟩;obtain⟨o,e,d⟩:=T.obj _ _ mz b hb;exact(uT!).2.1
   cases ok with
   |false=>
    simp only[JK,KC]at q7 ⊢;obtain⟨m',hm,w7⟩:=q7;obtain⟨t7,n7⟩:=zw I7;exact⟨m',hm,i+1,ys,us,n,m7,H7,hs!,t7,n7,rv,w7⟩
   |true=>
    simp only[KZ]at q7 ⊢;refine cZ (he _ _ _ _ _ s7 m7 H7 _ I7 q7) ?_;rintro yv s8 ⟨y,H8,I8,r8,m',hm,w8⟩;obtain⟨t8,n8⟩:=zw I8;have pD:=I8.pin ms! (HX _ (IP _ c!));have hul:=rv.length.symm;refine wpAny_list_append_plain ⟨n,pD.1⟩ λh9 VU zy=>?_;obtain⟨n9,e9⟩:=VU;have VV:=I8.pins_of λp hp=>I8.pin p (HX _ (IP _ (IP _ hp)));have I9:Inv eA_ bk_ m7 H8 {s8 with heap:=h9,toks:=s8.toks}:=by
     refine VV.turned (λb o hb e=>(zy.2 b hb).trans e) pD.2.1 jj (.inr p!) (λx c h=>?_) λp hp=>?_
     .obtain⟨v,o,ho,_⟩:=I2.cell x c fW!;exact JH g5!
     .have b7:p∈X.pn++J:=by simpa[Ku]using hp
      exact JH (IT (I2.pin p b7).1)
    have VW:h9.get? K_=some (Th (us++[yv]) n9):=by
     rw[e9,List.push_toArray]
    refine⟨m',hm,i+1,ys++[y],us++[yv],n9,m7,H8,I9.pins_of λp hp=>?_,T.keep _ _ _ t8 λb hb o e=>(zy.2 b (JH ii!)).trans e,n8,rv.append (.cons r8 .nil),w8⟩;obtain hp|hp:=IM.mp hp
    .exact I9.pin p (HX _ hp)
    .have e:p=(K_,Th (us++[yv]) n9):=by simpa using hp
     subst e;exact⟨VW,pD.2.1,pD.2.2.1,pD.2.2.2.1,fY_⟩
 exact codeAny_compStart_list (zr _ rfl) (T.self _ 0 _ _ _ pe (zr _ rfl))
def Za(nl:Nat)(ix:n!)(wi:TI)(g:TG)(tt:TT)(te:TE):TE:=λZ H Q=>wi Z H λaf H1=>Ul af g tt te (λys H'=>∀p,H' p=none->Q b3! (upd H' p bi_)) uU! H1
def a6j{X:Cx}{scope:Scope}{NL:E_}{ix:n!}{wi:TI}{g:TG}{tt:TT}{te:TE}
  (cj:cJ!)(cg:cJ_)(j4:∀y∈bN!,y.2=.local->scope.names.lookup y.1=some .local)
  (gr:fZ!)(cap:cI_)(calm:aq_)(ar:kY_)
  (hg:fZ_)(hi:uV!)(he:uV_)
  (hs:da!:=by intro _;rfl):
  PE X fX! uW!:=by
 show"!C";show"#&"
 rw[eval_ListComp];refine wpAny_comprehension_free rfl hs cr.eq cj j4 uX!;obtain⟨it,fp,tn,af,H2,e,I2,T,bx,f2,hw⟩:=h2;subst e;refine vV cj cg cr cap calm (hg cl) (hi cl) (he cl) I2 T bx f2 hw ?_;rintro D C us n ys H' s' I' eD rv ay nD hD hC jj nC ⟨m,hn⟩ fin;refine⟨m,hn,uX_⟩;have eh:∀b,b<K_->b≠C/\b≠D:=λb hb=>uY!;have ph:∀x c,X.env.cells.lookup x=some c->c<K_:=λx c h=>by obtain⟨_,_,ho,_⟩:=I2.cell x c h;exact IT ho
 have rm:∀p∈X.pn++J,p.1<K_:=λp hp=>IT (uY_).1;have IC:Inv X J Z H' {s' with heap:=h',toks:=s'.toks}:=I'.turned uZ! nC (JF (f0!).1) uZ_ u0_ λp hp=>(ik_).1;have ID:=IC.track ((db.2 D jj).trans eD) rv ay nD u1! (JF (f0!).2) u1_ λp hp=>(ik_).2;exact⟨.ref D,_,ID,rfl,fin D nD⟩
end L2
namespace DL
open PySem PySem.Spec PyProof.Rows L2
abbrev St:=L2.St
inductive D where
 |non|bl (b:Bool)|int (i:Int)|str (x:Str)|tup (xs:d!)|lst (xs:d!)|fn (a:qT!)|dk (h1:List mu!)
mutual
noncomputable def Ao(KF:zM!)(H:Hp):D->V->Prop
 |.non,v=>v=V.non
 |.bl b,v=>v=V.bl b
 |.int i,v=>v=V.int i
 |.str x,v=>v=V.str x
 |.tup xs,v=>∃a vs,v=V.ref a/\Ex KF H a vs/\Ak KF H xs vs
 |.lst xs,v=>∃a vs,v=V.ref a/\Eh KF H a vs/\Ak KF H xs vs
 |.fn a,v=>v=V.ref a
 |.dk h1,v=>∃a,v=V.ref a/\Rd H a dc_
noncomputable def Ak(KF:zM!)(H:Hp):List D->List V->Prop
 |[],vs=>vs=[]
 |d::ds,vs=>∃v r,vs=v::r/\Ao KF H d v/\Ak KF H ds r
end
mutual
noncomputable def Pj:D->Bool
 |.lst _=>false
 |.dk _=>false
 |.tup xs=>Qg xs
 |_=>true
noncomputable def Qg:List D->Bool
 |[]=>true
 |d::ds=>Pj d&&Qg ds
end
mutual
noncomputable def Hk:D->Nat
 |.lst xs=>Cw xs+1
 |.tup xs=>Cw xs+1
 |_=>0
noncomputable def Cw:List D->Nat
 |[]=>0
 |d::ds=>max (Hk d) (Cw ds)
end
section
variable{KF:zM!}{H H':Hp}
mutual
theorem Ao.map(ht:il_)(hl:u2!)(hd:u2_):∀(d:D) (v:V),Ao KF H d v->Ao KF H' d v
 |.non,_,h=>h
 |.bl _,_,h=>h
 |.int _,_,h=>h
 |.str _,_,h=>h
 |.tup xs,_,h=>by
  show"!U";exact⟨a,vs,e,ht a vs q,u3!⟩
 |.lst xs,_,h=>by
  show"!U";exact⟨a,vs,e,hl a vs q,u3!⟩
 |.fn _,_,h=>h
 |.dk h1,_,h=>by
  unfold Ao at h ⊢;obtain⟨a,e,q⟩:=h;exact⟨a,e,hd a h1 q⟩
theorem Ak.map(ht:il_)(hl:u2!)(hd:u2_):∀(ds:d!) (vs:r_),Ak KF H ds vs->Ak KF H' ds vs
 |[],_,h=>h
 |d::ds,_,h=>by
  unfold Ak at h ⊢;obtain⟨v,r,e,q,t⟩:=h;exact⟨v,r,e,Ao.map ht hl hd d v q,Ak.map ht hl hd ds r t⟩
end
mutual
theorem Ao.mapT(ht:il_):∀(d:D) (v:V),Pj d=true->Ao KF H d v->Ao KF H' d v
 |.non,_,_,h=>h
 |.bl _,_,_,h=>h
 |.int _,_,_,h=>h
 |.str _,_,_,h=>h
 |.tup xs,_,n,h=>by
  unfold Pj at n;show"!U";exact⟨a,vs,e,ht a vs q,Ak.mapT ht xs vs n r⟩
 |.lst xs,_,n,_=>by
  unfold Pj at n;exact Bool.noConfusion n
 |.fn _,_,_,h=>h
 |.dk _,_,n,_=>by
  unfold Pj at n;exact Bool.noConfusion n
theorem Ak.mapT(ht:il_):∀(ds:d!) (vs:r_),Qg ds=true->Ak KF H ds vs->Ak KF H' ds vs
 |[],_,_,h=>h
 |d::ds,_,n,h=>by
  unfold Qg at n;rw[JD]at n;unfold Ak at h ⊢;obtain⟨v,r,e,q,t⟩:=h;exact⟨v,r,e,Ao.mapT ht d v n.1 q,Ak.mapT ht ds r n.2 t⟩
end
def bK(e:ev_)(h:Ex KF H a xs):Ex KF H' a xs:=by
 rcases h with(h|⟨o,h⟩)|h
 .exact uk!
 .exact uk_
 .exact .inr h
def a5u(e:ev_)(h:Rd H a o):Rd H' a o:=by
 obtain h|⟨u,h⟩:=h
 .exact .inl (e _ _ h)
 .exact .inr ⟨u,e _ _ h⟩
def Ao.mono(e:ev_)(h:mv_):Ao KF H' d v:=Ao.map u4_ u5_ u5! d v h
def Ak.mono(e:ev_)(h:cb!):Ak KF H' ds vs:=Ak.map u4_ u5_ u5! ds vs h
def Ao.non:Ao KF H .non V.non:=by unfold Ao;rfl
def Ao.bl:Ao KF H a4! (V.bl b):=by unfold Ao;rfl
def Ao.int:Ao KF H ay! (V.int i):=by unfold Ao;rfl
def Ao.str:Ao KF H bX_ (V.str x):=by unfold Ao;rfl
def Ao.fn:Ao KF H bl_ eC!:=by unfold Ao;rfl
def Ao.tup(h:Ex KF H a vs)(r:cb!):Ao KF H dx_ eC!:=by unfold Ao;exact u6_
def Ao.lst(h:Eh KF H a vs)(r:cb!):Ao KF H bm! eC!:=by unfold Ao;exact u6_
def Ak.nil:Ak KF H [] []:=by unfold Ak;rfl
def Ak.cons(h:mv_)(t:cb!):Ak KF H dy! (v::vs):=by unfold Ak;exact⟨v,vs,rfl,h,t⟩
def aG:∀{ds:d!} {vs:r_},Ak KF H ds vs->g_=aR_
 |[],vs,h=>by unfold Ak at h;subst h;rfl
 |d::ds,vs,h=>by
  unfold Ak at h;obtain⟨v,r,e,_,t⟩:=h;rw[e,IW,IW,aG t]
def gA:∀{ds:d!} {vs:r_} {i:Nat} {d:D},Ak KF H ds vs->ds[i]?=some d->∃v,vs[i]?=some v/\Ao KF H d v
 |[],_,_,_,_,e=>by simp at e
 |c::ds,vs,i,d,h,e=>by
  unfold Ak at h;obtain⟨v,r,e1,q,t⟩:=h;subst e1;cases i with
  |zero=>simp at e;subst e;exact⟨v,rfl,q⟩
  |succ i=>
   obtain⟨u,Y,h2⟩:=gA t cq!;exact po_
def cG:∀{ds es:d!} {vs ws:r_},Ak KF H ds vs->Ak KF H es ws->Ak KF H (ds++es) lK_
 |[],_,_,_,h,k=>by unfold Ak at h;subst h;exact k
 |c::ds,_,vs,_,h,k=>by
  show"!M";exact Ak.cons q (cG t k)
def oK:∀{ds:d!} {vs:r_} (n:Nat),Ak KF H ds vs->Ak KF H (ds.take n) (vs.take n)
 |_,_,0,_=>Ak.nil
 |[],_,n+1,h=>by unfold Ak at h;subst h;exact Ak.nil
 |c::ds,vs,n+1,h=>by
  show"!M";exact Ak.cons q (oK n t)
def oM:∀{ds:d!} {vs:r_} (n:Nat),Ak KF H ds vs->Ak KF H (ds.drop n) (vs.drop n)
 |_,_,0,h=>h
 |[],_,n+1,h=>by unfold Ak at h;subst h;exact Ak.nil
 |c::ds,vs,n+1,h=>by
  show"!M";exact oM n t
def a0g(hd:mv_):∀{ds:d!} {vs:r_} (n:Nat),Ak KF H ds vs->Ak KF H (ds.set n d) (vs.set n v)
 |[],_,_,h=>by unfold Ak at h;subst h;exact Ak.nil
 |c::ds,vs,n,h=>by
  unfold Ak at h;obtain⟨u,r,e1,q,t⟩:=h;subst e1;cases n with
  |zero=>exact Ak.cons hd t
  |succ n=>exact Ak.cons q (a0g hd n t)
def cK(h:Ak KF H [] vs):vs=[]:=by unfold Ak at h;exact h
def bB(h:Ak KF H dy! vs):∃v r,vs=v::r/\Ao KF H d v/\Ak KF H ds r:=by unfold Ak at h;exact h
def bD(h:Ao KF H dx_ v):∃a vs,v=V.ref a/\Ex KF H a vs/\Ak KF H ds vs:=by unfold Ao at h;exact h
def bJ(h:Ao KF H bm! v):∃a vs,v=V.ref a/\Eh KF H a vs/\Ak KF H ds vs:=by unfold Ao at h;exact h
def aU(h:Ao KF H ay! v):v=V.int i:=by unfold Ao at h;exact h
def dA(h:Ao KF H (.bl i) v):v=V.bl i:=by unfold Ao at h;exact h
def cB(h:Ao KF H im_ v):v=V.str i:=by unfold Ao at h;exact h
def eV(h:Ao KF H .non v):v=V.non:=by unfold Ao at h;exact h
def fJ(h:Ao KF H bl_ v):v=V.ref a:=by unfold Ao at h;exact h
def c3d(h:Ao KF H (.dk h1) v):∃a,v=V.ref a/\Rd H a dc_:=by unfold Ao at h;exact h
def gX(h:cb_):At H eC_:=λb u e=>by rw[aS (bY e h)];exact e
def fE(h:cb_)(r:cb!):Ao KF (upd H p (.tup vs)) dx_ mx_:=Ao.tup (Ex.of bI) va_
def cP(h:cb_)(r:cb!):Ao KF io_ bm! mx_:=Ao.lst (Eh.of bI) va_
end
structure Bn(G H G' H':Hp):Prop where
 g:At G G'
 h:At H H'
 sub:At G' H'
 new:∀b,G' b≠none->G b≠none\/H b=none
def Bn.refl{G H:Hp}(s:E!):Bn G H G H:=⟨eD!,At.refl H,s,ip!⟩
def Bn.trans(a:Bn G H G1 H1)(b:Bn G1 H1 G2 H2):Bn G H G2 H2:=
 ⟨a.g.trans b.g,a.h.trans b.h,b.sub,λc h=>(b.new c h).elim (λz=>a.new c z) λz=>.inr (a.h.free z)⟩
def Bn.laid(s:E!)(hp:cb_):Bn G H (upd G p o) eC_:=by
 refine⟨gX (s.free hp),gX hp,vb!,bm_⟩
 .by_cases hb:b=p
  .subst hb;rw[bI]at e ⊢;exact e
  .rw[c4!]at e ⊢;exact s b u e
 .by_cases hb:b=p
  .subst hb;exact .inr hp
  .rw[c4!]at h;exact .inl h
abbrev Ae:=List (Option D)
structure OR(KF:zM!)(own:n!)(G H:Hp)(Z:St)(ρ:Ae):Prop where
 sub:At G H
 len:ip_=dZ_
 at_:∀(i:Nat) (d:D),ρ[i]?=some cK_->i∉own->∃v,Z[i]?=some bX!/\Ao KF G d v
 own_:∀i∈own,∃p ds vs,ρ[i]?=some (some bm!)/\Z[i]?=some cc!/\H p=some dz!/\G p=none/\Ak KF G ds vs
 dis:∀i∈own,∀j∈own,i≠j->∀p q,Z[i]?=some cc!->Z[j]?=some (some (V.ref q))->p≠q
def OR.grow{KF:zM!}(h:bO!)(x:iq!):OR KF own G' H' Z ρ where
 sub:=x.sub
 len:=h.len
 at_:=λi d q n=>by obtain⟨v,Y,h2⟩:=h.at_ i d q n;exact vb_
 own_:=λi hi=>by
  obtain⟨p,ds,vs,Y,h2,h3,h4,h5⟩:=h.own_ i hi;refine⟨p,ds,vs,Y,h2,x.h _ _ h3,?_,h5.mono x.g⟩;cases q:G' p with
  |none=>rfl
  |some o=>
   rcases x.new p ca_ with z|z
   .exact absurd h4 z
   .rw[h3]at z;rcases z
 dis:=h.dis
def OR.set{KF:zM!}(h:bO!)(hi:aM!)(r:cc_):OR KF own G H d1! bn! where
 sub:=h.sub
 len:=by rw[MD,MD,h.len]
 at_:=λj c q n=>by
  by_cases hj:i=j
  .subst hj;by_cases hi:i<ip_
   .rw[KI hi]at q;cases q;exact⟨v,by rw[KI (by rw[<-h.len];exact hi)],r⟩
   .rw[JU (by rw[MD];omega)]at q;rcases q
  .rw[JI hj]at q;rw[JI hj];exact h.at_ j c q n
 own_:=λj hj=>by
  have ne:i≠j:=λe=>hi (e▸hj);rw[JI ne,JI ne];exact h.own_ j hj
 dis:=λj hj k hk a9 p q e1 e2=>by
  have ne:i≠j:=λe=>hi (e▸hj);have wk:i≠k:=λe=>hi (e▸hk);rw[JI ne]at e1;rw[JI wk]at e2;exact h.dis j hj k hk a9 p q e1 e2
def Ii(own:n!)(Z:St):List Addr:=own.filterMap λi=>match Z[i]? with|some (some (V.ref p))=>some p|_=>none
def oY(h:p∈Ii own Z):∃i∈own,Z[i]?=some cc!:=by
 obtain⟨i,hi,e⟩:=NJ.mp h;refine⟨i,hi,?_⟩;show"!8"
 .rename_i q he;rcases e;exact he
 .rcases e
def a0c(hi:eD_)(h:vc_):p∈Ii own Z:=NJ.mpr ⟨i,hi,by rw[h]⟩
def Kj(own:n!)(Z:St)(G H:Hp):Hp:=λb=>if b∈Ii own Z then H b else G b
def OR.full{KF:zM!}(h:bO!):OR KF [] f1_ H Z ρ:=by
 have s1:At G f1_:=λb o e=>by
  unfold Kj;split
  .exact h.sub b o e
  .exact e
 have s2:At f1_ H:=λb o e=>by
  unfold Kj at e;show"!8"
  .exact e
  .exact h.sub b o e
 refine⟨s2,h.len,my!,ao!,ao!⟩;by_cases hi:i∈own
 .obtain⟨p,ds,vs,Y,h2,h3,h4,h5⟩:=h.own_ i hi;rw[Y]at q;cases q;refine⟨_,h2,Ao.lst (Eh.of ?_) (h5.mono s1)⟩;unfold Kj;rw[IB (a0c hi h2)];exact h3
 .obtain⟨v,Y,h2⟩:=h.at_ i d q hi;exact⟨v,Y,h2.mono s1⟩
def Le(ρ aj:Ae):Prop:=ip_=aj.length/\∀(i:Nat) (d:D),ρ[i]?=some cK_->aj[i]?=some cK_
def OR.le{KF:zM!}(h:OR KF [] G H Z aj)(l:Le ρ aj):OR KF [] G H Z ρ:=⟨h.sub,l.1.trans h.len,λi d q n=>h.at_ i d (l.2 i d q) n,ao!,ao!⟩
def Le.set(h:Le ρ aj)(hi:ρ[i]?=some none):Le ρ (aj.set i cK_):=by
 refine⟨by rw[MD];exact h.1,λj c q=>?_⟩;have:i≠j:=λe=>by subst e;rw[hi]at q;cases q
 rw[JI this];exact h.2 j c q
def Le.refl(ρ:Ae):Le ρ ρ:=⟨rfl,λ_ _ h=>h⟩
def Yn(nl:Nat)(ix:n!)(ρ:Ae):Ae:=List.replicate nl none++ix.map λj=>(ρ[j]?).join
def OR.cap{KF:zM!}(h:bO!)(nl:Nat)(ix:n!)(hx:iq_):OR KF [] G H uU! mz_:=by
 unfold Mq Yn;refine⟨h.sub,S!,my!,ao!,ao!⟩;by_cases hi:i<nl
 .rw[hR!,NH,IB hi]at q;cases q
 .rw[ep!,JL,NR]at q;rw[ep!,JL,NR];cases e:ix[i - nl]? with
  |none=>rw[e]at q;rcases q
  |some j=>
   rw[e]at q;have q':(ρ[j]?).join=some d:=JO q;have q2:ρ[j]?=some cK_:=by
    cases z:ρ[j]? with
    |none=>rw[z]at q';rcases q'
    |some o=>rw[z]at q';exact congrArg some q'
   obtain⟨v,Y,h2⟩:=h.at_ j d q2 (hx j (NB e));exact⟨v,by simp[Y],h2⟩
inductive tD(KF:zM!)(own:n!)(f:j!)(Z:St)(H:Hp)(Q:VK):Prop
 |mk (G:Hp) (ρ:Ae) (d:D) (o:bO!) (e:cd_) (k:∀v G' H',Bn G H G' H'->Ao KF G' d v->Q v H'):tD KF own f Z H Q
inductive GF(KF:zM!)(own:n!)(f:aV!)(Z:St)(H:Hp)(Q:ct!):Prop
 |mk (G:Hp) (ρ:Ae) (ds:d!) (o:bO!) (e:vf!) (k:∀vs G' H',Bn G H G' H'->Ak KF G' ds vs->Q vs H'):GF KF own f Z H Q
inductive BC(KF:zM!)(own:n!)(f:aV_)(Z:St)(H:Hp)(Q:c7!):Prop
 |mk (G:Hp) (ρ:Ae) (b:Bool) (o:bO!) (e:mA_) (k:∀G' H',Bn G H G' H'->Q b H'):BC KF own f Z H Q
structure DE(X:Cx)(own:n!)(e:Expr)(f:j!):Prop where
 ok:PE X e (tD X.K own f)
structure DA(X:Cx)(own:n!)(es:ct_)(f:aV!):Prop where
 ok:PA X es (GF X.K own f)
structure DT(X:Cx)(own:n!)(e:Expr)(f:aV_):Prop where
 ok:PT X e vf_
structure DW(X:Cx)(own:n!)(e:Expr)(f:aV_):Prop where
 ok:PW X e vf_
section
variable{X:Cx}{own:List Nat}{e a b c:Expr}{es:List Expr}{pos:Pos}{f fa fb fc:Ae->Option D}{fs:Ae->Option (List D)}{ft fu:Ae->Option Bool}
def eE{t:TE}(h:hd_)(hw:∀Z G H Q ρ d,OR X.K own G H Z ρ->f ρ=some d->(∀v G' H',Bn G H G' H'->Ao X.K G' d v->Q v H')->t Z H Q):DE X own e f:=vg!
def b6u(h:fH_)(hw:∀Z G H Q ρ d,OR X.K own G H Z ρ->fs ρ=some d->(∀v G' H',Bn G H G' H'->Ak X.K G' d v->Q v H')->t Z H Q):DA X own es fs:=⟨by rintro p J s Z H Q I ⟨G,ρ,d,er,e,k⟩;exact h p J s Z H Q I mB!⟩
def sX(h:PT X e t)(hw:vi!):DT X own e ft:=vg!
def c2m(h:kC!)(hw:vi!):DW X own e ft:=⟨by rintro wh J s Z H Q I ⟨G,ρ,d,er,e,k⟩;exact h wh J s Z H Q I mB!⟩
def Rw(f:j!):Ae->Option D:=λρ=>(V_).bind λd=>if Pj d then some d else none
def c1e(h:DE X [] e f):DE X own e (Rw f):=eE h.ok λZ G H Q ρ d er e k=>by
 obtain⟨d',e1,e2⟩:=HQ.mp e;split at e2
 .rename_i hn;cases e2;refine⟨Kj own Z G H,ρ,d,er.full,e1,λv G' H' x r=>?_⟩;have VX:∀b,b∈Ii own Z->∃vs,G' b=some dz!:=λb hb=>by
   show"!K";refine⟨vs,x.g _ _ ?_⟩;unfold Kj;rw[IB hb];exact h3
  have hG:∀b,b∈Ii own Z->G b=none:=λb hb=>by
   show"!K";exact h4
  refine k v (λb=>if b∈Ii own Z then none else G' b) H' ⟨vj!,x.h,vj!,is!⟩ (Ao.mapT (λa vs q=>?_) d v hn r)
  .have hb:b∉Ii own Z:=λhb=>by rw[hG b hb]at z;rcases z
   rw[IF hb];refine x.g _ _ ?_;unfold Kj;rw[IF hb];exact z
  .have z':vj_=some o:=z;split at z'
   .rcases z'
   .exact x.sub _ _ z'
  .have z':vj_≠none:=z;split at z'
   .exact absurd rfl z'
   .rename_i hb;obtain y|y:=x.new b z'
    .unfold Kj at y;rw[IF hb]at y;exact .inl y
    .exact .inr y
  .have ne:∀u,G' a=some u->(∀ws,u≠.lst ws)->(if a∈Ii own Z then none else G' a)=some u:=λu e1 hu=>by
    rw[IF (λhb=>by obtain⟨ws,e2⟩:=VX a hb;rw[e1]at e2;exact hu ws (JO e2))];exact e1
   rcases q with(q|⟨o,q⟩)|q
   .exact .inl (.inl (ne _ q λ_ z=>nomatch z))
   .exact .inl (.inr ⟨o,ne _ q λ_ z=>nomatch z⟩)
   .exact .inr q
 .rcases e2
def Aa(i:Nat):Ae->Option D:=λρ=>(ρ[i]?).join
nonrec def fC(d:D):Ae->Option D:=λ_=>some d
def vH{ρ:Ae}{i:Nat}(h:(ρ[i]?).join=some d):ρ[i]?=some cK_:=by
 cases z:ρ[i]? with
 |none=>rw[z]at h;rcases h
 |some o=>rw[z]at h;exact congrArg some h
def aA(i:Nat){x:Str}(hi:aM!:=by decide)(hN:ac_:=by rfl)(hv:cu!:=by first|exact Or.inl rfl|exact Or.inr h!|exact Or.inr a9!)(hd:y_:=by decide)
  (bz:cu_:=by decide):DE X own cv! cL_:=
 eE it! λZ G H Q ρ d er e k=>by obtain⟨v,Y,h2⟩:=er.at_ i d (vH e) hi;exact⟨v,Y,k v G H f2_ h2⟩
def b6t(h:hd_)(ht:∀Z H Q,Q v H->t Z H Q)(r:∀H,Ao X.K H d v):DE X own e (fC d):=
 eE h λZ G H Q ρ d' er e' k=>by
  rcases e';exact ht Z H Q (k v G H f2_ (r G))
def aD:DE X own qn_ mD!:=b6t b3a f3! λ_=>Ao.int
def aR:DE X own (.Constant im_ j pos) (fC im_):=b6t b2u f3! λ_=>Ao.str
def fG:DE X own (.Constant (.bool i) j pos) (fC (.bl i)):=b6t c7b f3! λ_=>Ao.bl
def dU:DE X own qo_ bP!:=b6t c3r f3! λ_=>Ao.non
def c1c(hg:G_)(hm:X.mg x=some c2!)(hd:y_:=by decide):DE X own cv! mD!:=
 b6t (b9g (v:=V.int i) hg hm dw! hd) f3! λ_=>Ao.int
nonrec def f2(g:f3_)(fa fb:j!):Ae->Option D:=λρ=>(f4!).bind λx=>(it_).bind λy=>g x y
def Fu(KF:zM!)(r:R2)(g:f3_):Prop:=∀{x y:V} {dx dy d:D} {G H:Hp} {Q:VK},At G H->Ao KF G dx x->Ao KF G dy y->g dx dy=some d->iu!->r x y H Q
def two(hg:dA!)(er:OR X.K own G H Z ρ)(e:f2 g fa fb ρ=some d)(k:∀v G' H',Bn G H G' H'->Ao X.K G' d v->Q v H'):
  BE r (tD X.K own fa) (tD X.K own fb) Z H Q:=by
 unfold f2 at e;show"!;";obtain⟨y,e2,e⟩:=HQ.mp e;exact⟨G,ρ,x,er,e1,λu G1 H1 s1 r1=>⟨G1,ρ,y,cM!,e2,λw G2 H2 s2 r2=>hg s2.sub eE_ r2 e λv G' H' s3 r3=>k v G' H' (s1.trans eF!) r3⟩⟩
def bR(ho:k0!)(hg:dA!)(ha:N_)(hb:ce!):DE X own k0_ iu_:=
 eE vl! λZ G H Q ρ d er e k=>two hg er e k
def fQ(ho:bF!)(hg:dA!)(ha:N_)(hb:ce!)(hm:ec_):DE X own ed! iu_:=
 eE vl_ λZ G H Q ρ d er e k=>two hg er e k
def aN(hr:Vm X r)(hg:dA!)(ha:N_)(hb:ce!)(hs:Nk b):DE X own lW! iu_:=
 eE vm! λZ G H Q ρ d er e k=>two hg er e k
nonrec def fT(f:j!):Ae->Option Bool:=λρ=>(V_).bind λd=>match d with|.bl b=>some b|_=>none
def jH{b:Bool}(h:fT f ρ=some b):f ρ=some a4!:=by unfold fT at h;obtain⟨d,e,h⟩:=HQ.mp h;cases d<;>first|(rcases h;exact e)|cases h
def bH(ho:bF!)(hg:dA!)(ha:N_)(hb:ce!)(hm:ec_):DT X own ed! (fT iu_):=
 sX vm_ λZ G H Q ρ d er e k=>two hg er (jH e) λv G' H' s' r'=>by
  obtain rfl:=dA r';exact vn_
def fB(h:cN!)(he:he!:=by intro _;rfl):DT X own e (fT f):=
 sX vo! λZ G H Q ρ d er e k=>⟨G,ρ,.bl d,er,jH e,λv G' H' s' r'=>by
  obtain rfl:=dA r';exact vn_⟩
def BJ:D->Option Bool
 |.lst xs=>some (! dc!)
 |.tup xs=>some (! dc!)
 |.bl b=>some b
 |.int i=>some fC_
 |.non=>some false
 |_=>none
def pX{KF:zM!}(h:cb!):(!ds.isEmpty)=!vs.isEmpty:=by have:=aG h;cases ds<;>cases vs<;>simp_all
def b6h(h:cN!)(he:he!:=by intro _;rfl):DT X own e (λρ=>(V_).bind BJ):=
 sX (b2g h.ok he) λZ G H Q ρ b er e k=>by
  obtain⟨d,e1,e2⟩:=HQ.mp e;refine⟨G,ρ,d,er,e1,λv G' H' s' r'=>⟨b,?_,mE_⟩⟩;cases d with
  |non=>cases eV r';rcases e2;exact(rfl:false=false)
  |bl x=>cases dA r';rcases e2;exact rfl
  |int i=>cases aU r';rcases e2;exact(rfl:fC_=fC_)
  |str x=>cases e2
  |fn a=>cases e2
  |dk a=>cases e2
  |tup xs=>
   obtain⟨a,vs,e3,q,r3⟩:=bD r';subst e3;rcases e2;exact .inr (.inl ⟨vs,bK s'.sub q,pX r3⟩)
  |lst xs=>
   obtain⟨a,vs,e3,q,r3⟩:=bJ r';subst e3;rcases e2;exact .inl ⟨vs,s'.sub.seq q,pX r3⟩
def Mi(ft fu:aV_):Ae->Option Bool:=λρ=>(f5!).bind λb=>if b then fu ρ else some false
def Wx(ft fu:aV_):Ae->Option Bool:=λρ=>(f5!).bind λb=>if b then some true else fu ρ
def Cp(ft:aV_):Ae->Option Bool:=λρ=>(f5!).map (!·)
variable{rest:List Expr}
def yZ(h:f5_):DW X own kG! ft:=vo_
def pJ(h:f5_):DW X own kG_ ft:=vp!
def a4s(ha:f5_)(hb:DW X own d3! fu):DW X own d3_ (Mi ft fu):=
 c2m vp_ λZ G H Q ρ d er e k=>by
  obtain⟨x,e1,e⟩:=HQ.mp e;refine mH!;cases x with
  |true=>exact jR vq!
  |false=>cases e;exact jS vq_
def vQ(ha:f5_)(hb:DW X own d4_ fu):DW X own d5! (Wx ft fu):=
 c2m vr_ λZ G H Q ρ d er e k=>by
  obtain⟨x,e1,e⟩:=HQ.mp e;refine mH!;cases x with
  |false=>exact jS vq!
  |true=>cases e;exact jR vq_
def zA(h:DW X own e ft):DT X own e ft:=vs!
def fP(h:f5_):DT X own fr_ (Cp ft):=
 sX (b2h h.ok) λZ G H Q ρ d er e k=>by
  obtain⟨x,e1,rfl⟩:=IA.mp e;exact⟨G,ρ,x,er,e1,λG1 H1 s1=>k G1 H1 s1⟩
def He(fa fb:j!):Ae->Option D:=λρ=>(mK_).bind λb=>if b then fb ρ else some af_
def Lm(fa fb:j!):Ae->Option D:=λρ=>(mK_).bind λb=>if b then some v! else fb ρ
def Zj(fa:j!):Ae->Option D:=λρ=>(mK_).map λb=>.bl (!b)
def gE(h:N_):DE X own kI! fa:=vt!
def jK(ha:N_)(hb:DE X own d3! fb):DE X own d3_ (He fa fb):=
 eE vt_ λZ G H Q ρ d er e k=>by
  obtain⟨x,e1,e⟩:=HQ.mp e;refine mL_;obtain rfl:=dA r1;refine ix!;cases x with
  |true=>exact jR ix_
  |false=>cases e;exact jS vv!
def vU(ha:N_)(hb:DE X own d4_ fb):DE X own d5! (Lm fa fb):=
 eE vv_ λZ G H Q ρ d er e k=>by
  obtain⟨x,e1,e⟩:=HQ.mp e;refine mL_;obtain rfl:=dA r1;refine ix!;cases x with
  |false=>exact jS ix_
  |true=>cases e;exact jR vv!
def c5p(ha:N_):DE X own fr_ (Zj fa):=
 eE (c3q ha.ok) λZ G H Q ρ d er e k=>by
  obtain⟨x,e1,rfl⟩:=IA.mp e;refine mL_;obtain rfl:=dA r1;exact⟨x,rfl,vw!⟩
def Xi(ft:aV_)(fa fb:j!):Ae->Option D:=λρ=>(f5!).bind λb=>if b then fa ρ else fb ρ
def b6r(hc:vw_)(ha:N_)(hb:ce!):DE X own kI_ (Xi ft fa fb):=
 eE vx! λZ G H Q ρ d er e k=>by
  obtain⟨x,e1,e⟩:=HQ.mp e;refine mH!;cases x with
  |true=>exact jR ix_
  |false=>exact jS ix_
nonrec def f3(g h:f3_)(fa fb fc:j!):Ae->Option D:=λρ=>(f4!).bind λx=>(it_).bind λy=>(g x y).bind λz=>match z with
 |.bl true=>(fc ρ).bind λw=>h y w
 |.bl false=>some af_
 |_=>none
def Ah:Ae->Option aD!:=λ_=>some []
def Ad(f:j!)(fs:aV!):Ae->Option aD!:=λρ=>(V_).bind λd=>(eG!).bind λds=>some dy!
def aO:DA X own [] Ah:=b6u fK λZ G H Q ρ d er e k=>by
 rcases e;exact k [] G H f2_ Ak.nil
def aI(h:cN!)(hs:iz!)(bc:Y!:=by rfl):DA X own aq! (Ad f fs):=
 b6u vx_ λZ G H Q ρ d er e' k=>by
  obtain⟨x,e1,e'⟩:=HQ.mp e';obtain⟨xs,e2,e'⟩:=HQ.mp e';rcases e';exact⟨G,ρ,x,er,e1,λv G1 H1 s1 r1=>⟨G1,ρ,xs,cM!,e2,λvs G2 H2 s2 r2=>k _ G2 H2 dB! (Ak.cons eE_ r2)⟩⟩
def Ci(fs:aV!):Ae->Option D:=λρ=>(eG!).bind λds=>if g_<=1000 then some dx_ else none
def Me(fs:aV!):Ae->Option D:=λρ=>(eG!).bind λds=>if g_<=1000 then some bm! else none
def eG(h:n<=1000):n<=sizeLine:=NN (a8p h)
protected def eI(h:iz!):DE X own sf! (Ci fs):=
 eE (b2t h.ok) λZ G H Q ρ d er e k=>by
  show"!i"
  .show"!L";refine⟨G,ρ,ds,er,e1,λvs G1 H1 s1 r1=>⟨vy!,λp hp=>k _ _ _ vy_ (fE vz! r1)⟩⟩
  .rcases e
protected def pK(h:iz!):DE X own hJ! (Me fs):=
 eE iz_ λZ G H Q ρ d er e k=>by
  show"!i"
  .show"!L";refine⟨G,ρ,ds,er,e1,λvs G1 H1 s1 r1=>⟨vy!,λp hp=>k _ _ _ vy_ (cP vz! r1)⟩⟩
  .rcases e
def Sg(KF:zM!)(r:fz_)(g:bP_):Prop:=∀{vs:r_} {ds:d!} {d:D} {G H:Hp} {Q:VK},At G H->Ak KF G ds vs->g ds=some d->iu!->r vs H Q
nonrec def f1(g:bP_)(fs:aV!):Ae->Option D:=λρ=>(eG!).bind g
def bM{id:String}(hc:lG_)(hd:Sg X.K r g)(hg:G_)(hm:cv_)(hv:lH!)(ha:iA!)(hn:cw!:=by decide)
  (a8:y_:=by decide)(he:Y!:=by rfl)(a7:au!:=by rfl):DE X own aT! mM!:=
 eE vA! λZ G H Q ρ d er e' k=>by
  obtain⟨ds,e1,e'⟩:=HQ.mp e';exact⟨G,ρ,ds,er,e1,λvs G1 H1 s1 r1=>hd s1.sub r1 e' λv G2 H2 s2 r2=>k v G2 H2 dB! r2⟩
def Zc(KF:zM!)(n:Nat)(g:bP_):Sp:=λvs H Q _=>aR_=n/\∃G ds d,At G H/\Ak KF G ds vs/\g ds=some d/\∀v G' H',Bn G H G' H'->Ao KF G' d v->Q v H'
def c1f(F:Eb X.prog X.w X.K X.mg X.base Ng k ag fd ps vA_)(hr:aL!)(hg:G_)(hm:X.mg x=some aW!)(hk:W.keepIn X.K aW!=true)
  (hb:iA_)(ha:iA!)(hn:vB!:=by rfl)(ay:vB_)
  (a8:y_:=by decide)(he:Y!:=by rfl)(a7:au!:=by rfl):
  DE X own aT! mM!:=
 eE (wR F hr hg hm hk hb .nil pQ ha.ok a8 he a7) λZ G H Q ρ d er e' k=>by
  obtain⟨ds,e1,e'⟩:=HQ.mp e';refine⟨G,ρ,ds,er,e1,λvs G1 H1 s1 r1=>?_⟩;rw[JC];exact⟨by rw[<-aG r1];exact ay ρ ds e1,G1,ds,d,s1.sub,r1,e',vu_⟩
end
def bU(h:Ah ρ=some ds):g_=0:=by rcases h;rfl
def aX(hf:vC!):∀(ρ:Ae) (ds:d!),Ad f fs ρ=some ds->g_=n+1:=λρ ds e=>by
 show"!;";obtain⟨xs,e2,e⟩:=HQ.mp e;rcases e;rw[IW,hf ρ xs e2]
def lV(p:PlainL h a its):∃n sl,h.get? a=some {cls:=.type "list",dict:=none,data:=.seq its n,slots:=sl}:=by obtain⟨⟨cls,dd,data,sl⟩,n,e,Y,h2,h3⟩:=p;simp only at Y h2 h3;subst Y h2 h3;exact⟨n,sl,e⟩
section
variable{X:Cx}
def Zf(KF:zM!):R2:=λx y H Q=>∃l b xs zs,x=.ref l/\y=.ref b/\Eh KF H l xs/\Eh KF H b zs/\f_+zs.length<=sizeLine/\∀p,H p=none->Q b3! (upd H p tF!)
def b9m:Fc X eb! (Zf X.K):=by
 intro J s Z H x y v u Q I rx ry h;obtain⟨l,b,xs,zs,rfl,rfl,hH,hB,hz,q⟩:=h;subst rx;subst ry;obtain⟨its,r,pl,z⟩:=I.list hH;obtain⟨gc,r2,VY,z2⟩:=I.list hB;obtain⟨n,sl,e⟩:=lV pl;obtain⟨n2,f7,e2⟩:=lV VY;have Y:=ay_;have h2:=r2.length;refine concat_meets dv_ ⟨_,e2,rfl⟩ PySem.noFill_list_add PySem.seq_list_add PySem.F.slot_list_add PySem.F.entry_list_add (PySem.F.args_list_add_2 _ _)
  (list_addW l b its.toArray gc.toArray n n2 none none sl f7 mN!) tH!
 have ea:aO_++gc.toArray=(its++gc).toArray:=by simp
 rw[ea];exact⟨.ref _,_,I.lnew tI! mN_,rfl,q _ I.fresh⟩
def Wh(KF:zM!):R2:=λx y H Q=>∃a b ys,x=.ref a/\y=.ref b/\Ex KF H a []/\Ex KF H b ys/\Q dp! H
def b3k:Fc X eb! (Wh X.K):=by
 intro J s Z H x y v u Q I rx ry h;obtain⟨a,b,ys,rfl,rfl,ha,hb,q⟩:=h;subst rx;subst ry;obtain⟨its,r1,p1,_⟩:=I.tuple ha;obtain⟨gc,r2,p2,_⟩:=I.tuple hb;obtain⟨⟨cls,dd,data,sl⟩,ho,hc,n,hd⟩:=id p1;obtain⟨⟨zf,k9,data2,f7⟩,jg,ir,n2,jh⟩:=id p2;simp only at hc hd ir jh;subst hc hd ir jh;have e0:=r1.nil_iff.mpr rfl;exact concat_meets hU! hU_ noFill_tuple_add seq_tuple_add QQ QM lo_
  (tuple_addW0 a b its.toArray gc.toArray n n2 dd k9 sl f7 (by simp[e0])) ⟨ho,jg,⟨.ref b,H,I,rfl,q⟩⟩
abbrev big:Nat:=100000
def cF(h:n<=big):n<=sizeLine:=JG h vC_
def Bv:D->D->Option D
 |.int i,.int j=>some (.int (i+j))
 |.str x,.str y=>if cB_+b0!<=big then some (.str (x++y))else none
 |.tup xs,.tup ys=>if f_+ad_<=big then some (.tup dY_)else none
 |.lst xs,.lst ys=>if f_+ad_<=big then some (.lst dY_)else none
 |_,_=>none
def Qa(KF:zM!):R2:=λx y H Q=>Pz (λi j=>.int (i+j)) x y H Q\/((∃i j,x=.str i/\y=.str j/\i.length+j.length<=sizeLine/\Q rK! H)\/(Ze KF x y H Q\/(Wh KF x y H Q\/Zf KF x y H Q)))
def aZ:Fc X eb! (Qa X.K):=c3z.or (a3k.or (b9l.or (b3k.or b9m)))
protected def dZ{KF:zM!}:Fu KF (Qa KF) Bv:=by
 show"!2";unfold Bv at e;show"!8"
 .show"!>";exact .inl ⟨_,_,rfl,rfl,dC_⟩
 .show"!n";show"!8"
  .show"!L";exact .inr (.inl ⟨_,_,rfl,rfl,cF hl,vD_⟩)
  .rcases e
 .show"!S";obtain⟨b,ws,rfl,qb,rb⟩:=bD ry;show"!8"
  .show"!L";have l1:=aG ra;have l2:=aG rb;by_cases hv:vs=[]
   .subst hv;refine .inr (.inr (.inr (.inl ⟨a,b,ws,rfl,rfl,iB!,mO!,k _ G H aN! ?_⟩)));have:(_:d!)=[]:=OU.mp l1;rw[this,LN];exact Ao.tup qb rb
   .refine .inr (.inr (.inl ⟨a,b,vs,ws,rfl,rfl,iB!,mO!,hv,by rw[<-l1,<-l2];exact cF hl,λhw=>?_,λhw p hp=>?_⟩))
    .subst hw;have:(_:d!)=[]:=OU.mp l2;refine k _ G H aN! ?_;rw[this,JC];exact Ao.tup qa ra
    .exact k _ _ _ iB_ (fE f6_ (cG ra rb))
  .rcases e
 .show"!u";obtain⟨b,ws,rfl,qb,rb⟩:=bJ ry;show"!8"
  .show"!L";exact .inr (.inr (.inr (.inr ⟨a,b,vs,ws,rfl,rfl,sub.seq qa,sub.seq qb,by rw[<-aG ra,<-aG rb];exact cF hl,λp hp=>k _ _ _ iB_ (cP f6_ (cG ra rb))⟩)))
  .rcases e
 .rcases e
def Pd(c:rp_)(g:vF!):D->D->Option D
 |.int i,.int j=>if c i j=true then some a5! else none
 |_,_=>none
def xJ{KF:zM!}(hc:∀i j,c i j=true->C i j)(hg:vF_):Fu KF (rI C gv) (Pd c g):=by
 show"!2";unfold Pd at e;show"!8"
 .obtain rfl:=aU rx;obtain rfl:=aU ry;show"!8"
  .rename_i h;rcases e;exact⟨_,_,rfl,rfl,hc _ _ h,vG_⟩
  .rcases e
 .rcases e
def Gn(g:vF!):D->D->Option D
 |.int i,.int j=>some a5!
 |_,_=>none
def qG{KF:zM!}(hg:vF_):Fu KF (Pz gv) (Gn g):=by
 show"!2";unfold Gn at e;show"!8"
 .show"!>";exact⟨_,_,rfl,rfl,vG_⟩
 .rcases e
def Iq:D->D->Option D:=Gn λi j=>.int (i - j)
def rR{KF:zM!}:Fu KF rr_ Iq:=qG λ_ _ _=>Ao.int
def Uf(i j:Int):Bool:=(decide (-fA_<i)&&decide (i<2 ^ 64))||(decide (-fA_<j)&&decide (j<2 ^ 64))
def c4e{KF:zM!}:Fu KF k2! (Pd Uf λi j=>.int (i*j)):=xJ (λi j h=>by
 unfold Uf at h;simp only[Bool.or_eq_true,JD,IZ]at h;exact h) λ_ _ _=>Ao.int
def c4f{KF:zM!}:Fu KF k3_ (Pd vH_ λi j=>.int (i%j)):=xJ (λi j h=>by simpa using h) λ_ _ _=>Ao.int
def b9s{KF:zM!}:Fu KF k2_ (Pd vI_ λi j=>.int fB!):=xJ (λi j h=>by
 simp only[JD,IZ]at h;exact h) λ_ _ _=>Ao.int
def c4d{KF:zM!}:Fu KF k4! (Pd vJ! λi j=>.int k4_):=xJ (λi j h=>by
 simp only[JD,IZ]at h;exact⟨h.1.1,h.1.2,h.2⟩) λ_ _ _=>Ao.int
def c7k{KF:zM!}:Fu KF k7_ (Gn λi j=>.bl k7!):=qG λ_ _ _=>Ao.bl
def c7l{KF:zM!}:Fu KF la! (Gn λi j=>.bl k9_):=qG λ_ _ _=>Ao.bl
def c7m{KF:zM!}:Fu KF lb! (Gn λi j=>.bl la_):=qG λ_ _ _=>Ao.bl
def Pi(x y:Str):Bool:=!decide (y.cps.toList<x.cps.toList)
def a9h:Fc X k8! (λx y H Q=>∃i j,x=.str i/\y=.str j/\Q vK! H):=by intro J s Z H x y v u Q I rx ry h;obtain⟨i,j,rfl,rfl,q⟩:=h;obtain⟨t,rfl⟩:=rx;obtain⟨t',rfl⟩:=ry;exact PySem.P.le_str (eA I q rfl)
def Jl:D->Bool
 |.non=>true
 |_=>false
def Oi:D->D->Option D
 |x,.non=>some (.bl (Jl x))
 |_,_=>none
def uM{KF:zM!}(r:Ao KF H d x):decide (x=V.non)=Jl d:=by
 cases d with
 |non=>cases eV r;rfl
 |bl b=>cases dA r;rfl
 |int b=>cases aU r;rfl
 |str b=>cases cB r;rfl
 |tup b=>obtain⟨a,vs,rfl,_⟩:=bD r;rfl
 |lst b=>obtain⟨a,vs,rfl,_⟩:=bJ r;rfl
 |fn b=>cases fJ r;rfl
 |dk b=>obtain⟨a,rfl,_⟩:=c3d r;rfl
def a3s{KF:zM!}:Fu KF rB_ Oi:=by
 show"!2";unfold Oi at e;show"!8"
 .show"!b"
 .rcases e
def Du:D->D->Option D
 |x,.non=>some (.bl (!Jl x))
 |_,_=>none
def xI{KF:zM!}:Fu KF rD! Du:=by
 show"!2";unfold Du at e;show"!8"
 .show"!b"
 .rcases e
def Al:D->D->Option D
 |.tup xs,.int i=>Fj xs i
 |.lst xs,.int i=>Fj xs i
 |.str x,.int i=>if cB_<=big then(Fj x.cps.toList i).map λc=>.str Y_ else none
 |_,_=>none
def mS{KF:zM!}(r:cb!)(h:Fj ds i=some d):∃v,Fj vs i=some v/\Ao KF H d v:=by unfold Fj at h ⊢;obtain⟨j,Y,h2⟩:=HQ.mp h;obtain⟨v,h3,h4⟩:=gA r h2;exact⟨v,HQ.mpr ⟨j,by rw[<-aG r];exact Y,h3⟩,h4⟩
def aM{KF:zM!}:Fu KF (FD KF) Al:=by
 show"!2";unfold Al at e;show"!8"
 .show"!S";show"#<";exact .inr (.inl ⟨a,vs,_,v,rfl,rfl,iB!,Y,vK_⟩)
 .show"!u";show"#<";exact .inl ⟨a,vs,_,v,rfl,rfl,sub.seq qa,Y,vK_⟩
 .obtain rfl:=cB rx;obtain rfl:=aU ry;show"!8"
  .rename_i hl;obtain⟨c,Y,rfl⟩:=IA.mp e;exact .inr (.inr ⟨_,_,c,rfl,rfl,cF hl,Y,vD_⟩)
  .rcases e
 .rcases e
def Tp(xs:R_)(lo hi:an_):List α:=(ta!).take lS!
def a0i{KF:zM!}(r:cb!)(lo hi:an_):Ak KF H (Tp ds lo hi) (Rx vs lo hi):=by unfold Tp Rx;rw[aG r];exact oK _ (oM _ r)
end
section
variable{X:Cx}{own:List Nat}{e a b c:Expr}{es:List Expr}{pos p2:Pos}{f fa fb fc:Ae->Option D}{fs:Ae->Option (List D)}{ft fu:Ae->Option Bool}{ol oh:Ae->Option (Option Int)}
inductive Zs(KF:zM!)(own:n!)(o:mR!)(Z:St)(H:Hp)(Q:s5!):Prop
 |mk (G:Hp) (ρ:Ae) (i:an_) (r:bO!) (e:o ρ=some i) (k:∀G' H',Bn G H G' H'->Q i H'):Zs KF own o Z H Q
def Cm:Ae->Option mQ_:=λ_=>some none
def Bi(f:j!):Ae->Option mQ_:=λρ=>(V_).bind λd=>match d with|.int i=>some h0!|_=>none
def eX:PO X none (Zs X.K own Cm):=by rintro J s Z H Q I ⟨G,ρ,i,er,e,k⟩;rcases e;exact b8z J s Z H Q I (k G H f2_)
def eC(h:cN!):PO X kN! (Zs X.K own (Bi f)):=by
 rintro J s Z H Q I ⟨G,ρ,i,er,e',k⟩;obtain⟨d,e1,e2⟩:=HQ.mp e';refine b8y h.ok J s Z H Q I ⟨G,ρ,d,er,e1,λv G' H' s' r'=>?_⟩;cases d<;>first
  |cases e2
  |skip
 obtain rfl:=aU r';exact⟨_,rfl,mE_⟩
def Ia:D->Option Int->Option Int->Option D
 |.tup xs,lo,hi=>if HT.sIx xs.length 0 lo=0/\HT.sIx xs.length xs.length hi=f_ then none else some (.tup vM!)
 |.lst xs,lo,hi=>some (.lst vM!)
 |_,_,_=>none
def Lq(f:j!)(ol oh:mR!):Ae->Option D:=λρ=>(V_).bind λd=>(ol ρ).bind λl=>(oh ρ).bind λh=>Ia d l h
def eJ{lo hi:Option Expr}(ha:N_)(hl:vN!)(hh:vN_):DE X own mR_ (Lq fa ol oh):=
 eE (b2v (Zm.or c2w b8g) ha.ok hl hh) λZ G H Q ρ d er e k=>by
  show"!;";show"!?";have sub:=s4.sub;unfold Ia at e;show"!8"
  .show"!8"
   .rcases e
   .rename_i hw;rcases e;obtain⟨p,vs,rfl,q,rr⟩:=bD r3;refine .inl ⟨p,vs,rfl,bK sub q,?_,λp hp=>k _ _ _ vP! (fE f6_ vP_)⟩;rw[<-aG rr];exact hw
  .rcases e;obtain⟨p,vs,rfl,q,rr⟩:=bJ r3;exact .inr ⟨p,vs,rfl,mS_,λp hp=>k _ _ _ vP! (cP f6_ vP_)⟩
  .rcases e
def GA:D->Value
 |.non=>.type "NoneType"
 |.bl _=>.type "bool"
 |.int _=>.type "int"
 |.str _=>.type "str"
 |.tup _=>.type "tuple"
 |.lst _=>.type "list"
 |.fn _=>.none
 |.dk _=>.none
def FE(KF:zM!)(T:String):List V->Hp->VK->Prop:=λxs H Q=>∃x d b,xs=[x,.ty T]/\Ao KF H d x/\W.kitOne KF (GA d) do_=some b/\(∀a,d≠.fn a)/\(∀a,d≠.dk a)/\Q a4! H
def b7g:Hv X mT_ (FE X.K T):=by
 intro J s Z H xs us Q I r h;obtain⟨x,d,b,rfl,rx,e,hf,VZ,q⟩:=h;obtain⟨u,w',rfl,r1,r2⟩:=zR r;subst r2;have fin:∀tk,EP X J Z Q kF! {s with toks:=tk}:=λtk=>⟨.bl b,H,I.tok tk,rfl,q⟩;cases d with
 |non=>cases eV rx;subst r1;exact SH W.kitx_none I.kIn True.intro e eI_ fin
 |bl y=>cases dA rx;subst r1;exact SH W.kitx_bool I.kIn True.intro e eI_ fin
 |int y=>cases aU rx;obtain⟨t,rfl⟩:=r1;exact SH W.kitx_int I.kIn True.intro e eI_ fin
 |str y=>cases cB rx;obtain⟨t,rfl⟩:=r1;exact SH W.kitx_str I.kIn True.intro e eI_ fin
 |tup ys=>
  show"!S";subst r1;obtain⟨its,_,⟨o,Y,h2,_⟩,_⟩:=I.tuple qa;exact SH W.kitx_tuple I.kIn mU! e eI_ fin
 |lst ys=>
  show"!u";subst r1;obtain⟨its,_,pl,_⟩:=I.list qa;obtain⟨o,n,Y,h2,_⟩:=pl;exact SH W.kitx_list I.kIn mU! e eI_ fin
 |fn a=>exact absurd rfl (hf a)
 |dk a=>exact absurd rfl (VZ a)
def CQ(T:String):D->Option Bool
 |.non=>some (T=="NoneType")
 |.bl _=>some (T=="bool"||T=="int")
 |.int _=>some (T=="int")
 |.str _=>some (T=="str")
 |.tup _=>some (T=="tuple")
 |.lst _=>some (T=="list")
 |.fn _=>none
 |.dk _=>none
structure Xc(KF:zM!)(T:String):Prop where
 ok:∀d b,CQ T d=some b->W.kitOne KF (GA d) do_=some b
def yF:W.kitOne [] iE! bq_=some ("int"=="NoneType"):=by decide+kernel
def a1h:W.kitOne [] br! bq_=some ("int"=="bool"||"int"=="int"):=by decide+kernel
def yJ:W.kitOne [] bq_ bq_=some ("int"=="int"):=by decide+kernel
def yD:W.kitOne [] br_ bq_=some ("int"=="str"):=by decide+kernel
def yB:W.kitOne [] aX! bq_=some ("int"=="tuple"):=by decide+kernel
def yH:W.kitOne [] dt_ bq_=some ("int"=="list"):=by decide+kernel
def c0l{KF:zM!}:Xc KF "int":=⟨λd b h=>match d,b,h with
 |.non,b,h=>by rcases h;exact yF
 |.bl _,b,h=>by rcases h;exact a1h
 |.int _,b,h=>by rcases h;exact yJ
 |.str _,b,h=>by rcases h;exact yD
 |.tup _,b,h=>by rcases h;exact yB
 |.lst _,b,h=>by rcases h;exact yH
 |.fn _,b,h=>by rcases h
 |.dk _,b,h=>by rcases h⟩
def tW:W.kitOne [] iE! br!=some ("bool"=="NoneType"):=by decide+kernel
def yK:W.kitOne [] br! br!=some ("bool"=="bool"||"bool"=="int"):=by decide+kernel
def tY:W.kitOne [] bq_ br!=some ("bool"=="int"):=by decide+kernel
def tV:W.kitOne [] br_ br!=some ("bool"=="str"):=by decide+kernel
def tU:W.kitOne [] aX! br!=some ("bool"=="tuple"):=by decide+kernel
def tX:W.kitOne [] dt_ br!=some ("bool"=="list"):=by decide+kernel
def b5f{KF:zM!}:Xc KF "bool":=⟨λd b h=>match d,b,h with
 |.non,b,h=>by rcases h;exact tW
 |.bl _,b,h=>by rcases h;exact yK
 |.int _,b,h=>by rcases h;exact tY
 |.str _,b,h=>by rcases h;exact tV
 |.tup _,b,h=>by rcases h;exact tU
 |.lst _,b,h=>by rcases h;exact tX
 |.fn _,b,h=>by rcases h
 |.dk _,b,h=>by rcases h⟩
def yE:W.kitOne [] iE! br_=some ("str"=="NoneType"):=by decide+kernel
def a1g:W.kitOne [] br! br_=some ("str"=="bool"||"str"=="int"):=by decide+kernel
def yI:W.kitOne [] bq_ br_=some ("str"=="int"):=by decide+kernel
def yC:W.kitOne [] br_ br_=some ("str"=="str"):=by decide+kernel
def yA:W.kitOne [] aX! br_=some ("str"=="tuple"):=by decide+kernel
def yG:W.kitOne [] dt_ br_=some ("str"=="list"):=by decide+kernel
def a7m{KF:zM!}:Xc KF "str":=⟨λd b h=>match d,b,h with
 |.non,b,h=>by rcases h;exact yE
 |.bl _,b,h=>by rcases h;exact a1g
 |.int _,b,h=>by rcases h;exact yI
 |.str _,b,h=>by rcases h;exact yC
 |.tup _,b,h=>by rcases h;exact yA
 |.lst _,b,h=>by rcases h;exact yG
 |.fn _,b,h=>by rcases h
 |.dk _,b,h=>by rcases h⟩
def sC:W.kitOne [] iE! aX!=some ("tuple"=="NoneType"):=by decide+kernel
def tZ:W.kitOne [] br! aX!=some ("tuple"=="bool"||"tuple"=="int"):=by decide+kernel
def sE:W.kitOne [] bq_ aX!=some ("tuple"=="int"):=by decide+kernel
def sB:W.kitOne [] br_ aX!=some ("tuple"=="str"):=by decide+kernel
def sA:W.kitOne [] aX! aX!=some ("tuple"=="tuple"):=by decide+kernel
def sD:W.kitOne [] dt_ aX!=some ("tuple"=="list"):=by decide+kernel
def lI{KF:zM!}:Xc KF "tuple":=⟨λd b h=>match d,b,h with
 |.non,b,h=>by rcases h;exact sC
 |.bl _,b,h=>by rcases h;exact tZ
 |.int _,b,h=>by rcases h;exact sE
 |.str _,b,h=>by rcases h;exact sB
 |.tup _,b,h=>by rcases h;exact sA
 |.lst _,b,h=>by rcases h;exact sD
 |.fn _,b,h=>by rcases h
 |.dk _,b,h=>by rcases h⟩
def Mf(T:String)(f:j!):Ae->Option D:=λρ=>(V_).bind λd=>(CQ T d).map D.bl
def kQ(ht:Xc X.K T)(hg:Gl X "isinstance")(hm:X.mg "isinstance"=none)(wm:G_)(wp:cv_)(hv:bootBuiltins "isinstance"=some mT_)(WB:lI!)(ha:N_)
  (gw:cw!:=by decide)(jh:y_:=by decide)
  (he:starEach [a,iF!] X.env=c9_::starEach eJ! X.env:=by rfl)(m8:starEach eJ! X.env=(false,eval eJ_ X.env)::starEach [] X.env:=by rfl)
  (a7:(backTo pos (starEach eJ! X.env)).any c_=false:=by rfl):DE X own (.Call (.Name "isinstance" p) [a,iF!] [] pos) (Mf T fa):=
 eE (rE b7g hg hm hv (dB ha.ok (dB (b9h (v:=V.ty T) wm wp WB rfl gw jh) fK m8) he) a_ a_ he a7) λZ G H Q ρ d er e k=>by
  show"!;";obtain⟨b,e2,rfl⟩:=IA.mp e;exact⟨G,ρ,x,er,e1,λv G1 H1 s1 r1=>⟨v,x,b,rfl,r1.mono s1.sub,ht.ok x b e2,vU!,vU!,vw!⟩⟩
def eS{KF:zM!}(h:Ak KF H [d] vs):∃v,vs=[v]/\Ao KF H d v:=by obtain⟨v,r,rfl,Y,h2⟩:=bB h;obtain rfl:=cK h2;exact⟨v,rfl,Y⟩
def Bm:List D->Option D
 |[.tup xs]=>some (.int f_)
 |[.lst xs]=>some (.int f_)
 |[.str x]=>if cB_<=big then some (.int cB_)else none
 |_=>none
protected def dW{KF:zM!}:Sg KF vU_ Bm:=by
 show"!_";unfold Bm at e;show"!8"
 .show"!H";obtain⟨a,ws,rfl,q,rr⟩:=bD rv;rcases e;exact⟨_,_,rfl,.inr ⟨ws,bK sub q,aG rr⟩,dC_⟩
 .show"!H";obtain⟨a,ws,rfl,q,rr⟩:=bJ rv;rcases e;exact⟨_,_,rfl,.inl ⟨ws,mS_,aG rr⟩,dC_⟩
 .show"!H";obtain rfl:=cB rv;show"!8"
  .show"!L";exact⟨_,_,rfl,⟨cF hl,rfl⟩,dC_⟩
  .rcases e
 .rcases e
def Yp:List D->Option D
 |[.int i]=>some (.int hz!)
 |_=>none
def c5u{KF:zM!}:Sg KF rL! Yp:=by
 show"!_";unfold Yp at e;show"!8"
 .show"!H";obtain rfl:=aU rv;rcases e;exact⟨_,rfl,dC_⟩
 .rcases e
def AO:List D->Option D
 |[.str x]=>if cB_=1 then some rM_ else none
 |_=>none
protected def c5t{KF:zM!}:Sg KF rN! AO:=by
 show"!_";unfold AO at e;show"!8"
 .show"!H";obtain rfl:=cB rv;show"!8"
  .show"!L";exact⟨_,rfl,hl,dC_⟩
  .rcases e
 .rcases e
def qP:∀{bs:iF_} {us:l_},Ar vW_ us->us=bs.map Value.bool
 |[],_,.nil=>rfl
 |b::bs,_,.cons r t=>by subst r;rw[qP t];rfl
def CH(KF:zM!):List V->Hp->VK->Prop:=λxs H Q=>∃(p:qT!) (bs:iF_),xs=h5_/\Eh KF H p vW_/\Q (.bl mV!) H
def b0r:∀(bs:iF_),((List.range bs.length).all λi=>(mV_).getD true)=bs.all id:=λbs=>by
 rw[MJ,MU,MU];show"!{"
 .intro h x hx;obtain⟨i,hi,rfl⟩:=LV.mp hx;have:=h i (PC.mpr hi);simpa[hi]using this
 .intro h i hi;have ez:=PC.mp hi;simpa[ez]using h bs[i] (KG ez)
def nX(hc:aq_):Hv X vX! (CH X.K):=by
 intro J s Z H xs us Q I r h;obtain⟨p,bs,rfl,hq,q⟩:=h;obtain⟨u,rfl,r1⟩:=mL r;subst r1;obtain⟨its,rv,pl,hz⟩:=I.list hq;have e:=qP rv;subst e;have hl:=pl.isList;have bd:p<i!:=by obtain⟨_,e,_⟩:=hl;exact IT e
 refine call_all_walk (wpAny_pyIter_list hl ?_);refine⟨i!,[i!,p],[i!],(iG!).toArray.size,_,_,λi=>(mV_).getD true,rfl,Walks.list (A:=X.A.in1) az! _ p (JH bd) (iG!).toArray,
  ⟨ea!,hl.push _⟩,λi v s' Q' E' hP hQ=>?_,λh' tk hk=>?_⟩
 .have zz:iG![i]?=some v:=by simpa using hP
  rw[JL]at zz;obtain⟨b,hb,rfl⟩:=IA.mp zz;simp only[hb,Option.getD_some]at hQ;exact JW hQ
 .have e:((List.range (iG!).toArray.size).all λi=>(mV_).getD true)=bs.all id:=by
   rw[HZ,IK];exact b0r bs
  rw[e];exact⟨.bl _,H,I.kept λb x ex=>hk b x (λhm=>by rw[II.mp hm]at ex;exact LL _ (IT ex)) (HU _ ex),rfl,q⟩
def Im:List D->Option (List Bool)
 |[]=>some []
 |.bl b::r=>(Im r).map (b::·)
 |_=>none
def Nc:List D->Option D
 |[.lst xs]=>(Im xs).map λbs=>.bl mV!
 |_=>none
def uN{KF:zM!}:∀{ds:d!} {vs:r_} {bs:iF_},Ak KF H ds vs->Im ds=some bs->vs=bs.map V.bl
 |[],vs,bs,r,e=>by obtain rfl:=cK r;rcases e;rfl
 |d::ds,vs,bs,r,e=>by
  obtain⟨v,t,rfl,r1,r2⟩:=bB r;cases d<;>first|cases e|skip
  obtain⟨bs',e1,rfl⟩:=IA.mp e;obtain rfl:=dA r1;rw[uN r2 e1];rfl
def zF{KF:zM!}:Sg KF (CH KF) Nc:=by
 show"!_";unfold Nc at e;show"!8"
 .show"!H";obtain⟨a,ws,rfl,q,rr⟩:=bJ rv;obtain⟨bs,e1,rfl⟩:=IA.mp e;have:=uN rr e1;subst this;exact⟨a,bs,rfl,mS_,dE!⟩
 .rcases e
end
def Ys(KF:zM!)(af:It)(ds:d!)(G1:Hp):Prop:=∀(i:Nat) (G' H':Hp),At G1 G'->At G' H'->
 v0!/\v0_
inductive GE(KF:zM!)(own:n!)(fi:aV!)(Z:St)(H:Hp)(R:ho_):Prop
 |mk (G:Hp) (ρ:Ae) (ds:d!) (o:bO!) (e:fi ρ=some ds) (k:∀af G1 H1,Bn G H G1 H1->Ys KF af ds G1->R af H1):GE KF own fi Z H R
structure DI(X:Cx)(own:n!)(tg iter:Expr)(fi:aV!):Prop where
 ok:PI X tg iter (GE X.K own fi)
section
variable{X:Cx}{own:List Nat}{e a b c tg:Expr}{es:List Expr}{pos p2:Pos}{f fa fb fc:Ae->Option D}{fs fi:Ae->Option (List D)}{ft fu:Ae->Option Bool}
def a2b(h:v1_)(hw:∀Z G H R ρ ds,OR X.K own G H Z ρ->fi ρ=some ds->(∀af G1 H1,Bn G H G1 H1->Ys X.K af ds G1->R af H1)->wi Z H R):DI X own tg e fi:=⟨by rintro J s Z H R I ⟨G,ρ,ds,er,e,k⟩;exact h J s Z H R I (hw Z G H R ρ ds er e k)⟩
def Go(f:j!):Ae->Option aD!:=λρ=>(V_).bind λd=>match d with|.lst xs=>some xs|_=>none
def FH(f:j!):Ae->Option aD!:=λρ=>(V_).bind λd=>match d with|.tup xs=>some xs|_=>none
def a1m{KF:zM!}{ad:qT!}(q:Eh KF G1 ad vs)(r:v2!):Ys KF (FU KF ad) ds G1:=by intro i G' H' s1 s2;have q':Eh KF H' ad vs:=s2.seq (s1.seq q);refine⟨dE_,λhi=>⟨vs,q',by rw[<-aG r,hi];exact IH _⟩⟩;obtain⟨v,Y,h2⟩:=gA r hd;refine⟨⟨vs,v,q',Y⟩,iH!⟩;obtain⟨e1,e2⟩:=hy;subst e1;have:=e2 vs q';rw[Y]at this;rcases this;exact⟨G',iH_,h2.mono s1⟩
def gU(h:N_):DI X own tg a (Go fa):=a2b (a6f h.ok) λZ G H R ρ ds er e k=>by
 obtain⟨d,e1,e2⟩:=HQ.mp e;cases d<;>first|cases e2|skip
 refine ga_;obtain⟨p,vs,rfl,q,rr⟩:=bJ r1;exact⟨p,rfl,⟨vs,s1.sub.seq q⟩,k _ G1 H1 s1 (a1m q rr)⟩
def Kk(n:Nat):List D:=(mZ!).map λi=>.int (i:Nat)
def Fg(f:j!):Ae->Option aD!:=λρ=>(V_).bind λd=>match d with|.int j=>if -1000<=j/\j<=100000 then some v4_ else none|_=>none
def b0b{KF:zM!}:Ys KF (EB 0 n) (Kk n) G1:=by intro i G' H' s1 s2;unfold Kk;refine v5!;rw[JL]at hd;obtain⟨j,hj,rfl⟩:=IA.mp hd;obtain⟨hl,he⟩:=IS.mp hj;rw[List.getElem_range]at he;subst he;rw[NX]at hl;refine v5_;obtain⟨e1,e2⟩:=hy;subst e1 e2;refine⟨G',iH_,?_⟩;rw[Int.zero_add];exact Ao.int
def iG(hg:hq_)(hm:hr!)(h:N_)(hs:ra!:=by rfl)(cb:iI!:=by rfl):
  DI X own tg rb! (Fg fa):=a2b (a9c hg hm (dB h.ok fK cb) hs) λZ G H R ρ ds er e k=>by
 obtain⟨d,e1,e2⟩:=HQ.mp e;cases d<;>first|cases e2|skip
 rename_i j;have e3:(if -1000<=j/\j<=100000 then some v4_ else none)=some ds:=e2;split at e3
 .rename_i hj;rcases e3;refine ga_;obtain rfl:=aU r1;exact⟨j,rfl,p_,p_,k _ G1 H1 s1 b0b⟩
 .rcases e3
def Ga(bnd:cf_)(ft:aV_)(fe:j!)(ρ:Ae):List D->Option aD!
 |[]=>some []
 |d::ds=>(mZ_).bind λau=>(ft au).bind λb=>if b then(fe au).bind λy=>(Ga bnd ft fe ρ ds).map (y::·)else Ga bnd ft fe ρ ds
def GD(KF:zM!)(g:TG)(bnd:cf_):Prop:=∀{x:V} {d:D} {Z:St} {G H:Hp} {ρ au:Ae} {Q:hk!},OR KF [] G H Z ρ->Ao KF G d x->bnd d ρ=some au->(∀bj,OR KF [] G H bj au->Le ρ au->Q bj H)->g x Z H Q
def Ba(i:Nat):D->Ae->Option Ae:=λd ρ=>match ρ[i]? with|some none=>some bn!|_=>none
def cO{KF:zM!}(i:Nat):GD KF d7! (Ba i):=by
 intro x d Z G H ρ au Q er r e k;unfold Ba at e;show"!8"
 .rename_i h;rcases e;exact k _ (er.set nofun r) ((Le.refl ρ).set h)
 .rcases e
def Oo(i j:Nat):D->Ae->Option Ae:=λd ρ=>match d with
 |.tup [x,y]=>(Ba i x ρ).bind λau=>Ba j y au
 |_=>none
def Le.trans(a:Le ρ au)(b:Le au cf):Le ρ cf:=⟨a.1.trans b.1,λi d h=>b.2 i d (a.2 i d h)⟩
def c0p{KF:zM!}(i j:Nat):GD KF v7_ (Oo i j):=by
 intro x d Z G H ρ au Q er r e k;unfold Oo at e;show"!8"
 .obtain⟨cf,e1,e2⟩:=HQ.mp e;show"!Y";show"!3";refine⟨p,[v1,v2],rfl,bK er.sub q,rfl,v1,[v2],rfl,?_⟩;refine cO i er r1 e1 λbj m9 l1=>⟨v2,[],rfl,?_⟩;exact cO j m9 r2 e2 λeg cy l2=>⟨rfl,k eg cy (l1.trans l2)⟩
 .rcases e
def Fz(nl:Nat)(ix:n!)(fi:aV!)(bnd:cf_)(ft:aV_)(fe:j!):Ae->Option D:=λρ=>(fi ρ).bind λds=>if g_<=big then(Ga bnd ft fe mz_ ds).map D.lst else none
def c5s{KF:zM!}{Fin:ct!}
  (hb:g_<=big)(gn:v9!)(hg:GD KF g bnd)(er:OR KF [] G1 H1 wu na)(e:Ga bnd ft fe na ds=some jl)(k:∀ys G' H',Bn G1 H1 G' H'->Ak KF G' jl ys->Fin ys H'):
  Ul af g (BC KF [] ft) (tD KF [] fe) Fin wu H1:=by
 refine⟨λi m ys ae H'=>i<=g_/\m=g_ - i/\∃G' ws r,Bn G1 H1 G' H'/\OR KF [] G' H' ae na/\Ak KF G' ws ys/\lL!<=i/\Ga bnd ft fe na (ds.drop i)=some r/\ws++r=jl,
  ⟨g_,JJ _,rfl,G1,[],jl,Bn.refl er.sub,er,Ak.nil,JJ _,e,rfl⟩,?_⟩
 rintro i m ys ae H' ⟨hi,rfl,G',ws,r,x,fg,az,hw,cy,et⟩;refine v9_;obtain⟨r9,se⟩:=gn i G' H' x.g fg.sub;by_cases bd:i<g_
 .right;have hd:ds[i]?=some ds[i]:=by simp[bd]
  have WC:=OG bd;rw[WC]at cy;unfold Ga at cy;obtain⟨au,e1,cy⟩:=HQ.mp cy;obtain⟨b,e2,cy⟩:=HQ.mp cy;obtain⟨go,yl⟩:=r9 _ hd;refine wa_;obtain⟨G2,x2,r2⟩:=yl v H2 hy;refine hg (fg.grow x2) r2 e1 λbj m9 sf=>⟨G2,au,b,m9,e2,λG3 H3 x3=>?_⟩;have nh:=m9.grow x3;have li:=x.trans (x2.trans x3);cases b with
  |true=>
   obtain⟨y,e3,cy⟩:=HQ.mp cy;obtain⟨zs,e4,rfl⟩:=IA.mp cy;refine jR ⟨G3,au,y,nh,e3,λu G4 H4 x4 r4=>⟨_,?_,bd,rfl,G4,ws++[y],zs,li.trans x4,(nh.grow x4).le sf,?_,?_,e4,?_⟩⟩
   .omega
   .exact cG wc_ (Ak.cons r4 Ak.nil)
   .rw[IR,LO];omega
   .rw[KH];exact et
  |false=>
   refine jS ⟨_,?_,bd,rfl,G3,ws,r,li,nh.le sf,wd_,p_,cy,et⟩;omega
 .left;have lj:i=g_:=by omega
  refine⟨se lj,k ys G' H' x ?_⟩;rw[lj,SD]at cy;rcases cy;rw[JC]at et;subst et;exact az
def qJ
  (cj:cJ!)(cg:cJ_)(j4:∀y∈bN!,y.2=.local->scope.names.lookup y.1=some .local)
  (gr:fZ!)(cap:cI_)(sh:iq_)(calm:aq_)(ar:DI X own tg iter fi)
  (hg:fZ_)(nj:m2_)(hi:∀cl C ao bo fp,Oq bN_ c9 (BC X.K [] ft))(he:∀cl C ao bo fp,DE bN_ [] d7 fe)
  (hs:da!:=by intro _;rfl):
  DE X own fX! (Fz NL.length ix fi bnd ft fe):=
 eE we_ λZ G H Q ρ d er e k=>by
  show"!i"
  .rename_i hb;obtain⟨jl,e2,rfl⟩:=IA.mp e;refine⟨G,ρ,ds,er,e1,λaf G1 H1 x1 gn=>?_⟩;refine c5s hb gn nj ((er.grow x1).cap NL.length ix sh) e2 λys G' H' x r p hp=>?_;exact k _ _ _ (x1.trans (x.trans gd!)) (cP m3! r)
  .rcases e
def a6e:Oq X [] (BC X.K [] λ_=>some true):=by rintro J s Z H Q I ⟨G,ρ,b,er,e,k⟩;rcases e;exact a0m J s Z H Q I (k G H f2_)
end
inductive Fl where
 |nx (ρ:Ae)|rt (d:D)
structure SR(KF:zM!)(own:n!)(G0 F0 G H:Hp)(Z:St)(ρ:Ae):Prop where
 or:OR KF own G H Z ρ
 ext:Bn G0 F0 G H
 fr:∀i∈own,∀p,Z[i]?=some cc!->F0 p=none
inductive EF(KF:zM!)(G0 F0:Hp)(own ce:n!)(f:dF!)(E:Qr)(Z:St)(H:Hp):Prop
 |mk (G:Hp) (ρ:Ae) (r:Fl) (o:gd_) (e:f ρ=some r) (k:match(generalizing:=false) r with
  |.nx aj=>∀G' ae H',SR KF ce G0 F0 G' H' ae aj->E.nx ae H'
  |.rt d=>∀v G' H',Bn G0 F0 G' H'->Ao KF G' d v->E.rt v H'):EF KF G0 F0 own ce f E Z H
structure DS(X:Cx)(own ce:n!)(st:Stmt)(f:dF!):Prop where
 ok:∀G0 F0,PS X st wg!
structure Zq(X:Cx)(own ce:n!)(st:d2_)(f:dF!):Prop where
 ok:∀G0 F0,Nf X st wg!
section
variable{X:Cx}{own ba g8:List Nat}{st:Stmt}{rest body:List Stmt}{e a b c tg:Expr}{es:List Expr}{pos p2:Pos}{f fa fb fc:Ae->Option D}{fs fi:Ae->Option (List D)}{ft fu:Ae->Option Bool}{q1 q2 q3:Ae->Option Fl}
def c2n(h:hi!)(hw:∀G0 F0 E Z G H ρ r,SR X.K own G0 F0 G H Z ρ->q1 ρ=some r->(match r with
  |.nx aj=>∀G' ae H',SR X.K ba G0 F0 G' H' ae aj->E.nx ae H'
  |.rt d=>∀v G' H',Bn G0 F0 G' H'->Ao X.K G' d v->E.rt v H')->t E Z H):DS X own ba st q1:=⟨by rintro G0 F0 J s Z H E I ⟨G,ρ,r,er,e,k⟩;exact h J s Z H E I (hw G0 F0 E Z G H ρ r er e k)⟩
def SR.grow{KF:zM!}(s:gd_)(x:iq!):SR KF own G0 F0 G' H' Z ρ:=⟨s.or.grow x,s.ext.trans x,s.fr⟩
def SR.set{KF:zM!}(s:gd_)(hi:aM!)(r:cc_):SR KF own G0 F0 G H d1! bn!:=
 ⟨s.or.set hi r,s.ext,λj hj p e=>by
  have ne:i≠j:=λz=>hi m4!;rw[JI ne]at e;exact s.fr j hj p e⟩
def Mx:Ae->Option Fl:=λρ=>some Z_
def Ib(q1 q2:dF!):Ae->Option Fl:=λρ=>(q1 ρ).bind λr=>match r with|.nx aj=>q2 aj|.rt d=>some ae_
def gS:Zq X own own [] Mx:=⟨by
 rintro G0 F0 J s Z H E I ⟨G,ρ,r,er,e,k⟩;rcases e;exact a6c J s Z H E I (k G Z H er)⟩
def eH(Y:wh!)(h2:Zq X ba g8 rest q2):Zq X own g8 hi_ (Ib q1 q2):=⟨by
 rintro G0 F0 J s Z H E I ⟨G,ρ,r,er,e,k⟩;refine rD m5! wi_ J s Z H E I ?_;obtain⟨r1,e1,e2⟩:=HQ.mp e;refine⟨G,ρ,r1,er,e1,?_⟩;cases r1 with
 |nx aj=>exact λG' ae H' fg=>⟨G',aj,r,fg,e2,k⟩
 |rt d=>
  rcases e2;exact k⟩
def bV(Y:wh!):Zq X own ba [st] q1:=⟨λG0 F0=>cR m5!⟩
def De(f:j!):Ae->Option Fl:=λρ=>(V_).map Fl.rt
def cI(h:cN!):DS X own ba hj_ (De f):=c2n (wQ h.ok) λG0 F0 E Z G H ρ r er e' k=>by
 obtain⟨d,e1,rfl⟩:=IA.mp e';exact⟨G,ρ,d,er.or,e1,λv G' H' x r=>k v G' H' (er.ext.trans x) r⟩
def Wb(i:Nat)(f:j!):Ae->Option Fl:=λρ=>(V_).map λd=>.nx bn!
def b6i(hN:a3!)(hi:ac_)(hx:a3_)(h:cN!)(b8:aM!:=by decide)(hs:m6!:=by rfl)
  (hf:X.fn x=true\/X.env.scope.names.lookup x=some .local:=by first|exact .inl rfl|exact .inr rfl|assumption):DS X own own wj_ (Wb i f):=
 c2n wk! λG0 F0 E Z G H ρ r er e' k=>by
  obtain⟨d,e1,rfl⟩:=IA.mp e';exact⟨G,ρ,d,er.or,e1,λv G' H' x r=>k G' _ H' ((iJ_).set b8 r)⟩
def Sx(ft:aV_)(q1 q2:dF!):Ae->Option Fl:=λρ=>(f5!).bind λb=>if b then q1 ρ else q2 ρ
def nV(hc:vw_)(Y:Zq X own ba b1 q1)(h2:Zq X own ba b2 q2):DS X own ba m7! (Sx ft q1 q2):=⟨by
 rintro G0 F0 J s Z H E I ⟨G,ρ,r,er,e',k⟩;refine b2m hc.ok m5! wi_ J s Z H E I ?_;obtain⟨x,e1,e2⟩:=HQ.mp e';refine⟨G,ρ,x,er.or,e1,λG' H' x'=>?_⟩;cases x with
 |true=>exact jR wl!
 |false=>exact jS wl!⟩
def Wc(i:Nat)(fs:aV!):Ae->Option Fl:=λρ=>(eG!).bind λds=>if g_<=1000 then some (.nx m7_)else none
def SR.ownNew{KF:zM!}(s:gd_)(hi:aM!)(hl:i<dZ_)(r:iK!)(hp:cb_):
  SR KF (i::own) G0 F0 G io_ wl_ m7_:=by
 have wv:i<ip_:=by rw[s.or.len];exact hl
 have ww:At H io_:=gX hp;show"#*";refine⟨⟨wm!,by rw[MD,MD,s.or.len],wm_,iK_,λj hj k hk a9 a b e1 e2=>?_⟩,⟨s.ext.g,s.ext.h.trans ww,wm!,s.ext.new⟩,λj hj a e=>?_⟩
 .have cz:i≠j:=λz=>n (by rw[z];exact HV);rw[dF_]at q ⊢;exact s.or.at_ j d q λz=>n (HR _ z)
 .obtain z|z:=HW.mp hj
  .subst z;exact⟨p,ds,vs,wn_,by rw[KI hl],bI,s.or.sub.free hp,r⟩
  .have cz:i≠j:=λy=>hi (y▸z);obtain⟨a,pi,f8,Y,h2,h3,h4,h5⟩:=s.or.own_ j z;exact⟨a,pi,f8,by rw[dF_];exact Y,by rw[dF_];exact h2,by rw[aS (ne h3)];exact h3,h4,h5⟩
 .have look:∀{j:Nat} {a:qT!},j∈i::own->wl_[j]?=some (some eC!)->(j=i/\a=p)\/(j≠i/\j∈own/\Z[j]?=some (some eC!)/\a≠p):=λ{j a} hj e=>by
   by_cases cz:i=j
   .subst cz;rw[KI hl]at e;cases e;exact .inl aH_
   .rw[dF_]at e;have hm:=(HW.mp hj).elim wp! id;obtain⟨a',pi,f8,Y,h2,h3,h4,h5⟩:=s.or.own_ j hm;rw[e]at h2;cases h2;exact .inr ⟨JF cz,hm,e,ne h3⟩
  obtain⟨z1,z2⟩|⟨z1,z2,z3,z4⟩:=look hj e1
  .obtain⟨y1,y2⟩|⟨y1,y2,y3,y4⟩:=look hk e2
   .exact absurd (z1.trans y1.symm) a9
   .rw[z2];exact JF y4
  .obtain⟨y1,y2⟩|⟨y1,y2,y3,y4⟩:=look hk e2
   .rw[y2];exact z4
   .exact s.or.dis j z2 k y2 a9 a b z3 y3
 .by_cases cz:i=j
  .subst cz;rw[KI hl]at e;cases e;exact s.ext.h.free hp
  .rw[dF_]at e;exact s.fr j ((HW.mp hj).elim wp! id) a e
def a4t{p3 p4:Pos}(hN:a3!)(hi:ac_)(hx:a3_)(h:iz!)(b8:aM!:=by decide)
  (hf:X.fn x=true\/X.env.scope.names.lookup x=some .local:=by first|exact .inl rfl|exact .inr rfl|assumption)(db:swapsWith m8_ (some (.Name x p3)) p4.line X.env=pure false:=by rfl):DS X own (i::own) (.Assign [.Name x p3] m8_ p4) (Wc i fs):=⟨by
  rintro G0 F0 J s Z H E I ⟨G,ρ,r,er,e',k⟩;refine wP hN hi hx iz_ db hf J s Z H E I ?_;have hl:i<dZ_:=by rw[I.len];exact(IS.mp hi).1
  obtain⟨ds,e1,e2⟩:=HQ.mp e';split at e2
  .rename_i bn;rcases e2;exact⟨G,ρ,ds,er.or,e1,λvs G' H' x r=>⟨by rw[<-aG r];exact eG bn,λp hp=>k G' _ _ ((iJ_).ownNew b8 hl r hp)⟩⟩
  .rcases e2⟩
def SR.upd{KF:zM!}(s:gd_)(hi:eD_)(hp:vc_)(r:iK!):
  SR KF own G0 F0 G io_ Z m7_:=by
 obtain⟨p',pi,f8,Y,h2,h3,h4,h5⟩:=s.or.own_ i hi;rw[hp]at h2;cases h2;have hG:∀{b u},G b=some u->b≠p:=λe=>bY e h4;have hF:∀{b u},F0 b=some u->b≠p:=λe=>bY e (s.fr i hi p hp);have wv:=(ge!).1;refine⟨⟨wq!,by rw[MD,s.or.len],wm_,iK_,s.or.dis⟩,⟨s.ext.g,λb u e=>by rw[aS (hF e)];exact s.ext.h b u e,wq!,s.ext.new⟩,s.fr⟩
 .have cz:i≠j:=λz=>n m9!;rw[dF_]at q;exact s.or.at_ j d q n
 .by_cases cz:i=j
  .subst cz;exact⟨p,ds,vs,wn_,hp,bI,h4,r⟩
  .obtain⟨a,WD,z0,g1,g2,g3,g4,g5⟩:=s.or.own_ j hj;have ne:=JF (s.or.dis i hi j hj cz p a hp g2);exact⟨a,WD,z0,by rw[dF_];exact g1,g2,by rw[aS ne];exact g3,g4,g5⟩
def Xy(i:Nat)(f:j!):Ae->Option Fl:=λρ=>(V_).bind λd=>match ρ[i]? with|some (some (.lst ds))=>if g_<big then some (.nx (ρ.set i (some (.lst (ds++[d])))))else none|_=>none
def b0n(b8:eD_:=by decide)(h:cN!)(hN:ac_:=by rfl)(hv:cu!:=by first|exact Or.inl rfl|exact Or.inr h!|exact Or.inr a9!)
  (hd:y_:=by decide)(bz:cu_:=by decide)
  (bc:ge_:=by rfl)(gg:((h9_).all b8_&&(b9!).all b9_
   &&decide wq_)=true:=by rfl) (gh:dv!:=by rfl)
  (gf:attributeBase bt! "append" X.env m9_=eval bt! X.env:=by rfl) (gi:gf!:=by rfl) (j5:swapsWith wr_ none pos.line X.env=pure false:=by rfl):
  DS X own own (.Expr wr_ pos) (Xy i f):=⟨by
  rintro G0 F0 J s Z H E I ⟨G,ρ,r,er,e',k⟩;refine mT (uQ NG QF QE oW it! ws_ gf gg gh bc gi) j5 J s Z H E I ?_;obtain⟨d,e1,e2⟩:=HQ.mp e';obtain⟨p,ds,vs,Y,h2,h3,h4,h5⟩:=er.or.own_ i b8;rw[Y]at e2;simp only at e2;split at e2
  .rename_i hl;rcases e2;refine⟨gf_,h2,na_,G,ρ,d,er.or,e1,λv G' H' x r=>⟨p,vs,v,rfl,rfl,x.h _ _ h3,?_,?_⟩⟩
   .rw[<-aG h5];exact IQ hl (cF p!)
   .exact k G' Z _ ((iJ_).upd b8 h2 (cG wt! (Ak.cons r Ak.nil)))
  .rcases e2⟩
def HF(i:Nat)(fx fv:j!):Ae->Option Fl:=λρ=>(fv ρ).bind λd=>(fx ρ).bind λx=>match x,ρ[i]? with|.int j,some (some (.lst ds))=>(Kb ds.length j).map λk=>.nx (ρ.set i (some (.lst (ds.set k d))))|_,_=>none
def To(i:Nat)(fx:j!):Ae->Option D:=λρ=>(fx ρ).bind λx=>match x,ρ[i]? with|.int j,some (some (.lst ds))=>Fj ds j|_,_=>none
def b6q(b8:eD_:=by decide)(hx:DE X own ix fx)(hs:Nk ix)(hN:ac_:=by rfl)(WG:cu!:=by first|exact Or.inl rfl|exact Or.inr h!|exact Or.inr a9!)
  (hd:y_:=by decide)(bz:cu_:=by decide):DE X own (.Subscript bt! ix pos) (To i fx):=
 eE (b2z a7j (lW hN WG hd bz) hx.ok hs) λZ G H Q ρ d er e k=>by
  obtain⟨z,e3,e4⟩:=HQ.mp e;obtain⟨p,ds,vs,Y,h2,h3,h4,h5⟩:=er.own_ i b8;rw[Y]at e4;cases z<;>first|cases e4|skip
  rename_i j;have e5:=e4;obtain⟨v,e6,r6⟩:=mS h5 e5;refine⟨gf_,h2,G,ρ,.int j,er,e3,λiv G2 H2 x2 r2=>?_⟩;obtain rfl:=aU r2;exact⟨p,vs,j,v,rfl,rfl,Eh.of (x2.h _ _ h3),e6,k v G2 H2 x2 (r6.mono x2.g)⟩
def Bz(i:Nat):D->Ae->Option Ae:=λd ρ=>some bn!
def qT{KF:zM!}(s:E!)(r:iK!):OR KF [] G H (L2.Ke N vs) cP!:=by
 have hl:=aG r;unfold L2.Ke;refine⟨s,by simp[hl],my!,ao!,ao!⟩;by_cases hi:i<g_
 .rw[hR!,JL]at q;obtain⟨d',Y,h2⟩:=IA.mp q;rcases h2;obtain⟨v,h3,h4⟩:=gA r Y;exact⟨v,by rw[KY (by simpa[<-hl]using hi),JL,h3];rfl,h4⟩
 .rw[ep!,NH]at q;split at q<;>cases q
end
def c5n{KF:zM!}{st:Stmt}
  (F:wt_)(S:cI!)
  (hb:∀(ah:wY!) (A:wX!) (outer:af!) (s:xR!) (H:Hp) (E:XK),Ai k nb_->Zq (nc!).nox [] ce a8! q)
  (hg:∀ds d,g_=P_->g ds=some d->q cP!=some ae_\/∃ρ,q cP!=some Z_/\d=.non):
  Eb P w KF mg base Ng J_ ag fd ps nc_:=by
 refine wv_;obtain⟨hl,G,ds,d,sub,r,e,kk⟩:=h;refine⟨_,(ww!).ok G H,?_⟩;have er:=qT (N:=N) sub r;rcases hg ds d (by rw[aG r];exact hl) e with z|⟨ρ,z,rfl⟩
 .exact⟨G,_,_,ww_,z,λv G' H' x r=>kk v G' H' x r⟩
 .exact⟨G,_,_,ww_,z,λG' ae H' fg=>kk _ G' H' fg.ext Ao.non⟩
mutual
noncomputable def Ew:D->D->Bool
 |.non,.non=>true
 |.bl a,.bl b=>a==b
 |.bl a,.int b=>(if a then 1 else 0)==b
 |.int a,.bl b=>a==(if b then 1 else 0)
 |.int a,.int b=>a==b
 |.str a,.str b=>a==b
 |.tup xs,.tup ys=>Ie xs ys
 |.lst xs,.lst ys=>Ie xs ys
 |_,_=>false
noncomputable def Ie:List D->List D->Bool
 |[],[]=>true
 |x::xs,y::ys=>Ew x y&&Ie xs ys
 |_,_=>false
end
mutual
noncomputable def Av:D->Bool
 |.fn _=>false
 |.dk _=>false
 |.tup xs=>Bx xs
 |.lst xs=>Bx xs
 |_=>true
noncomputable def Bx:List D->Bool
 |[]=>true
 |d::ds=>Av d&&Bx ds
end
section
variable{X:Cx}{J:List (Addr×Obj)}{Z:St}{H:Hp}{s:xR!}
def qR(I:b_)(h:iM_)(h':Eh X.K H a ws):False:=by obtain⟨_,_,⟨o,e,c,_⟩,_⟩:=I.tuple h;obtain⟨_,_,⟨o',n,e',c',_⟩,_⟩:=I.list h';rw[e]at e';rcases e';rw[c]at c';exact absurd c' nofun
mutual
theorem wM(I:b_):∀(d d':D) (v:V),Av d=true->Av d'=true->Ao X.K H d v->Ao X.K H d' v->d=d'
 |.non,d',v,n,n',r,r'=>by
  obtain rfl:=eV r;cases d'<;>first
   |rfl
   |(unfold Ao at r';cases r';done)
   |(obtain⟨a,vs,e,_⟩:=bD r';cases e)
   |(obtain⟨a,vs,e,_⟩:=bJ r';cases e)
   |(unfold Av at n';cases n')
 |.bl b,d',v,n,n',r,r'=>by
  obtain rfl:=dA r;cases d'<;>first
   |(cases dA r';rfl;done)
   |(unfold Ao at r';cases r';done)
   |(obtain⟨a,vs,e,_⟩:=bD r';cases e)
   |(obtain⟨a,vs,e,_⟩:=bJ r';cases e)
   |(unfold Av at n';cases n')
 |.int b,d',v,n,n',r,r'=>by
  cases aU r;cases d'<;>first
   |(cases aU r';rfl;done)
   |(unfold Ao at r';cases r';done)
   |(obtain⟨a,vs,e,_⟩:=bD r';cases e)
   |(obtain⟨a,vs,e,_⟩:=bJ r';cases e)
   |(unfold Av at n';cases n')
 |.str b,d',v,n,n',r,r'=>by
  cases cB r;cases d'<;>first
   |(cases cB r';rfl;done)
   |(unfold Ao at r';cases r';done)
   |(obtain⟨a,vs,e,_⟩:=bD r';cases e)
   |(obtain⟨a,vs,e,_⟩:=bJ r';cases e)
   |(unfold Av at n';cases n')
 |.tup xs,d',v,n,n',r,r'=>by
  obtain⟨a,vs,rfl,q,rr⟩:=bD r;cases d' with
  |tup ys=>
   obtain⟨a',f8,e,q',b5⟩:=bD r';cases e;have:=I.tuple_inj q q';subst this;unfold Av at n n';rw[wx!]
  |lst ys=>
   obtain⟨a',f8,e,q',b5⟩:=bJ r';cases e;exact(qR I q q').elim
  |fn b=>unfold Av at n';cases n'
  |dk b=>unfold Av at n';cases n'
  |non=>cases eV r'
  |bl b=>cases dA r'
  |int b=>cases aU r'
  |str b=>cases cB r'
 |.lst xs,d',v,n,n',r,r'=>by
  obtain⟨a,vs,rfl,q,rr⟩:=bJ r;cases d' with
  |lst ys=>
   obtain⟨a',f8,e,q',b5⟩:=bJ r';cases e;have:=I.list_inj q q';subst this;unfold Av at n n';rw[wx!]
  |tup ys=>
   obtain⟨a',f8,e,q',b5⟩:=bD r';cases e;exact(qR I q' q).elim
  |fn b=>unfold Av at n';cases n'
  |dk b=>unfold Av at n';cases n'
  |non=>cases eV r'
  |bl b=>cases dA r'
  |int b=>cases aU r'
  |str b=>cases cB r'
 |.fn a,d',v,n,n',r,r'=>by unfold Av at n;cases n
 |.dk a,d',v,n,n',r,r'=>by unfold Av at n;cases n
theorem rB(I:b_):∀(ds es:d!) (vs:r_),Bx ds=true->Bx es=true->Ak X.K H ds vs->Ak X.K H es vs->ds=es
 |[],es,vs,n,n',r,r'=>by
  obtain rfl:=cK r;cases es with
  |nil=>rfl
  |cons e es=>obtain⟨v,t,z,_⟩:=bB r';rcases z
 |d::ds,es,vs,n,n',r,r'=>by
  obtain⟨v,t,rfl,r1,r2⟩:=bB r;cases es with
  |nil=>cases cK r'
  |cons e es=>
   obtain⟨v',t',z,wx,wy⟩:=bB r';cases z;unfold Bx at n n';rw[JD]at n n';rw[wM I d e v n.1 n'.1 r1 wx,rB I ds es t n.2 n'.2 r2 wy]
end
mutual
theorem sW:∀d:D,Av d=true->Ew d d=true
 |.non,_=>by rfl
 |.bl b,_=>by simp[Ew]
 |.int i,_=>by simp[Ew]
 |.str s,_=>by simp[Ew]
 |.tup xs,h=>by unfold Ew;exact pH xs wx_
 |.lst xs,h=>by unfold Ew;exact pH xs wx_
 |.fn a,h=>by simp[Av]at h
 |.dk k,h=>by simp[Av]at h
theorem pH:∀ds:List D,Bx ds=true->Ie ds ds=true
 |[],_=>by simp[Ie]
 |d::ds,h=>by
  unfold Bx at h;rw[JD]at h;unfold Ie;rw[sW d h.1,pH ds h.2];rfl
end
def a0e(I:b_)(d d':D)(v:V)(n:ch_)(n':eM!)(r:dG_)(r':Ao X.K H d' v):Ew d d'=true:=by rw[<-wM I d d' v n n' r r'];exact sW d n
def gW(A:wX!):A.in1.units=A.units+1:=rfl
def kS:∀(xs ys:d!),f_=ad_->((List.range f_).all λj=>Ew (xs.getD j .non) (ys.getD j .non))=Ie xs ys
 |[],[],_=>rfl
 |x::xs,y::ys,h=>by
  have ih:=kS xs ys nd!;unfold Ie;rw[IW,List.range_succ_eq_map,List.all_cons,<-ih,List.all_map];rfl
 |[],_::_,h=>by simp at h
 |_::_,[],h=>by simp at h
def kN:∀(xs ys:d!),f_≠ad_->Ie xs ys=false
 |[],[],h=>absurd rfl h
 |x::xs,y::ys,h=>by
  unfold Ie;rw[kN xs ys nd!,RB]
 |[],_::_,_=>rfl
 |_::_,[],_=>rfl
def nN(rd:gg!)(re:gg_)(rv:d1_)(az:Ar ws us')
  (h:∀(j:Nat) u u',us[j]?=some u->us'[j]?=some u'->SeqAt.EqAt A s u u' iN!):
  ∀j (Y:j<iN_) (h2:j<nd_),SeqAt.EqAt A s dH![j] ne![j] iN!:=λj Y h2=>by
 have l1:j<aj_:=by simpa using Y
 have l2:j<us'.length:=by simpa using h2
 exact h j _ _ (by simp[l1]) (by simp[l2])
def uO(I:b_)(qa:iM_)(qb:wA!)(rd:gg!)(re:gg_)(hu:ah!)
  (h:iO!):SeqAt.RcAt A s D_ dp! (Ie ds es):=by
 obtain⟨us,rv,p1,_⟩:=I.tuple qa;obtain⟨us',az,p2,_⟩:=I.tuple qb;have Y:=aG rd;have h2:=aG re;have h3:=d9_;have h4:=iO_;have z:=SeqAt.RcAt.tuples p1 p2 hu iP!;have e:wA_=Ie ds es:=by
  show"#("
  .rw[hl,Nat.min_self,<-hl,iP_,hl];simp
  .rw[iQ!];have:(g_==aa!)=false:=by simpa using hl
   rw[this,RB]
 rw[e]at z;exact z
def a0k(I:b_)(qa:nf!)(qb:wB_)(rd:gg!)(re:gg_)(hu:ah!)
  (h:iO!):SeqAt.RcAt A s D_ dp! (Ie ds es):=by
 show"!B";have h4:=iO_;by_cases hl:g_=aa!
 .have z:=SeqAt.RcAt.lists p1.isList p2.isList mN! hu iP!;rw[HZ,<-h3,<-Y,iP_]at z;exact z
 .rw[iQ!];exact SeqAt.RcAt.lists_lengths p1.isList p2.isList wB! hu
def b5g(I:b_)(q:iM_):∃ak,s.heap.IsTuple a ak:=by obtain⟨its,_,p,_⟩:=I.tuple q;exact⟨_,p⟩
def b0c(I:b_)(q:nf!):∃ak,s.heap.IsList a ak:=by obtain⟨its,_,p,_⟩:=I.list q;exact⟨_,p.isList⟩
inductive RV(X:Cx)(H:Hp)(s:xR!):D->Value->Prop
 |non:RV X H s .non .none
 |bl (b:Bool):RV X H s a4! kF!
 |int (i:Int) (t:Tok):RV X H s ay! c2!
 |str (x:Str) (t:Tok):RV X H s bX_ fk_
 |tup {xs:d!} {a:qT!} {its:bD!}:s.heap.IsTuple a its->RV X H s bd_ D_
 |lst {xs:d!} {a:qT!} {its:bD!}:s.heap.IsList a its->RV X H s H! D_
def uL(I:b_)(n:ch_)(r:dG_)(ru:aQ!):RV X H s d u:=by
 cases d with
 |non=>cases eV r;subst ru;exact .non
 |bl b=>cases dA r;subst ru;exact .bl b
 |int b=>cases aU r;obtain⟨t,rfl⟩:=ru;exact .int b t
 |str b=>cases cB r;obtain⟨t,rfl⟩:=ru;exact .str b t
 |tup ys=>obtain⟨a,ws,rfl,q,_⟩:=bD r;subst ru;obtain⟨its,p⟩:=b5g I q;exact .tup p
 |lst ys=>obtain⟨a,ws,rfl,q,_⟩:=bJ r;subst ru;obtain⟨its,p⟩:=b0c I q;exact .lst p
 |fn a=>unfold Av at n;exact Bool.noConfusion n
 |dk a=>unfold Av at n;exact Bool.noConfusion n
def kO(I:b_)(n:ch_)(n':eM!)(hu:ah!)(r:dG_)(r':gh!)(ru:aQ!)(be:gh_)(hT:∀xs ys,d=.tup xs->d'=.tup ys->SeqAt.EqAt A s u u' cQ!)(hL:∀xs ys,d=.lst xs->d'=.lst ys->SeqAt.EqAt A s u u' cQ!):SeqAt.EqAt A s u u' cQ!:=by
 show"!e"
 all_goals first|exact hT _ _ rfl rfl|exact hL _ _ rfl rfl|(unfold Ew;with_reducible first|exact .none_none|exact .same _|exact .none_bool _|exact .none_int _ _|exact .none_str _ _|exact .none_tuple ‹_› hu|exact .none_list ‹_› hu|exact .bool_none _|exact .bool_bool _ _|exact .bool_int _ _ _|exact .bool_str _ _ _|exact .bool_tuple _ ‹_› hu|exact .bool_list _ ‹_› hu|exact .int_none _ _|exact .int_bool _ _ _|exact .int_int _ _ _ _|exact .int_str _ _ _ _|exact .int_tuple _ _ ‹_› hu|exact .int_list _ _ ‹_› hu|exact .str_none _ _|exact .str_bool _ _ _|exact .str_int _ _ _ _|exact .str_str _ _ _ _|exact .str_tuple _ _ ‹_› hu|exact .str_list _ _ ‹_› hu|exact .tuple_none ‹_› hu|exact .tuple_bool _ ‹_› hu|exact .tuple_int _ _ ‹_› hu|exact .tuple_str _ _ ‹_› hu|exact .tuple_list ‹_› ‹_› hu|exact .list_none ‹_› hu|exact .list_bool _ ‹_› hu|exact .list_int _ _ ‹_› hu|exact .list_str _ _ ‹_› hu|exact .list_tuple ‹_› ‹_› hu)
def c3e(I:b_)(n:ch_)(n':eM!)(hu:ah!)(r:dG_)(r':gh!)(ru:aQ!)(be:gh_)(hT:∀xs ys,d=.tup xs->d'=.tup ys->SeqAt.RcAt A s u u' cQ!)(hL:∀xs ys,d=.lst xs->d'=.lst ys->SeqAt.RcAt A s u u' cQ!):SeqAt.RcAt A s u u' cQ!:=by
 show"!e"
 all_goals first|exact hT _ _ rfl rfl|exact hL _ _ rfl rfl|(unfold Ew;with_reducible first|exact .none_none|exact .same _|exact .none_bool _|exact .none_int _ _|exact .none_str _ _|exact .none_tuple ‹_› hu|exact .none_list ‹_› hu|exact .bool_none _|exact .bool_bool _ _|exact .bool_int _ _ _|exact .bool_str _ _ _|exact .bool_tuple _ ‹_› hu|exact .bool_list _ ‹_› hu|exact .int_none _ _|exact .int_bool _ _ _|exact .int_int _ _ _ _|exact .int_str _ _ _ _|exact .int_tuple _ _ ‹_› hu|exact .int_list _ _ ‹_› hu|exact .str_none _ _|exact .str_bool _ _ _|exact .str_int _ _ _ _|exact .str_str _ _ _ _|exact .str_tuple _ _ ‹_› hu|exact .str_list _ _ ‹_› hu|exact .tuple_none ‹_› hu|exact .tuple_bool _ ‹_› hu|exact .tuple_int _ _ ‹_› hu|exact .tuple_str _ _ ‹_› hu|exact .tuple_list ‹_› ‹_› hu|exact .list_none ‹_› hu|exact .list_bool _ ‹_› hu|exact .list_int _ _ ‹_› hu|exact .list_str _ _ ‹_› hu|exact .list_tuple ‹_› ‹_› hu)
mutual
theorem b6b(I:b_):∀(d d':D) (A:wX!) (v v':V) (u u':wY!),Av d=true->Av d'=true->A.units+Hk d<cLine->Ao X.K H d v->Ao X.K H d' v'->Be v u->Be v' u'->SeqAt.EqAt A s u u' cQ!
 |.non,d',A,v,v',u,u',n,n',hu,r,r',ru,be=>kO I n n' a! r r' ru be aN_ aN_
 |.bl _,d',A,v,v',u,u',n,n',hu,r,r',ru,be=>kO I n n' a! r r' ru be aN_ aN_
 |.int _,d',A,v,v',u,u',n,n',hu,r,r',ru,be=>kO I n n' a! r r' ru be aN_ aN_
 |.str _,d',A,v,v',u,u',n,n',hu,r,r',ru,be=>kO I n n' a! r r' ru be aN_ aN_
 |.fn _,d',A,v,v',u,u',n,n',hu,r,r',ru,be=>kO I n n' a! r r' ru be aN_ aN_
 |.dk _,d',A,v,v',u,u',n,n',hu,r,r',ru,be=>kO I n n' a! r r' ru be aN_ aN_
 |.tup xs,d',A,v,v',u,u',n,n',hu,r,r',ru,be=>kO I n n' a! r r' ru be (λ_ ys e e'=>by
  cases e;subst e';obtain⟨a,vs,rfl,q,rr⟩:=bD r;obtain⟨b,ws,rfl,q',b5⟩:=bD r';cases ru;cases be;by_cases ll:a=b
  .subst ll;rw[wC!];exact .same _
  .unfold Av at n n';unfold Hk at hu;unfold Ew;exact .of_refs ll (uO I q q' rr b5 a! λus us' rv az=>jJ I xs ys A.in1 vs ws us us' n n' eM_ rr b5 rv az)) aN_
 |.lst xs,d',A,v,v',u,u',n,n',hu,r,r',ru,be=>kO I n n' a! r r' ru be aN_ (λ_ ys e e'=>by
  cases e;subst e';obtain⟨a,vs,rfl,q,rr⟩:=bJ r;obtain⟨b,ws,rfl,q',b5⟩:=bJ r';cases ru;cases be;by_cases ll:a=b
  .subst ll;rw[wC!];exact .same _
  .unfold Av at n n';unfold Hk at hu;unfold Ew;exact .of_refs ll (a0k I q q' rr b5 a! λus us' rv az=>jJ I xs ys A.in1 vs ws us us' n n' eM_ rr b5 rv az))
theorem jJ(I:b_):∀(ds es:d!) (A:wX!) (vs ws:r_) (us us':l_),Bx ds=true->Bx es=true->A.units+Cw ds<cLine->Ak X.K H ds vs->Ak X.K H es ws->Ar vs us->Ar ws us'->
  ∀(j:Nat) u u',us[j]?=some u->us'[j]?=some u'->SeqAt.EqAt A s u u' iN!
 |[],es,A,vs,ws,us,us',n,n',hu,r,r',rv,az,j,u,u',e,e'=>by
  obtain rfl:=cK r;cases rv;simp at e
 |d::ds,es,A,vs,ws,us,us',n,n',hu,r,r',rv,az,j,u,u',e,e'=>by
  obtain⟨v,t,rfl,r1,r2⟩:=bB r;cases es with
  |nil=>
   obtain rfl:=cK r';cases az;simp at e'
  |cons c es=>
   obtain⟨w,t',rfl,wx,wy⟩:=bB r';unfold Bx at n n';rw[JD]at n n';unfold Cw at hu;cases rv with
   |cons pj si=>
    cases az with
    |cons WH WJ=>
     cases j with
     |zero=>
      simp at e e';subst e e';exact b6b I d c A v w _ _ n.1 n'.1 a! r1 wx pj WH
     |succ j=>
      exact jJ I ds es A t t' _ _ n.2 n'.2 a! r2 wy si WJ j u u' cq! (by simpa using e')
end
def c3f(I:b_)(d d':D)(n:ch_)(n':eM!)(hu:wD!)(r:dG_)(r':gh!)(ru:aQ!)(be:gh_):SeqAt.RcAt A s u u' cQ!:=
 c3e I n n' a! r r' ru be (λxs ys e e'=>by
  subst e e';obtain⟨a,vs,rfl,q,rr⟩:=bD r;obtain⟨b,ws,rfl,q',b5⟩:=bD r';subst ru;subst be;unfold Av at n n';unfold Hk at hu;unfold Ew;exact uO I q q' rr b5 a! λus us' rv az=>jJ I xs ys A.in1 vs ws us us' n n' eM_ rr b5 rv az) (λxs ys e e'=>by
  subst e e';obtain⟨a,vs,rfl,q,rr⟩:=bJ r;obtain⟨b,ws,rfl,q',b5⟩:=bJ r';subst ru;subst be;unfold Av at n n';unfold Hk at hu;unfold Ew;exact a0k I q q' rr b5 a! λus us' rv az=>jJ I xs ys A.in1 vs ws us us' n n' eM_ rr b5 rv az)
def CG(KF:zM!):R2:=λx y H Q=>∃dx dy,Ao KF H dx x/\Ao KF H dy y/\Av dx=true/\Av dy=true/\Hk dx<=40/\Q (.bl (Ew dx dy)) H
def bN(hu:ah_):Fc X (compareOp .Eq) (CG X.K):=by intro J s Z H x y v u Q I rx ry h;obtain⟨dx,dy,r1,r2,n1,n2,hd,q⟩:=h;exact c3f I dx dy n1 n2 a! r1 r2 rx ry X.prog X.w X.xe _ iS!
def Aw:D->D->Option D:=λx y=>if Av x&&Av y&&decide (Hk x<=40)then some (.bl (Ew x y))else none
protected def bP{KF:zM!}:Fu KF (CG KF) Aw:=by
 show"!2";unfold Aw at e;show"!8"
 .show"!j";rcases e;exact wD_
 .rcases e
end
section
variable{X:Cx}{own:List Nat}{e a b c o i tg:Expr}{es:List Expr}{pos p2:Pos}{f fa fb fc fe:Ae->Option D}{fs fi:Ae->Option (List D)}{ft fu:Ae->Option Bool}
def Ea(g g':f3_)(fa fb fc:j!):Ae->Option D:=λρ=>(f4!).bind λx=>(it_).bind λy=>(g x y).bind λz=>match z with
 |.bl true=>(fc ρ).bind λu=>g' y u
 |.bl false=>some af_
 |_=>none
def a2d(ho:bF!)(hg:dA!)(d9:hv_)(sj:wE!)(ha:N_)(hb:ce!)(hc:ng_)
  (hm:hw!:=by with_unfolding_all rfl):DE X own hw_ wE_:=
 eE (b3b ho d9 ha.ok hb.ok hc.ok hm) λZ G H Q ρ d er e k=>by
  obtain⟨x,e1,e⟩:=HQ.mp e;obtain⟨y,e2,e⟩:=HQ.mp e;obtain⟨z,e3,e⟩:=HQ.mp e;refine wH!;have nq:=s1.trans eF!;cases z<;>first|cases e|skip
  rename_i bb;obtain rfl:=dA r3;refine wH_;cases bb with
  |true=>
   obtain⟨u,e4,e⟩:=HQ.mp e;exact jR ⟨G3,ρ,u,er.grow nq,e4,λq G4 H4 s4 r4=>sj s4.sub wI! r4 e λv G5 H5 s5 r5=>k v G5 H5 wI_ r5⟩
  |false=>
   rcases e;exact jS (k _ G3 H3 nq Ao.bl)
def Tn(f:j!):Ae->Option D:=λρ=>(V_).bind λd=>match d with|.int i=>some (.int (-i))|_=>none
def a4v(h:N_):DE X own (.UnaryOp .USub a pos) (Tn fa):=
 eE (c7a c2p h.ok) λZ G H Q ρ d er e k=>by
  obtain⟨x,e1,e⟩:=HQ.mp e;cases x<;>first|cases e|skip
  refine ga_;obtain rfl:=aU r1;exact⟨_,rfl,k _ G1 H1 s1 Ao.int⟩
structure Sc(X:Cx)(x:Str)(b6:gi!):Prop where
 ex:∃(ad:qT!) (h1:List mu!) (vs:List wK!),X.mg x=some iS_/\nh_=false/\(∀h:Heap,X.K.In h->h.DictOf (mixKind X.prog X.w) ad vs)/\KV h1 vs/\
  (∀y,Kw h1 dH_=none↔b6.lookup y=none)/\∀y d,b6.lookup y=some d->∃v,Kw h1 dH_=some v/\∀H,Ao X.K H d v
def Yl(b6:gi!)(neg:Bool)(f:j!):Ae->Option D:=λρ=>(V_).bind λd=>match d with|.str y=>some (.bl (if neg then !(ni!).isSome else(ni!).isSome))|_=>none
def Ru(b6:gi!)(f:j!):Ae->Option D:=λρ=>(V_).bind λd=>match d with|.str y=>b6.lookup y|_=>none
def c1d(hd:Sc X x b6)(hg:G_)(ha:N_)(db:DB a)(a8:y_:=by decide):DE X own (.Subscript eJ_ a pos) (Ru b6 fa):=by
 show"#;";refine eE (t:=λZ H Q=>tD X.K own fa Z H λv H1=>∃y u,v=.str y/\Kw h1 dH_=some u/\Q u H1) wK_ λZ G H Q ρ d er e k=>?_
 .refine b8c PySem.F.slot_dict_getitem.lookup db (gR I hg jz (cZ wL! ?_) a8);rintro v s1 ⟨y,H1,I1,r1,z,u,hz,hu,q1⟩;subst hz;have dd:=wz _ I1.kIn;obtain⟨w',hw,az⟩:=Lp.some_of (by rw[<-hu];exact w4.val (Sum.inr z));have ty:s1.TypeIs iS_ "dict":=by
   obtain⟨o,es,ep,Y,h2,_⟩:=dd;exact⟨o,Y,h2.1⟩
  exact⟨ty,wpAny_getItem_of wM! dd.mapOf hw ⟨u,H1,I1.tok _,az,q1⟩⟩
 .obtain⟨x,e1,e⟩:=HQ.mp e;cases x<;>first|(rcases e;done)|skip
  rename_i y;obtain⟨v,hv,hr⟩:=hs y d e;refine⟨G,ρ,_,er,e1,λw G1 H1 s1 r1=>?_⟩;obtain rfl:=cB r1;exact⟨y,v,rfl,hv,k _ G1 H1 s1 (hr G1)⟩
def Ok(P:xc!)(w:wZ!)(KF:zM!)(mg:L_)(base:Heap)(k:Nat)(x:Str)(ps:E_)(g:bP_):Prop:=
 ∃ag fd,Eb P w KF mg base Ng k ag fd ps nc_/\Do KF fd ps []/\mg x=some aW!/\W.keepIn KF aW!=true
def bC(F:wN!)(hr:aL!)(hg:G_)(ha:iA!)(ay:vB_)
  (hn:vB!:=by rfl)(a8:y_:=by decide)(he:Y!:=by rfl)(a7:au!:=by rfl):
  DE X own aT! mM!:=by
 show"#!";exact c1f Y hr hg h3 h4 h2 ha hn ay a8 he a7
def Zp(P:xc!)(w:wZ!)(KF:zM!)(mg:L_)(base:Heap)(k n:Nat)(b6:wN_):Prop:=
 ∀ag g,b6 ag=some g->∃fd ps,P_=n/\Eb P w KF mg base Ng k ag fd ps nc_/\Do KF fd ps []/\W.keepIn KF aW!=true
def Mg(b6:wN_)(i:Nat)(fs:aV!):Ae->Option D:=λρ=>(Aa i ρ).bind λd=>match d with|.fn ag=>(b6 ag).bind λg=>(eG!).bind g|_=>none
def b6s(F:Zp X.prog X.w X.K X.mg X.base k n b6)(hr:aL!)(ha:iA!)(ay:vC!)
  (hj:j∉own:=by decide)(hN:uz!:=by rfl)(hv:cu!:=by first|exact Or.inl rfl|exact Or.inr h!|exact Or.inr a9!)(a8:y_:=by decide)(bz:cu_:=by decide)
  (he:Y!:=by rfl)(a7:au!:=by rfl):
  DE X own aT! (Mg b6 j fs):=⟨by
 intro J s Z H Q I h;obtain⟨G,ρ,d,er,e1,kk⟩:=h;obtain⟨z,e2,e1⟩:=HQ.mp e1;cases z<;>first|(rcases e1;done)|skip
 rename_i ag;obtain⟨g,e3,e1⟩:=HQ.mp e1;obtain⟨ds,e4,e1⟩:=HQ.mp e1;obtain⟨fd,ps,lp,F1,F2,F3⟩:=F ag g e3;obtain⟨v,Y,h2⟩:=er.at_ j _ (vH e2) hj;obtain rfl:=fJ h2;refine LW (cZ (lW hN hv a8 bz J s Z H (λu H'=>u=.ref ag/\H'=H) I ⟨_,Y,rfl,rfl⟩) ?_);rintro u s1 ⟨y,H1,I1,r1,hy,hH⟩;subst hy hH;subst r1;refine W.callWith_K (h₀:=X.base) I1.ok.mod.kin F3 (cZ (ha.ok pos J s1 Z H1 _ I1 ⟨G,ρ,ds,er,e4,λvs G2 H2 s2 r2=>(?_:(λvs H2=>Zc X.K ps.length g vs H2 Q E0) vs H2)⟩) λus s2 ⟨vs,H2,I2,r2,q2⟩=>sp!) he a7
 .exact⟨by rw[<-aG r2,ay ρ ds e4,lp],G2,ds,d,s2.sub,r2,e1,λv G3 H3 s3 r3=>kk v G3 H3 eF! r3⟩
 .exact wK F1 hr F2 .nil pQ I2 r2 (by rw[JC];exact q2)⟩
def Tu(x:Str):It:=⟨wP!,λi H v H'=>H'=H/\∃c,x.cps[i]?=some c/\v=.str Y_,wP_⟩
def Pe(f:j!):Ae->Option aD!:=λρ=>(V_).bind λd=>match d with|.str x=>some wQ!|_=>none
def c0k{KF:zM!}:Ys KF (Tu x) wQ! G1:=by intro i G' H' s1 s2;refine⟨dE_,λhi=>by rw[IK,LA]at hi;exact NO hi.symm⟩;rw[JL]at hd;obtain⟨c,hc,rfl⟩:=IA.mp hd;rw[NW]at hc;refine wR!;obtain⟨e1,c',c7,e2⟩:=hy;subst e1;rw[hc]at c7;rcases c7;subst e2;exact⟨G',iH_,Ao.str⟩
def zS{KF:zM!}(hd:wR_)
  (W:∀A':Around,nj_=none->Walks P w A' it [it] [it] x.cps.size (SignAt x) fm)(WK:∀(A:wX!) (i:Nat) (s:xR!) (Q:I!) (E:I!),fm i s.heap->Q bZ! s->wpAny B_ A qV_ Q E s):
  Pf P w KF gj! (Tu x) [it] it wS_ where
 mem:=by simp
 obj:=λi h st b hb=>by
  have e:b=it:=by simpa using hb
  subst e;exact hd i h st.2
 keep:=λi h h' st k=>⟨st.1,by
  have Wd:=W callerA rfl;exact Wd.frame i h h' st.2 λb hb o e=>k b hb o e⟩
 item:=by
  show"!1";refine(W X.A az!).item i s _ _ hg st.2 λv h' tk hv ac kk=>?_;obtain⟨cc,u,gb,rfl⟩:=hv;have I1:Inv X J Z H {s with heap:=h',toks:=tk}:=I.turned hq! f0 f1 f3 f4 f5;exact⟨_,rfl,HS ⟨.str ⟨#[cc]⟩,H,I1,nk!,⟨rfl,cc,gb,rfl⟩,⟨hg,ac⟩,hp_⟩⟩
 done:=by
  show"!1";have hi:=Nat.le_antisymm st.1 hg;subst hi;exact(W X.A az!).done s _ _ st.2 λh' tk kk=>⟨rfl,I.turned hq! f0 f1 f3 f4 f5⟩
 self:=λA i s Q E st h=>WK A i s Q E st.2 h
def c3o(hl:PE X a tl):PI X gj! a (λZ H R=>tl Z H λv H1=>∃x,v=.str x/\R (Tu x) H1):=by
 intro J s Z H R I h;refine cZ q7! ?_;rintro v s1 ⟨u,H1,I1,r1,x,hx,q⟩;subst hx;obtain⟨t,rfl⟩:=r1;have z7:∀(ty:String) (i:Nat) (h:Heap),h.IsStrIter s1.heap.objs.size ty x t i->∃o,h.get? x_=some o/\∀v,o.data≠.cell v:=λty i h st=>by
  show"!t"
 have fin:∀(ob:Obj) (fm:hn_),Pf X.prog X.w X.K gj! (Tu x) [x_] s1.heap.objs.size wS_->fm 0 (s1.heap.push ob)->
   CZ X J Z gj! R (.ref x_) {s1 with heap:=s1.heap.push ob}:=λob fm T st=>by
  refine⟨x_,[x_],_,_,H1,rfl,wT!,T,⟨JJ _,st⟩,bE_,q⟩;have e:b=x_:=by simpa using hb
  show"!N"
 cases ha:x.cps.all (·<128)with
 |false=>
  exact wpAny_pyIter_wide ha (fin _ _ (zS wT_ (λA' hA=>Walks.strWide hA _ x t) λA i s Q E st h=>wpAny_pyIter_striter_wide st h) ea!)
 |true=>
  exact wpAny_pyIter_ascii ha (fin _ _ (zS wT_ (λA' hA=>Walks.strAscii hA _ x t) λA i s Q E st h=>wpAny_pyIter_striter_ascii st h) ea!)
def b6n(h:N_):DI X own gj! a (Pe fa):=a2b (c3o h.ok) λZ G H R ρ ds er e k=>by
 obtain⟨d,e1,e2⟩:=HQ.mp e;cases d with
 |str x=>
  rcases e2;refine ga_;obtain rfl:=cB r1;exact⟨x,rfl,k _ G1 H1 s1 c0k⟩
 |_=>cases e2
def uD:∀{ys:E_} {us:l_},Ar wU! us->StrsAre us ys
 |[],_,.nil=>.nil
 |y::ys,_,.cons r t=>by
  obtain⟨k,rfl⟩:=r;exact .cons y k (uD t)
def BY(KF:zM!):V->List V->Hp->VK->Prop:=λx vs H Q=>∃(z:Str) (p:qT!) (ys:E_),x=.str z/\vs=h5_/\Eh KF H p wU!/\(iU_).sum+ad_*aw!<=16777216/\Q wU_ H
def b9v:GT X "str.join" (BY X.K):=by intro J s Z H x xs v us Q I rx r h;obtain⟨z,p,ys,rfl,rfl,hq,hz,q⟩:=h;obtain⟨t,rfl⟩:=rx;obtain⟨u,rfl,r1⟩:=mL r;subst r1;obtain⟨its,rv,pl,_⟩:=I.list hq;exact join_list pl.isList (by simpa using uD rv) hz λt' k=>⟨.str _,H,aQ_,G!,q⟩
def Np:List D->Option (List Str)
 |[]=>some []
 |.str x::r=>(Np r).map (x::·)
 |_=>none
def a0d{KF:zM!}:∀{ds:d!} {vs:r_} {ys:E_},Ak KF H ds vs->Np ds=some ys->vs=ys.map V.str
 |[],vs,ys,r,e=>by obtain rfl:=cK r;rcases e;rfl
 |d::ds,vs,ys,r,e=>by
  obtain⟨v,t,rfl,r1,r2⟩:=bB r;cases d<;>first|(rcases e;done)|skip
  obtain⟨WL,e1,rfl⟩:=IA.mp e;obtain rfl:=cB r1;rw[a0d r2 e1];rfl
def Pk:D->D->Option D
 |.str z,.lst xs=>(Np xs).bind λys=>if(iU_).sum+ad_*aw!<=big then some wU_ else none
 |_,_=>none
end
section
variable{prog:xc!}{w:wZ!}{A:wX!}{E:Value->Shared->Prop}{s:xR!}
def xN(g1:wV_)(g2:wW!)(g3:xs[n]?=some v)
  (k:∀h',h'.IsTupleIter jt tt eO_->Heap.SameBut jt s.heap h'->Q v {s with heap:=h'}):wpAny l! A wW_ Q E s:=by
 show"!9";show"!h";refine HP (OT eo ed c! (HS ⟨v,rfl,HS (k _ ?_ eP_)⟩));exact⟨_,LF _ eo (NC (LX ed _)),(w1!).trans ec,by rw[LX ed];simp[rawInt]⟩
def rS(hh:bh!)(g1:wV_)(g2:wW!)(g3:xs[n]?=none)
  (k:∀h' e,Heap.ExtBut jt s.heap h'->(∃o,h'.get? e=some o/\o.cls=.type "StopIteration")->E aw_ {s with heap:=h'}):wpAny l! A wW_ Q E s:=by
 show"!9";show"!h";refine HP (LJ (HP (OT eo ed c! ?_)));refine HP ?_;dsimp only[newExc,newTuple];refine HP (KS ?_ gl!);refine HP (wpAny_of_eq w3_ ?_);refine KS ?_ gl!;dsimp only[raiseNew];refine HP w4_
 first|rw[w5!]|rw[hh]
 refine HP w6!;exact k _ _ w7! iX_
def bW(x:h.IsTupleIter aa tt n)(hs:Heap.ExtBut bb h h')(ne:aa≠bb):h'.IsTupleIter aa tt n:=by obtain⟨ob,eo,r⟩:=x;exact⟨ob,hs _ _ ne eo,r⟩
def a2m{TI TO:qT!}{Q:I!}(D:iY!)
  (gz:iY_)(gI:iZ!)(gO:iZ_)
  (g1:i0!)(g2:i0_)(g9:gl_)(iu:gm!)(gx:w8!)(gy:w8_)
  (kk:∀h',IsZip h' z TI TO (rawInt i!)->IsPair h' TO x y->h'.IsTupleIter i1 l1 (k1+1)->h'.IsTupleIter i2 l2 (k2+1)->IsPair h' s.heap.objs.size x y->
   i1!->Q a4_ {s with heap:=h'}):
  wpAny l! A w9! w9_ E s:=by
 show"!l";show"!A";refine HP xb_
 replace lq:IsZip Y z TI TO .ellipsis:=lq
 refine HP ?_;dsimp only[_root_.List.zipIdx_cons,_root_.List.zipIdx_nil,_root_.List.forIn_cons,_root_.List.forIn_nil];refine HP i2!;refine HP xc_;have sm:=bu.extBut _ _ D.TOi1 xd_;refine HP zR!;refine HP xe!
 replace u9:IsPair h3 TO x q:=u9
 refine HP (PK Q!);refine HP i2!;refine HP (xN xf! xg! gy λh4 WM jm=>HS ?_);have z9:=jm.extBut _ _ D.TOi2 u9;refine HP (LR z9 rfl ?_);refine HP (RN z9 λh5 va jn=>?_)
 replace va:IsPair h5 TO x y:=va
 refine HP (PK (HS Q!));refine HP (LR va rfl ?_);refine HP (RS ?_);have sz:xg_=i!:=by rw[jn.1,jm.1,de.1,bu.1,cb.1]
 have F':=jn.extBut _ _ D.TOz.symm (jm.extBut _ _ D.i2z.symm xh_);have WN:∀c ob,c≠z->c≠TO->c≠i1->c≠i2->s.heap.get? c=some ob->h5.get? c=some ob:=λc ob c1 c2 c3 c4 e=>jn.extBut _ _ c2 (jm.extBut _ _ c4 (de.extBut _ _ c2 (bu.extBut _ _ c3 (cb.extBut _ _ c1 e))));have WO:=bW (bW (bW z8 de.extBut D.TOi1.symm) jm.extBut D.i12) jn.extBut D.TOi1.symm;have WQ:=bW WM jn.extBut D.TOi2.symm;have N':=IT F';refine HP ?_;unfold Builtin.SmallTypes.ownedTupleHandOut;have WR:IsZip (h5.push {cls:=.type "tuple",data:=.seq #[x,y]}) z TI TO .ellipsis:=HU _ F';refine HP (LI WR c! λh7 w9 P'=>?_)
 replace w9:IsZip h7 z TI TO xj!:=w9
 refine LI w9 c! λh8 vb SM=>?_
 replace vb:IsZip h8 z TI TO xj!:=vb
 have up:∀c ob,c≠z->h5.get? c=some ob->h8.get? c=some ob:=λc ob c1 e=>SM.extBut _ _ c1 (P'.extBut _ _ c1 (HU _ e));have SN:=SM.extBut _ _ (MX N') (P'.extBut _ _ (MX N') i3!);rw[sz]at vb SN;refine HS nr!;rw[sz];obtain⟨WU,WV,r1⟩:=WO;obtain⟨WW,WX,r2⟩:=WQ;exact kk h8 vb (up _ _ D.TOz va) ⟨WU,up _ _ D.i1z WV,r1⟩ ⟨WW,up _ _ D.i2z WX,r2⟩ SN λc ob c1 c2 c3 c4 e=>up c ob c1 (WN c ob c1 c2 c3 c4 e)
def a8i{TI TO:qT!}(hh:bh!)(D:iY!)
  (gz:iY_)(gI:iZ!)(gO:iZ_)
  (g1:i0!)(g2:i0_)(g9:gl_)(iu:gm!)(ge:xj_)
  (kk:∀h' e,i1!->(∃ob,h'.get? e=some ob/\ob.cls=.type "StopIteration")->E aw_ {s with heap:=h'}):
  wpAny l! A w9! Q E s:=by
 show"!l";show"!A";refine HP xb_
 replace lq:IsZip Y z TI TO .ellipsis:=lq
 refine HP ?_;dsimp only[_root_.List.zipIdx_cons,_root_.List.zipIdx_nil,_root_.List.forIn_cons,_root_.List.forIn_nil];refine HP i2!;cases gx:xs[k1]? with
 |none=>
  refine HP (rS hh xe_ xd! gx λh2 e bu he=>?_);obtain⟨oe,nr,ss⟩:=he;have SO:=bu _ _ D.i1z.symm lq;have xa:e≠z:=λx=>by subst x;rw[SO]at nr;rcases nr;simp at ss
  refine LI SO c! λh3 _ de=>kk h3 e (λc ob c1 _ c3 _ x=>de.extBut _ _ c1 (bu _ _ c3 xk!)) ⟨oe,de.extBut _ _ xa nr,ss⟩
 |some x=>
  have gy:ys[k2]?=none:=by
   obtain h|h:=ge
   .rw[gx]at h;rcases h
   .exact h
  refine HP xc_;have sm:=bu.extBut _ _ D.TOi1 xd_;refine HP zR!;refine HP xe!;refine HP (PK Q!);refine HP i2!;refine HP (rS hh xf! xg! gy λh4 e jm he=>?_);obtain⟨oe,nr,ss⟩:=he;have SQ:=jm _ _ D.i2z.symm xh_;have xa:e≠z:=λx=>by subst x;rw[SQ]at nr;rcases nr;simp at ss
  refine LI SQ c! λh5 _ jn=>kk h5 e (λc ob c1 c2 c3 c4 x=>jn.extBut _ _ c1 (jm _ _ c4 (de.extBut _ _ c2 (bu.extBut _ _ c3 xk!)))) ⟨oe,jn.extBut _ _ xa nr,ss⟩
def a3f{TI TO:qT!}(D:iY!)
  (gz:iY_)(gI:iZ!)(gO:iZ_)
  (g1:i0!)(g2:i0_)(g9:gl_)(iu:gm!)(gx:w8!)(gy:w8_)
  (kk:∀h',IsZip h' z TI TO (rawInt i!)->IsPair h' TO x y->h'.IsTupleIter i1 l1 (k1+1)->h'.IsTupleIter i2 l2 (k2+1)->IsPair h' s.heap.objs.size x y->
   i1!->Q (some a4_) {s with heap:=h'}):
  wpAny l! A xl! Q E s:=by
 have gT:s.TypeIs i1_ "zip":=xl_;unfold pyNext;exact HP (OK (JV gT RL (JR RL gT xm!
  (a2m D gz gI gO g1 g2 g9 iu gx gy λh' a1 a2 a3 a4 a5 a6=>HS (kk h' a1 a2 a3 a4 a5 a6)) xm_)))
def tM{TI TO:qT!}(hh:bh!)(D:iY!)
  (gz:iY_)(gI:iZ!)(gO:iZ_)
  (g1:i0!)(g2:i0_)(g9:gl_)(iu:gm!)(ge:xj_)
  (kk:∀h',i1!->Q none {s with heap:=h'}):wpAny l! A xl! Q E s:=by
 have gT:s.TypeIs i1_ "zip":=xl_;unfold pyNext;refine HP (OK (JV gT RL (JR RL gT xm!
  (a8i hh D gz gI gO g1 g2 g9 iu ge λh' e hk he=>?_) xm_)))
 obtain⟨ob,ho,hc⟩:=he;exact HP (wpAny_isInstance ⟨ob,ho,hc⟩ isSubtype_stop (HS (kk _ hk)))
abbrev DM(h:Heap)(l1:qT!):Heap:=h.push {cls:=.type "tuple_iterator",data:=.fields #[.ref l1,.int 0 0]}
abbrev DK(h:Heap)(l1 l2:qT!):Heap:=(DM h l1).push {cls:=.type "tuple_iterator",data:=.fields #[.ref l2,.int 0 0]}
abbrev DJ(h:Heap)(l1 l2:qT!):Heap:=(xn_).push {cls:=.type "tuple",data:=.seq #[.ref bD_,.ref (DM h l1).objs.size]}
abbrev DH(h:Heap)(l1 l2:qT!):Heap:=(xo!).push {cls:=.type "tuple",data:=.seq #[.none,.none]}
abbrev BA(h:Heap)(l1 l2:qT!):Heap:=(DH h l1 l2).push {cls:=.type "zip",data:=.fields #[.none,.bool false,.bool false,.ref (xn_).objs.size,.ref (xo!).objs.size]}
def a4a(l1 l2:qT!)(xs ys:bD!):
  Meets (Builtin.«zip.__new__» ⟨[.type "zip",.ref l1,.ref l2],[]⟩) (λ_ R s=>s.heap.IsTuple l1 xs/\s.heap.IsTuple l2 ys/\R (.ok (.ret (.ref (nt_).objs.size))) {s with heap:=BA s.heap l1 l2}):=
 .of_wp λprog w A R s h=>by
  obtain⟨hp,g,d,tk,os⟩:=s;obtain⟨g9,iu,h⟩:=h;have SS:=sub_zip;have WY:=g9;have WZ:Heap.IsTuple (Shared.heap ⟨hp.push {cls:=.type "tuple_iterator",data:=.fields #[.ref l1,.int 0 0]},g,d,tk,os⟩) l2 ys:=by obtain⟨ob,eo,r⟩:=iu;exact⟨ob,HU _ eo,r⟩
  wp_walk using wpAny_pyIter_tuple WY,wpAny_pyIter_tuple WZ
  exact⟨_,rfl,h⟩
def b7i(g9:gl_)(iu:gm!)
  (kk:∀h',IsZip h' (i!+4) (i!+2) (i!+3) .none->IsPair h' (i!+2) a4_ (.ref T!)->
   IsPair h' (i!+3) .none .none->h'.IsTupleIter s.heap.objs.size l1 0->h'.IsTupleIter T! l2 0->(∀c ob,s.heap.get? c=some ob->h'.get? c=some ob)->Q (.ref (i!+4)) {s with heap:=h'}):
  wpAny l! A (call nw! [.ref l1,.ref l2]) Q E s:=by
 refine callType_new F.called_zip a_ (F.typeCall_zip_2 _ _) (F.newCall_zip_2 _ _) (λobj=>F.args_object_init_3 obj _ _) F.entry_zip_new (a4a l1 l2 xs ys) ⟨g9,iu,?_⟩;have z1:(xq_).objs.size=i!+1:=NE ..;have z2:(xr!).objs.size=i!+2:=by rw[NE,z1]
 have z3:(xr_).objs.size=i!+3:=by rw[NE,z2]
 have z4:(nt_).objs.size=i!+4:=by rw[NE,z3]
 have y5:(go!).get? (nt_).objs.size=some _:=IL _ rfl;have y4:(go!).get? (xr_).objs.size=some _:=HU _ i3!;have y3:(go!).get? (xr!).objs.size=some _:=HU _ nx!;have y2:(go!).get? (xq_).objs.size=some _:=HU _ (HU _ nx!);have y1:(go!).get? i!=some _:=HU _ (HU _ (HU _ nx!));show _/\_;rw[z2,z3,z4]at y5;rw[z1,z2]at y3;rw[z3]at y4;rw[z1]at y2;rw[z4];exact⟨⟨_,y5,rfl⟩,kk _ y5 y3 y4 ⟨_,y1,rfl,rfl⟩ ⟨_,y2,rfl,rfl⟩ λc ob x=>HU _ (HU _ (HU _ (HU _ (HU _ x))))⟩
end
def EA(KF:zM!)(a b:qT!):It:=
 ⟨λi H=>∃xs ys x y,Ex KF H a xs/\Ex KF H b ys/\xs[i]?=some x/\ys[i]?=some y,
   λi H v H'=>∃T,v=.ref T/\H T=none/\∀xs ys,Ex KF H a xs->Ex KF H b ys->∃x y,xs[i]?=some x/\ys[i]?=some y/\H'=upd H T (.tup dd!),
   λi H=>∃xs ys,Ex KF H a xs/\Ex KF H b ys/\(f_<=i\/ad_<=i)⟩
def b5v{P:gp!}:∀x∈([]:List α),P x:=λ_ h=>by exact(cR!).elim
def fY{P:gp!}(h:P a)(k:∀x∈l,P x):∀x∈a::l,P x:=λx hx=>by
 obtain rfl|hx:=HW.mp hx
 .exact h
 .exact k x hx
def vJ{ch:ax_}(I:b_)(hf:∀c∈ch,Eo X J H c)(kp:∀c o,c∉ch->s.heap.get? c=some o->h'.get? c=some o):Inv X J Z H {s with heap:=h',toks:=s.toks}:=by
 refine xs_
 .obtain⟨_,f2,_,f4,f5,f6⟩:=hf c hc;exact⟨f4,f2,f5,f6⟩
 .show"#1";exact xt!
 .refine(xt_).stay xu! xv! λ_ _ e'=>e';have hn:=(hf d hm).1;obtain rfl|hd:=hd
  .rw[hn]at e;rcases e
  .rw[hn]at hd;rcases hd
def ne4(h:c∉xv_):c≠a1/\c≠a2/\c≠a3/\c≠a4:=by simpa using h
def c6r{P:gp!}(h:∀x∈[a1,b,a2,a3,a4],P x):∀x∈xv_,P x:=λx hx=>h x (by simp only[HW]at hx ⊢;exact hx.imp_right .inr)
def a8m{w:wZ!}{KF:zM!}{a b TI TO:qT!}(D:ZipApart z TI TO i1 i2 a b):
  Pf P w KF eR_ (EA KF a b) xy! z (λi h=>IsZip h z TI TO .none/\IsPair h TI (.ref i1) (.ref i2)/\(∃p q,IsPair h TO p q)/\h.IsTupleIter i1 a i/\h.IsTupleIter i2 b i) where
 mem:=by simp
 obj:=λi h st=>by
  obtain⟨s1,s2,⟨p,q,s3⟩,⟨o4,s4,c4,d4⟩,⟨o5,s5,c5,d5⟩⟩:=st;exact fY ⟨_,s1,nA_⟩ (fY ⟨_,s2,nA_⟩ (fY ⟨_,s3,nA_⟩ (fY ⟨o4,s4,λv y=>by rw[d4]at y;cases y⟩ (fY ⟨o5,s5,λv y=>by rw[d5]at y;cases y⟩ b5v))))
 keep:=λi h h' st k=>by
  obtain⟨s1,s2,⟨p,q,s3⟩,⟨o4,s4,r4⟩,⟨o5,s5,r5⟩⟩:=st;exact⟨k z c! _ s1,k TI c! _ s2,⟨p,q,k TO c! _ s3⟩,⟨o4,k i1 c! _ s4,r4⟩,⟨o5,k i2 c! _ s5,r5⟩⟩
 item:=by
  intro X hP hw hK hc i J s Z H E I hf st hg;subst hP hw hK;obtain⟨xs,ys,x,y,qa,qb,hx,hy⟩:=hg;obtain⟨s1,s2,⟨p,q,s3⟩,s4,s5⟩:=st;obtain⟨ia,ra,ta,za⟩:=I.tuple qa;obtain⟨ib,rb,tb,zb⟩:=I.tuple qb;obtain⟨u,hu,ru⟩:=ra.get hx;obtain⟨v,hv,rv⟩:=rb.get hy;refine a3f D s1 s2 s3 s4 s5 ta tb q1! hV_ λh' a1 a2 a3 a4 a5 a6=>?_;refine⟨_,rfl,wpAny_letOwnedTupleGo_zip a1 λh2 b1 bu=>?_⟩;have pv:Heap.SameBut z h' h2:=bu;have neT:∀c o,s.heap.get? c=some o->i!≠c:=λc o e=>MX cs!;have I1:Inv X J Z H {s with heap:=h2,toks:=s.toks}:=vJ I (c6r hf) λc o hc e=>by
   obtain⟨n1,n2,n3,n4⟩:=ne4 hc;exact pv.extBut _ _ n1 (a6 c o n1 n2 n3 n4 e)
  have sv:=I.hok.fresh p!;have eT:h2.get? i!=some {cls:=.type "tuple",data:=.seq #[u,v]}:=pv.extBut _ _ (neT z _ s1) a5;have I2:Inv X J Z (upd H s.heap.objs.size (.tup dd!)) {s with heap:=h2,toks:=s.toks}:=by
   have ne:∀c o,H c=some o->c≠i!:=λc o e=>bY e sv;have XA:∀p∈X.pn++J,p.1≠i!:=λp hp=>JH (IT (kR_).1);refine Inv.step (s:={s with heap:=h2,toks:=s.toks}) (g':=s.gens) (d':=s.drawn) (t':=s.toks) (h':=h2) (ch:=[i!]) I1 ny! xB! xB_ xC! xC_
    (xD_) xE! xF_ mj_ nz_ I1.bare
   .have e:c=i!:=by simpa using hc
    subst e;exact⟨.inr I.sz,MX I.lt,λx c h=>(λz=>by obtain⟨v,o,ho,_⟩:=I.cell x c h;rw[z]at ho;exact absurd g5! c3_),XA⟩
   .rw[mk!];exact n
   .by_cases hb:c=i!
    .show"!r";exact⟨by show 2<=sizeLine;rw[KA];decide,[u,v],.cons ru (.cons rv .nil),⟨_,eT,rfl,_,rfl⟩⟩
    .rw[c4!]at e;exact(xH_).stay mk_ xH! λd xs q=>by rw[nE_];exact q
  refine⟨cH!,_,I2,rfl,⟨_,rfl,sv,λxs' WL d8 sw=>⟨x,y,?_,?_,rfl⟩⟩,⟨b1,pv.extBut _ _ D.TIz (a6 TI _ D.TIz D.TITO D.TIi1 D.TIi2 s2),⟨u,v,pv.extBut _ _ D.TOz a2⟩,bW a3 pv.extBut D.i1z,bW a4 pv.extBut D.i2z⟩,nF_⟩
  .rw[I.tuple_inj d8 qa];exact hx
  .rw[I.tuple_inj sw qb];exact hy
  .have c7:∀c∈xy!,∃o,s.heap.get? c=some o:=by
    obtain⟨o4,t4,_⟩:=s4;obtain⟨o5,t5,_⟩:=s5;exact fY ⟨_,s1⟩ (fY ⟨_,s2⟩ (fY ⟨_,s3⟩ (fY ⟨_,t4⟩ (fY ⟨_,t5⟩ b5v))))
   obtain⟨o,ho⟩:=c7 c hc;rw[aS (JF (neT c o ho))];exact(hf c hc).1
 done:=by
  intro X hP hw hK hc i J s Z H E I hf st hg;subst hP hw hK;obtain⟨xs,ys,qa,qb,XB⟩:=hg;obtain⟨s1,s2,⟨p,q,s3⟩,s4,s5⟩:=st;obtain⟨ia,ra,ta,za⟩:=I.tuple qa;obtain⟨ib,rb,tb,zb⟩:=I.tuple qb;have l1:=ra.length;have l2:=rb.length;refine tM az! D s1 s2 s3 s4 s5 ta tb (by
   obtain h|h:=XB
   .left;simp;omega
   .right;simp;omega) λh2 a6=>h_
  exact vJ I (ch:=[z,TO,i1,i2]) (c6r hf) λc o hc e=>by
   obtain⟨n1,n2,n3,n4⟩:=ne4 hc;exact a6 c o n1 n2 n3 n4 e
 self:=λA i s Q E st h=>wpAny_pyIter_zip st.1 h
section
variable{X:Cx}{own:List Nat}{e a b c o i tg:Expr}{es lu:List Expr}{pos p2 p tp:Pos}{f fa fb fc fe:Ae->Option D}{n1:Nat}
def b9e(hg:Gl X "zip")(hm:xM!)(hv:xL!)(ha:PA X bb_ ta)(hs:xL_:=by rfl)(a7:xM_:=by rfl):
  PI X eR_ xN! (λZ H R=>ta Z H λvs H1=>∃x y xs ys,vs=[.ref x,.ref y]/\Ex X.K H1 x xs/\Ex X.K H1 y ys/\R (EA X.K x y) H1):=by
 intro J s Z H R I h;refine Call_ (iE I hg hm hv (KJ (cZ fy_ ?_) hs a7));rintro us s1 ⟨vs,H1,I1,r1,q1⟩;obtain⟨x,y,xs,ys,rfl,qx,qy,q⟩:=q1;obtain⟨u,u',rfl,ru,be⟩:=zR r1;subst ru;subst be;obtain⟨ia,ra,SU,za⟩:=I1.tuple qx;obtain⟨ib,rb,SV,zb⟩:=I1.tuple qy;have lx:x<x_:=by obtain⟨ob,eo,_⟩:=SU;exact IT eo
 have ly:y<x_:=by obtain⟨ob,eo,_⟩:=SV;exact IT eo
 refine b7i SU SV λh' a1 a2 a3 a4 a5 a6=>?_;refine wpAny_pyIter_zip a1 ?_;have I2:Inv X J Z H1 {s1 with heap:=h',toks:=s1.toks}:=I1.kept a6;have D:ZipApart (x_+4) (x_+2) (x_+3) s1.heap.objs.size (x_+1) x y:=by
  constructor<;>(intro z;have z':@Eq Nat _ _:=z;have l1:@LT.lt Nat _ x _:=lx;have l2:@LT.lt Nat _ y _:=ly;omega)
 refine⟨_,_,_,EA X.K x y,H1,rfl,I2,a8m D,⟨a1,a2,⟨_,_,a3⟩,a4,a5⟩,nF_,q⟩;have jo:x_<=c:=by
  simp only[HW,HY,OH]at hc;obtain rfl|rfl|rfl|rfl|rfl:=hc<;>omega
 exact I1.fpOk jo (I1.hok.fresh jo)
def Iz:List D->List D->List D
 |x::xs,y::ys=>.tup dd!::Iz xs ys
 |_,_=>[]
def AQ(fa fb:j!):Ae->Option aD!:=λρ=>(f4!).bind λx=>(it_).bind λy=>match x,y with|.tup xs,.tup ys=>some i5_|_,_=>none
def zP:∀(xs ys:d!) (n:Nat) (d:D),i5_[n]?=some d->∃x y,xs[n]?=some x/\ys[n]?=some y/\d=.tup dd!
 |[],_,n,d,h=>by simp[Iz]at h
 |_::_,[],n,d,h=>by simp[Iz]at h
 |x::xs,y::ys,0,d,h=>by
  simp[Iz]at h;exact⟨x,y,rfl,rfl,h.symm⟩
 |x::xs,y::ys,n+1,d,h=>by
  obtain⟨u,v,Y,h2,h3⟩:=zP xs ys n d (by simpa[Iz]using h);exact⟨u,v,kb_,xN_,h3⟩
def zO:∀(xs ys:d!),f_<=(i5_).length\/ad_<=(i5_).length
 |[],ys=>.inl bw!
 |_::_,[]=>.inr bw!
 |x::xs,y::ys=>by
  obtain h|h:=zO xs ys
  .left;simp[Iz];exact h
  .right;simp[Iz];exact h
def c0j{KF:zM!}{es:d!}(qa:Ex KF G1 x vs)(qb:Ex KF G1 y ws)(ra:v2!)(rb:Ak KF G1 es ws):Ys KF (EA KF x y) (Iz ds es) G1:=by
 intro n G' H' s1 s2;have d8:Ex KF H' x vs:=bK s2 (bK s1 qa);have sw:Ex KF H' y ws:=bK s2 (bK s1 qb);refine⟨dE_,λhn=>⟨vs,ws,d8,sw,?_⟩⟩
 .obtain⟨u,v,Y,h2,rfl⟩:=zP ds es n d hd;obtain⟨v1,g1,r1⟩:=gA ra Y;obtain⟨v2,g2,r2⟩:=gA rb h2;refine⟨⟨vs,ws,v1,v2,d8,sw,g1,g2⟩,λx' gj hy=>?_⟩;obtain⟨T,rfl,hT,hh⟩:=hy;obtain⟨x1,y1,e1,e2,rfl⟩:=hh vs ws d8 sw;rw[g1]at e1;rw[g2]at e2;rcases e1;rcases e2;exact⟨_,Bn.laid s2 hT,fE (s2.free hT) (Ak.cons (r1.mono s1) (Ak.cons (r2.mono s1) Ak.nil))⟩
 .rw[hn,<-aG ra,<-aG rb];exact zO ds es
def c5m(hg:Gl X "zip")(hm:xM!)(hv:xL!)(ha:N_)(hb:ce!)(hs:xL_:=by rfl)
  (bu:starEach [b] X.env=nH!::starEach [] X.env:=by rfl)(a7:xM_:=by rfl):DI X own eR_ xN! (AQ fa fb):=
 a2b (b9e hg hm hv (dB ha.ok (dB hb.ok fK bu) hs) hs a7) λZ G H R ρ ds er e k=>by
  obtain⟨x,e1,e⟩:=HQ.mp e;obtain⟨y,e2,e⟩:=HQ.mp e;cases x with
  |tup xs=>
   cases y with
   |tup ys=>
    rcases e;refine⟨G,ρ,_,er,e1,λv G1 H1 s1 r1=>⟨G1,ρ,_,cM!,e2,λw G2 H2 s2 r2=>?_⟩⟩;obtain⟨p,vs,rfl,q,rr⟩:=bD eE_;obtain⟨p',ws,rfl,q',b5⟩:=bD r2;exact⟨p,p',vs,ws,rfl,bK s2.sub q,bK s2.sub q',k _ G2 H2 dB! (c0j q q' rr b5)⟩
   |_=>cases e
  |_=>cases e
end
def Wt:D->D->Option D:=Pd Uf λi j=>.int (i*j)
def a3l{KF:zM!}:Fu KF k2! Wt:=c4e
def Er:D->D->Option D:=Pd vH_ λi j=>.int (i%j)
def eZ{KF:zM!}:Fu KF k3_ Er:=c4f
def Ev:D->D->Option D:=Pd vI_ λi j=>.int fB!
def gL{KF:zM!}:Fu KF k2_ Ev:=b9s
def AN:D->D->Option D:=Pd vJ! λi j=>.int k4_
def c4a{KF:zM!}:Fu KF k4! AN:=c4d
def Sh:D->D->Option D:=Gn λi j=>.bl k7!
def a6q{KF:zM!}:Fu KF k7_ Sh:=c7k
def Xh:D->D->Option D:=Gn λi j=>.bl k9_
def a6r{KF:zM!}:Fu KF la! Xh:=c7l
def GP:D->D->Option D:=Gn λi j=>.bl la_
def c7i{KF:zM!}:Fu KF lb! GP:=c7m
section
variable{X:Cx}{own:List Nat}{pos p2:Pos}
def iP:Fc X k8! xQ!:=c7e.or a9h
def Kt:D->D->Option D
 |.int i,.int j=>some (.bl k8_)
 |.str x,.str y=>some (.bl (Pi x y))
 |_,_=>none
def iQ{KF:zM!}:Fu KF xQ! Kt:=by
 show"!2";unfold Kt at e;show"!8"
 .show"!>";exact .inl nH_
 .show"!n";rcases e;exact .inr nH_
 .rcases e
def Xg:D->D->Option D
 |.int i,.int j=>some (.bl (!(i==j)))
 |.str x,.str y=>some (.bl (!(x==y)))
 |_,_=>none
def uT{KF:zM!}:Fu KF GI Xg:=by
 show"!2";unfold Xg at e;show"!8"
 .show"!>";refine h_;rw[a8a];exact k _ G H aN! Ao.bl
 .show"!n";rcases e;refine h_;rw[a7z];exact k _ G H aN! Ao.bl
 .rcases e
def eK(hm:∃t,X.mg x=some c2!)(hg:G_)(hd:y_:=by decide):DE X own cv! mD!:=by obtain⟨t,ht⟩:=hm;exact c1c hg ht hd
end
def bS{X:Cx}{scope sc:Scope}(h:X.env.scope=sc)(hd:∀y∈bN!,y.2=.free->(sc.names.lookup y.1=some .cell\/sc.names.lookup y.1=some .free)):
  ∀y∈bN!,y.2=.free->uU_:=λy hy hf=>by
 unfold Env.kindOf;rw[h];exact hd y hy hf
section
variable{X:Cx}{own:List Nat}{a b c:Expr}{pos p2:Pos}{fa fb fc:Ae->Option D}
def a1z(ho:bF!)(hg:dA!)(d9:hv_)(sj:wE!)(ha:N_)(hb:ce!)(hc:ng_)
  (hm:hw!:=by with_unfolding_all rfl):DT X own hw_ (fT wE_):=
 sX (b2j ho d9 ha.ok hb.ok hc.ok hm) λZ G H Q ρ d er e k=>by
  have e:=jH e;obtain⟨x,e1,e⟩:=HQ.mp e;obtain⟨y,e2,e⟩:=HQ.mp e;obtain⟨z,e3,e⟩:=HQ.mp e;refine wH!;have nq:=s1.trans eF!;cases z with
  |bl bb=>
   obtain rfl:=dA r3;refine wH_;cases bb with
   |true=>
    obtain⟨u,e4,e⟩:=HQ.mp e;refine jR ⟨G3,ρ,u,er.grow nq,e4,λq G4 H4 s4 r4=>sj s4.sub wI! r4 e λv G5 H5 s5 r5=>?_⟩;obtain rfl:=dA r5;exact⟨d,rfl,k G5 H5 wI_⟩
   |false=>
    cases e;exact jS ⟨false,rfl,k G3 H3 nq⟩
  |_=>cases e
def b0l(hd:Sc X x b6)(hg:G_)(ha:N_)(hm:behindInMarks .NotIn eJ_=false:=by rfl)(a8:y_:=by decide):DT X own (.Compare a [.NotIn] eJ! pos) (fT (Yl b6 true fa)):=by
 show"#;";refine sX (t:=λZ H Q=>tD X.K own fa Z H λv H1=>∃y,v=.str y/\Q (!(Kw h1 dH_).isSome) H1) wK_ λZ G H Q ρ d er e k=>?_
 .refine wpAny_isTrue_Compare1 (cZ wL! λv s1 ⟨y,H1,I1,r1,z,hz,q1⟩=>gR I1 hg jz ?_ a8) hm;subst hz;refine wpAny_notIn_of wM! z6 (wz _ I1.kIn).mapOf ?_;rw[<-(w4.val (Sum.inr z)).isSome_eq];exact JW ⟨H1,I1.tok _,q1⟩
 .have e:=jH e;obtain⟨x,e1,e⟩:=HQ.mp e;cases x with
  |str y=>
   cases e;refine ga_;obtain rfl:=cB r1;refine⟨y,rfl,?_⟩;have hb:(Kw h1 dH_).isSome=(ni!).isSome:=by
    cases ht:b6.lookup y with
    |none=>rw[(hn y).mpr ht];rfl
    |some d=>obtain⟨v,hv,_⟩:=hs y d ht;rw[hv];rfl
   rw[hb];exact k G1 H1 s1
  |_=>cases e
end
def dI:bootBuiltins "len"=some rO_:=by decide+kernel
def c6a:bootBuiltins "abs"=some rK_:=by decide+kernel
def c5x:bootBuiltins "ord"=some rM!:=by decide+kernel
def zJ:bootBuiltins "all"=some vX!:=by decide+kernel
def dD:bootBuiltins "isinstance"=some mT_:=by decide+kernel
def c5z:bootBuiltins "int"=some bq_:=by decide+kernel
def c1m:bootBuiltins "bool"=some br!:=by decide+kernel
def b7n:bootBuiltins "str"=some br_:=by decide+kernel
def nY:bootBuiltins "tuple"=some aX!:=by decide+kernel
def a8g:bootBuiltins "list"=some dt_:=by decide+kernel
def c5w:bootBuiltins "zip"=some nw!:=by decide+kernel
def Dx(KF:zM!)(mg:L_)(x:Str)(st:Stmt)(ps:E_):Prop:=∃ag fd,Xd KF x x st ag fd/\Do KF fd ps []/\mg x=some aW!
def Fm(N:E_)(n:Nat)(q:dF!)(ds:d!):Option D:=if g_=n then(match q cP! with|some (.rt d)=>some d|some (.nx _)=>some .non|none=>none)else none
def fL{KF:zM!}{st:Stmt}(h:nJ_)(S:cI!)
  (hb:∀{ag:qT!} {ah:wY!} {A:wX!} {outer:af!} {s:xR!} {H:Hp} {E:XK},Ai k i6_->N.Nodup->Zq (nK!).nox [] [] a8! q):
  Ok P w KF mg base J_ x ps (Fm N ps.length q):=by
 obtain⟨ag,fd,F,B,m⟩:=h;refine⟨ag,fd,c5n F S (λah A outer s H E hr=>hb hr S.nd) (λds d hl e=>?_),B,m,F.kp⟩;unfold Fm at e;rw[IB hl]at e;show"!8"
 .rcases e;left;assumption
 .rcases e;right;exact⟨_,xQ_,rfl⟩
 .rcases e
def CO:Const->Option D
 |.int i=>some ay!
 |.str i=>some im_
 |.bool i=>some (.bl i)
 |.none=>some .non
 |_=>none
mutual
noncomputable def Tj:Nat->Expr->Option D
 |0,_=>none
 |n+1,e=>match e with
  |.Constant c _ _=>CO c
  |.Tuple es _ _=>(nK_).bind λds=>if g_<=1000 then some dx_ else none
  |.List es _=>(nK_).bind λds=>if g_<=1000 then some bm! else none
  |_=>none
noncomputable def Ti:Nat->List Expr->Option aD!
 |0,_=>none
 |n+1,[]=>some []
 |n+1,e::es=>(Tj n e).bind λd=>(nK_).bind λds=>some dy!
end
section
variable{X:Cx}{own:List Nat}
def b4r(h:Tj n e=some d):starEach aq! X.env=dj!::starEach es X.env:=by
 cases n with
 |zero=>unfold Tj at h;rcases h
 |succ n=>
  cases e<;>first|rfl|(simp[Tj]at h;done)
set_option tactic.hygienic true in
mutual
theorem sY:∀{n:Nat} {e:Expr} {d:D},Tj n e=some d->DE X own e (fC d)
 |0,e,d,h=>by unfold Tj at h;rcases h
 |n+1,e,d,h=>by
  unfold Tj at h;split at h
  .unfold CO at h;split at h
   .rcases h;exact aD
   .rcases h;exact aR
   .rcases h;exact fG
   .rcases h;exact dU
   .rcases h
  .obtain⟨ds,e1,e2⟩:=HQ.mp h;split at e2
   .rename_i hl;rcases e2;refine eE (eI (a4w e1)).ok λZ G H Q ρ d er e k=>?_;show"#6"
   .rcases e2
  .obtain⟨ds,e1,e2⟩:=HQ.mp h;split at e2
   .rename_i hl;rcases e2;refine eE (pK (a4w e1)).ok λZ G H Q ρ d er e k=>?_;show"#6"
   .rcases e2
  .rcases h
theorem a4w:∀{n:Nat} {es:ct_} {ds:d!},Ti n es=some ds->DA X own es (λ_=>some ds)
 |0,e,d,h=>by unfold Ti at h;rcases h
 |n+1,[],d,h=>by
  unfold Ti at h;rcases h;exact aO
 |n+1,e::es,d,h=>by
  unfold Ti at h;obtain⟨d1,e1,h⟩:=HQ.mp h;obtain⟨ds,e2,h⟩:=HQ.mp h;rcases h;exact b6u (aI (sY e1) (a4w e2) (b4r e1)).ok λZ G H Q ρ d er e k=>⟨G,ρ,_,er,e,k⟩
end
end
section
variable{P:xc!}{w:wZ!}{KF:zM!}{mg:Str->Option Value}{h:Heap}
def aQ{st:Stmt}{kV:wY!}(X:eT!)(G:eT_)
  (a:xS!)(l:xT!)
  (c:xT_)(k:i7!)
  (b:xU!):Dx KF mg x st ps:=
 ⟨f,_,i7_,nL!,nL_⟩
def AW(KF:zM!)(mg:L_)(x:Str)(st:Stmt)(ps:E_):Prop:=∃ag fd,Xd KF x x st ag fd/\(∀us:List Value,aj_=P_->bindArgs fd cF_=pure cE_)/\mg x=some aW!
def c1a{st:Stmt}{kV:wY!}(X:eT!)(G:eT_)
  (a:xS!)(l:xT!)
  (c:xT_)(k:i7!)
  (b:xU!):AW KF mg x st ps:=
 ⟨f,_,i7_,b _ _ _ _ _ _,nL_⟩
def nR(X:eT!)(G:eT_)(a:W.nsIn KF mainGlobals x=some (some (.int i tk))):∃tk,mg x=some (.int i tk):=⟨tk,nL_⟩
def dJ(X:eT!)(G:eT_)(e:W.nsIn KF mainGlobals x=some (some D_)):mg x=some D_:=W.mg_of X G e
def cY(X:eT!)(G:eT_)(e:W.nsIn KF mainGlobals x=some none):mg x=none:=W.mg_none_of X G e
def vK{KF:zM!}:∀(ns:u!),Ak KF H nM! bL_
 |[]=>Ak.nil
 |n::r=>Ak.cons Ao.int (vK r)
abbrev Ts:=Str×Tok×Addr
def AB(w:wZ!)(r:Ts):DictEntry:=⟨PyData.keyHash w.params r.1,.str r.1 r.2.1,.ref r.2.2⟩
def Tr(KF:zM!):List Ts->List bQ_->Prop
 |[],[]=>True
 |r::rs,t::ts=>r.1=t.1/\(∀H,Ao KF H t.2 (V.ref r.2.2))/\Tr KF rs ts
 |_,_=>False
abbrev Uc(rows:gs_):List mu!:=rows.map λr=>(Sum.inr r.1,V.ref r.2.2)
abbrev Rh(rows:gs_):List wK!:=rows.map λr=>(Sum.inr r.1,Value.ref r.2.2)
def qY:∀(rows:gs_),Pairs a1_ xU_ nN!
 |[]=>.nil
 |r::rs=>.cons (kC P w r.1 r.2.1) rfl (qY rs)
def oI:∀{rows:gs_} {b6:gi!},Tr KF rows b6->(Kw nN_ dH_=none↔b6.lookup y=none)/\∀d,b6.lookup y=some d->∃v,Kw nN_ dH_=some v/\∀H,Ao KF H d v
 |[],[],_=>⟨⟨dh_,dh_⟩,λd e=>by rcases e⟩
 |[],t::ts,h=>h.elim
 |r::rs,[],h=>h.elim
 |r::rs,(x,d0)::ts,h=>by
  obtain⟨Y,h2,h3⟩:=h;have ih:=oI (y:=y) h3;have j6:r.1=x:=Y;unfold Kw at ih ⊢;simp only[IJ,MH,KD];by_cases e:y=x
  .subst e;have:decide xV!=true:=by simp[j6]
   simp only[this,LS];refine⟨⟨xV_,xV_⟩,λd z=>?_⟩;rcases z;exact⟨_,rfl,h2⟩
  .have e1:decide xV!=false:=by
    rw[j6];exact IG λz=>e (xW!).symm
   have e2:(y==x)=false:=by simp[e]
   simp only[e1,e2];exact ih
def a7f:∀(rows:gs_),KV nN_ nN!
 |[]=>.nil
 |r::rs=>.cons aH_ (a7f rs)
def b5p{ad:qT!}(hw:X.w=w)(hK:X.K=KF)(jz:X.mg=mg)(hm:mg x=some iS_)(hs:nh_=false)(hl:KF.lookup ad=some {cls:=.type "dict",data:=.dict (xU_).toArray ep})
  (nd:i8_)(ht:Tr KF rows b6):Sc X x b6:=by
 subst hw hK jz;refine⟨ad,Uc rows,Rh rows,hm,hs,λh hK=>⟨_,_,_,hK _ _ hl,nO_,rfl,?_,?_,?_⟩,a7f rows,λy=>(oI ht).1,λy d=>(oI ht).2 d⟩
 .intro e he;have iw:e∈rows.map (AB X.w):=by simpa using he
  obtain⟨r,hr,rfl⟩:=IY.mp iw;exact⟨Sum.inr r.1,kC _ _ r.1 r.2.1,rfl⟩
 .simpa using qY rows
 .have e:(nN!).map c_=(nO!).map (Sum.inr:Str->L2.Key):=by simp[Rh]
  rw[e];exact List.Pairwise.map _ (λa b ll z=>ll xW!) nd
def a0h:∀(fs:ax_),Ak KF H xX_ xY!
 |[]=>Ak.nil
 |n::r=>Ak.cons (by unfold Ao;rfl) (a0h r)
def uE:∀(fs:ax_),Ar xY! xY_
 |[]=>.nil
 |n::r=>.cons rfl (uE r)
def fZ{fs:ax_}(l:KF.lookup a=some ⟨cj!,od,.seq (xY_).toArray n,sl⟩)(hz:a2!<=1000)(H:Hp):Ao KF H (.tup xX_) eC!:=
 Ao.tup (.inr ⟨_,_,n,l,rfl,rfl,by simpa using eG hz,by simpa using uE fs⟩) (a0h fs)
end
abbrev MK:=Option (Sum L2.Key xZ_)
abbrev CM:Int:=0xFCA86420
section
variable{P:xc!}{w:wZ!}{A:wX!}{E:Value->Shared->Prop}{s:xR!}
variable (P w)in
def Iy(h:Heap):MK->Value->Prop
 |none,v=>v=.none
 |some (.inl k),v=>Oh k v=true
 |some (.inr ks),v=>∃a,v=.ref a/\IsTupleKey a1_ h ks a
variable (P w)in
nonrec def mkHash:MK->Int
 |none=>CM
 |some (.inl k)=>CP w k
 |some (.inr ks)=>tupleKeyHash a1_ ks
def a1a(hx:Iy P w h x v)(hy:Iy P w h y v):x=y:=by
 obtain _|x|x:=x<;>obtain _|y|y:=y
 .rfl
 .cases x1_;obtain⟨i,t,_,e⟩|⟨i,t,_,e⟩:=bA hy<;>exact nomatch e
 .cases x1_;obtain⟨a,e,_⟩:=hy;exact nomatch e
 .cases gt_;obtain⟨i,t,_,e⟩|⟨i,t,_,e⟩:=bA hx<;>exact nomatch e
 .rw[(a1_).inj v x y hx hy]
 .obtain⟨a,rfl,_⟩:=hy;obtain⟨i,t,_,e⟩|⟨i,t,_,e⟩:=bA hx<;>exact nomatch e
 .cases gt_;obtain⟨a,e,_⟩:=hx;exact nomatch e
 .obtain⟨a,rfl,_⟩:=hx;obtain⟨i,t,_,e⟩|⟨i,t,_,e⟩:=bA hy<;>exact nomatch e
 .obtain⟨a,rfl,hx⟩:=hx;obtain⟨b,e,hy⟩:=hy;cases e;rw[hx.inj hy]
def iY(x:IsTupleKey a1_ h ks a):∃its,h.IsTuple a its:=by obtain⟨o,its,n,Y,h2,h3,_⟩:=x;exact⟨its,o,Y,h2,n,h3⟩
def b4f(hu:ah!)(hx:nP!)(hy:Iy P w s.heap y v)(h:Q (decide (x=y)) s):wpAny B_ A (eqBool u v) Q E s:=by
 obtain _|x|x:=x<;>obtain _|y|y:=y
 .cases gu!;cases gt_;rw[eU!]at h;exact SeqAt.EqAt.same _ _ _ _ _ h
 .cases gu!;rw[eU_]at h;obtain⟨i,t,rfl,rfl⟩|⟨i,t,rfl,rfl⟩:=bA hy
  .exact SeqAt.EqAt.none_int i t _ _ _ _ h
  .exact SeqAt.EqAt.none_str i t _ _ _ _ h
 .cases gu!;rw[eU_]at h;obtain⟨a,rfl,q⟩:=hy;obtain⟨its,q⟩:=iY q;exact SeqAt.EqAt.none_tuple q hu _ _ _ _ h
 .cases gt_;rw[eU_]at h;obtain⟨i,t,rfl,rfl⟩|⟨i,t,rfl,rfl⟩:=bA hx
  .exact SeqAt.EqAt.int_none i t _ _ _ _ h
  .exact SeqAt.EqAt.str_none i t _ _ _ _ h
 .refine(a1_).eqBool hx hy ?_;by_cases e:x=y
  .subst e;rw[eU!]at h ⊢;exact h
  .rw[IG cq!]at h;rw[IG e];exact h
 .rw[eU_]at h;obtain⟨a,rfl,q⟩:=hy;obtain⟨its,q⟩:=iY q;obtain⟨i,t,rfl,rfl⟩|⟨i,t,rfl,rfl⟩:=bA hx
  .exact SeqAt.EqAt.int_tuple i t q hu _ _ _ _ h
  .exact SeqAt.EqAt.str_tuple i t q hu _ _ _ _ h
 .cases gt_;rw[eU_]at h;show"#$";obtain⟨its,q⟩:=iY q;exact SeqAt.EqAt.tuple_none q hu _ _ _ _ h
 .rw[eU_]at h;obtain⟨a,rfl,q⟩:=hx;obtain⟨its,q⟩:=iY q;obtain⟨i,t,rfl,rfl⟩|⟨i,t,rfl,rfl⟩:=bA hy
  .exact SeqAt.EqAt.tuple_int i t q hu _ _ _ _ h
  .exact SeqAt.EqAt.tuple_str i t q hu _ _ _ _ h
 .show"#$";obtain⟨b,rfl,q2⟩:=hy;refine wpAny_eqBool_tuple hu q q2 ?_;by_cases e:x=y
  .subst e;rw[eU!]at h ⊢;exact h
  .rw[IG cq!]at h;rw[IG e];exact h
def a0z(hx:nP!)(h:Q true s):wpAny B_ A (eqIsQuiet 8 u) Q E s:=by
 obtain _|x|x:=x
 .cases gu!;rw[eqIsQuiet_byValue _ rfl];exact HS h
 .rw[eqIsQuiet_byValue _ ((a1_).byValue x u hx)];exact HS h
 .show"#$";exact wpAny_eqIsQuiet_tuple q h
def xQ(hu:ah!)(hx:nP!)(h:∀tk,Q (mkHash P w x) {s with toks:=tk}):wpAny B_ A (pyHash u) Q E s:=by
 obtain _|x|x:=x
 .cases gu!;unfold pyHash;have hv:[c2_].any Value.onHeap=false:=rfl;refine HP ?_;rw[cRoomFor,IF (by rw[hv];exact JB)];refine HS ?_;have hT:s.TypeIs .none "NoneType":=rfl;refine HP x2_;rw[IF (show¬(some (Value.builtin "NoneType.__hash__")==some Value.none)=true by rw[beq_builtin_none];exact JB)];refine HP x2_;refine HP (wpAny_callSpecialIfBoundUnlessNone?_slot hT OB (JR OB hT PySem.F.entry_NoneType_hash ?_ (PySem.F.args_NoneType_hash_1 _)));refine wpAny_ret_mkInt ?_;exact HS (h _)
 .exact(a1_).pyHash hx (h _)
 .show"#$";exact wpAny_pyHash_tuple hu q (h _)
end
def Kg(ks:gu_)(k:MK):Option Nat:=ks.findIdx? λx=>decide (x=k)
def Fo(ks:gu_)(k:MK)(i:Nat):Bool:=decide (ks[i]?=some k)
def nK(h:Kg ks k=some j):ks[j]?=some k/\∀i,i<j->ks[i]?≠some k:=by obtain⟨Y,h2,h3⟩:=List.findIdx?_eq_some_iff_getElem.mp h;refine⟨by rw[IE Y];exact congrArg some (KB h2),λi hi e=>?_⟩;have:=h3 i hi;obtain⟨q1,q2⟩:=IS.mp e;rw[q2]at this;simp at this
def a1k(h:Kg ks k=none)(i:Nat):ks[i]?≠some k:=λe=>by
 have:=List.findIdx?_eq_none_iff.mp h k (NB e);simp at this
def a4p(ks:gu_)(k:MK):(List.range i9_).find? cS_=Kg ks k:=by
 cases h:Kg ks k with
 |none=>
  rw[List.find?_eq_none];intro i hi z;exact a1k h i (KB z)
 |some j=>
  obtain⟨Y,h2⟩:=nK h;rw[List.find?_range_eq_some];refine⟨by unfold Fo;exact IN Y,PC.mpr (ge!).1,x3_⟩;unfold Fo;rw[IG (h2 i hi)];rfl
section
variable{P:xc!}{w:wZ!}{A:wX!}{E:Value->Shared->Prop}{s:xR!}
variable (P w)in
structure Ml(h:Heap)(es:id!)(ks:gu_):Prop where
 len:es.size=i9_
 at_:∀(i:Nat) (e:DictEntry) (k:MK),es[i]?=some e->ks[i]?=some k->Iy P w h k e.key/\e.hash=mkHash P w k
 nd:gv!
def Ml.get(x:ja!){i:Nat}(q:x4!):∃k,ks[i]?=some k/\Iy P w h k e.key/\e.hash=mkHash P w k:=by
 have hl:i<i9_:=by rw[<-x.len];exact(KP.mp q).1
 exact⟨ks[i],IE hl,x.at_ i e _ q (IE hl)⟩
def Ml.one(x:ja!)(Y:Fo ks k i=true)(h2:Fo ks k j=true):i=j:=by have e1:=KB Y;have e2:=KB h2;exact(List.getElem?_inj (IS.mp e1).1 x.nd).mp p5!
abbrev plc(es:id!)(h:Int):List Nat:=placesWithHash es.size (λi=>es[i]?.map (·.hash)) h
def a1u{es:id!}{ks:gu_}(x:ja!)(k:MK):(ja_).find? cS_=Kg ks k:=by
 unfold plc placesWithHash;rw[List.find?_filter,<-a4p,x.len];congr 1;funext i;cases hp:Fo ks k i with
 |false=>simp
 |true=>
  have e1:=KB hp;have hl:i<es.size:=by rw[x.len];exact(IS.mp e1).1
  obtain⟨k',q1,q2,q3⟩:=x.get (JM hl);rw[e1]at q1;rcases q1;simp[JM hl,q3]
def b2n(hi:i∈plc es h):i<es.size:=by have:=(JQ.mp hi).1;simpa using this
def c3n:(plc es h).Nodup:=List.nodup_range.sublist NI
def a2p(hu:ah!)(x:x4_)(hk:eV!)
  (ho:x5!)(hd:x5_)(h:Q gv_ s):wpAny B_ A x6! Q E s:=by
 show"!d";generalize plc es cT!=L at hf hl ⊢;rw[<-hf]at h;unfold dictWalkPlain;refine HP (QY _ (λrest b s'=>s'=s/\b=gw!/\rest.find? cS_=L.find? cS_/\∀i∈rest,i<es.size) _ ?_ ?_ _ _ ⟨rfl,rfl,rfl,hl⟩)
 .rintro i rest b s' ⟨rfl,rfl,Y,h2⟩;have bd:=h2 i HV;have he:=JM bd;obtain⟨k',q1,q2,q3⟩:=x.get he;have no:k'≠k->rest.find? cS_=L.find? cS_:=λa9=>by
   rw[<-Y,MH];have:Fo ks k i=false:=by unfold Fo;rw[q1];exact IG x8!
   rw[this]
  show"!|";rw[he];dsimp only;split
  .refine HP nQ_;rw[bj!];by_cases l8:k'=k
   .subst l8;rw[eU!];have hi:Fo ks k' i=true:=by unfold Fo;exact IN q1
    have:L.find? (Fo ks k')=some i:=by rw[<-Y,MH,hi]
    rw[this]at h;exact HP (LJ nR!)
   .rw[IG l8];exact HP (LJ (HS ⟨rfl,rfl,no l8,rs⟩))
  .rename_i hh;exact HS ⟨rfl,rfl,no x8_,rs⟩
 .rintro b s' ⟨rfl,rfl,Y,_⟩;rw[<-Y]at h;exact HS h
def zU(hk:eV!)(hl:∀v∈L,∃k',Iy P w s.heap k' v)(h:Q false s):wpAny B_ A (tableMayTell u L) Q E s:=by
 unfold tableMayTell;split
 .exact HS h
 .refine HP (a0z hk ?_);rw[bw_];refine HP (QY _ (λrest r s'=>s'=s/\r=gw!/\∀v∈rest,v∈L) _ ?_ ?_ _ _ ⟨rfl,rfl,λ_ z=>z⟩)
  .rintro v rest r s' ⟨rfl,rfl,hr⟩;obtain⟨k',q⟩:=hl v (hr v HV);refine HP (a0z q ?_);rw[bw_];exact HS ⟨rfl,rfl,λy hy=>hr y ez_⟩
  .rintro r s' ⟨rfl,rfl,_⟩;exact HS h
def b7y(q1:ya_)(e:k'=k):Fo ks k i=true:=by unfold Fo;rw[<-e];exact IN q1
def a8k{rest:n!}(hc:(ar=none/\(i::rest).find? cS_=Kg ks k)\/∃j,ar=some j/\Kg ks k=some j/\Fo ks k j=true/\j∉i::rest)(q1:ya_)(a9:¬k'=k):
  yb!\/∃j,ar=some j/\Kg ks k=some j/\Fo ks k j=true/\j∉rest:=by
 obtain⟨e,Y⟩|⟨j,e,Y,h4,h5⟩:=hc
 .refine .inl h8!;rw[<-Y,MH];have:Fo ks k i=false:=by unfold Fo;rw[q1];exact IG x8!
  rw[this]
 .exact .inr ⟨j,e,Y,h4,λz=>h5 (HR _ z)⟩
def pE(q:Iy P w h k v):v.isStr z=decide (k=some eV_):=by
 by_cases e:k=some eV_
 .subst e;rw[eU!];obtain⟨i,t,e,_⟩|⟨i,t,e,rfl⟩:=bA q
  .cases e
  .cases e;simp[Value.isStr]
 .rw[IG e];cases v<;>first|rfl|skip
  rename_i y t;simp only[Value.isStr,JY,ne_eq];rintro rfl;exact e (a1a q (pB y t))
def b5u(x:ja!)(z:Str):(es.findIdx? λe=>e.key.isStr z)=Kg ks (some eV_):=by
 cases hk:Kg ks (some eV_)with
 |none=>
  rw[Array.findIdx?_eq_none_iff];intro e he;obtain⟨i,hi⟩:=Array.mem_iff_getElem?.mp he;obtain⟨k',q1,q2,_⟩:=x.get hi;rw[pE q2];exact IG λ(e:k'=_)=>a1k hk i yc!
 |some j=>
  obtain⟨Y,h2⟩:=nK hk;have hj:j<es.size:=by rw[x.len];exact(ge!).1
  rw[Array.findIdx?_eq_some_iff_getElem];refine⟨hj,?_,x3_⟩
  .obtain⟨k',q1,q2,_⟩:=x.get (JM hj);rw[pE q2];rw[Y]at q1;rcases q1;exact IN rfl
  .obtain⟨k',q1,q2,_⟩:=x.get (JM (RY hi hj));rw[pE q2,IG (λ(e:k'=_)=>h2 i hi yc!)];decide
def c6s(h:∃T:Prop,(T->g)/\T):g:=by obtain⟨_,f,k⟩:=h;exact f k
def sV(hu:ah!)(x:x4_)(hk:eV!)
  (ho:x5!)(hd:x5_)(h:Q gv_ s):wpAny B_ A (dictFind d u cT!) Q E s:=by
 have bc:∀v∈(ja_).filterMap (λi=>es[i]?.map jc!),∃k',Iy P w s.heap k' v:=λv hv=>by
  obtain⟨i,_,e⟩:=NJ.mp hv;obtain⟨e',e1,rfl⟩:=IA.mp e;obtain⟨k',_,q,_⟩:=x.get e1;exact⟨k',q⟩
 have XC:¬(es.any λe=>e.key==u&&e.hash != mkHash P w k)=true:=λz=>by
  obtain⟨i,hi,z⟩:=Array.any_eq_true.mp z;rw[JD,LP,bne_iff_ne]at z;obtain⟨k',_,q,q3⟩:=x.get (JM hi);rw[z.1]at q;exact z.2 (by rw[q3,a1a q hk])
 show"!d";have pz:(ja_).Nodup:=c3n;have a7:wpAny B_ A x6! Q E s:=a2p hu x hk ho hd h;unfold dictFind;refine JS (HP yd!);refine c6s ?_;apply Exists.intro;apply And.intro
 .intro tl;have wj:(∃a,u=.ref a)\/(∃z t,u=.str z t/\k=some eV_)\/(u=.none\/∃i t,u=.int i t):=by
   clear tl;obtain _|k|k:=k
   .exact .inr (.inr (.inl hk))
   .obtain⟨i,t,rfl,rfl⟩|⟨i,t,rfl,rfl⟩:=bA hk
    .exact .inr (.inr (.inr ⟨i,t,rfl⟩))
    .exact .inr (.inl ⟨i,t,rfl,rfl⟩)
   .obtain⟨a,rfl,_⟩:=hk;exact .inl ⟨a,rfl⟩
  obtain⟨a,ea⟩|⟨z,t,ea,SW⟩|ea|⟨i,t,ea⟩:=wj
  all_goals rw[ea]
  all_goals dsimp only
  rotate_left
  refine wpAny_ite_split (λjy=>?_) λ_=>?_
  .clear tl;unfold foundByValue;rw[b5u x z,<-SW];cases hj:Kg ks k with
   |none=>rw[hj]at h;exact HS h
   |some j=>
    obtain⟨Y,_⟩:=nK hj;have bd:j<es.size:=by rw[x.len];exact(ge!).1
    obtain⟨k',q1,q2,_⟩:=x.get (JM bd);rw[Y]at q1;rcases q1;dsimp only;rw[JM bd,<-ea];refine HP nQ_;rw[bj!,eU!];rw[hj]at h;exact HP (LJ (HS h))
  all_goals rw[<-ea]
  all_goals refine wpAny_ite_split (λ_=>a7) λ_=>?_
  rotate_right
  rw[IF XC]
  all_goals refine wpAny_ite_split (λ_=>HP Q!) λ_=>HP (zU hk bc ?_)
  all_goals rw[bw_]
  all_goals exact tl
 refine HP (QY _ (λrest b s'=>s'=s/\∃ar,b=(none,ar)/\(∀i∈rest,i<es.size)/\rest.Nodup/\
  (yb!\/∃j,ar=some j/\Kg ks k=some j/\Fo ks k j=true/\j∉rest)) _ ?_ ?_ _ _ ⟨rfl,none,rfl,hl,pz,.inl ⟨rfl,hf⟩⟩)
 rotate_left
 .rintro b s' ⟨rfl,ar,rfl,_,_,hc⟩;obtain⟨rfl,Y⟩|⟨j,rfl,Y,_⟩:=hc
  .rw[<-Y]at h;exact HS h
  .rw[Y]at h;exact HS h
 .rintro i rest b s' ⟨rfl,ar,rfl,h2,h3,hc⟩;have bd:=h2 i HV;have he:=JM bd;obtain⟨k',q1,q2,q3⟩:=x.get he;obtain⟨n1,n2⟩:=IV.mp h3;show"!|";have stay:=λa9=>a8k hc q1 a9;rw[he];dsimp only;split
  .refine HP nQ_;rw[bj!];by_cases l8:k'=k
   rotate_left
   .rw[IG l8];simp only[JK,KC,Bool.false_and];exact HP (LJ (HS ⟨rfl,ar,rfl,rs,n2,stay l8⟩))
   .have hi:=b7y q1 l8;rw[IN l8];obtain⟨rfl,Y⟩|⟨j,e,Y,h4,h5⟩:=hc
    .have hL:=Y;rw[MH,hi]at hL;dsimp only[_root_.if_true,_root_.Option.isSome_none,_root_.Bool.false_eq_true,_root_.if_false];refine HP eR!;split
     .rw[<-hL]at h;exact HS (HS h)
     .exact HS ⟨rfl,aU!,rfl,rs,n2,.inr ⟨i,rfl,hL.symm,hi,n1⟩⟩
    .exact absurd (x.one hi h4) λz=>h5 (z▸HV)
  .rename_i hh;exact HS ⟨rfl,ar,rfl,rs,n2,stay x8_⟩
end
def Ms(h:Heap)(a:qT!)(es:cj_)(ep:Nat):Prop:=∃o,h.get? a=some o/\gY_/\o.data=.dict es.toArray ep
def Ms.typeIs{s:xR!}(D:jd!):s.TypeIs D_ "dict":=by obtain⟨o,ho,hc,_⟩:=D;exact⟨o,ho,hc.1⟩
def Yj(es:cj_)(j:Option Nat)(h:Int)(u v:wY!):List DictEntry:=match j with
 |some j=>es.modify j λe=>{e with val:=v}
 |none=>es++[⟨h,u,v⟩]
def CK(j:Option Nat)(ep:Nat):Nat:=match j with
 |some _=>ep
 |none=>ep+1
section
variable{P:xc!}{w:wZ!}{A:wX!}{E:Value->Shared->Prop}{s:xR!}{a:qT!}{es:List DictEntry}{ep:Nat}{ks:List MK}{k:MK}{u v:wY!}
def c8g(hu:ah!)(D:jd!)(x:nT_)(hk:eV!)(h:∀tk,Q ((gv_).bind λj=>es[j]?.map (·.val)) {s with toks:=tk}):
  wpAny B_ A yk! Q E s:=by
 obtain⟨o,ho,_,hd⟩:=D;unfold dictGet;refine JS yk_;have h:=h tk;cases hj:Kg ks k with
 |none=>rw[hj]at h;exact HS h
 |some j=>
  rw[hj]at h;refine HP (OJ ho hd Q!);rw[NT];exact h
def zB{h:Heap}(ho:h.get? a=some o)(hc:gY_)(hd:o.data=.dict es.toArray ep)(he:f es.toArray=bh.toArray):
  Ms (h.update a (Obj.mapDict f)) a bh ep/\Ms (h.update a (Obj.mapDictKeys f)) a bh cT_:=
 ⟨⟨_,LF _ ho (Obj.isFreed_of_dict (Obj.data_mapDict hd _)),hc.mapDict _,by rw[Obj.data_mapDict hd,he]⟩,⟨_,LF _ ho (Obj.isFreed_of_dict (Obj.data_mapDictKeys hd _)),hc.mapDictKeys _,by rw[Obj.data_mapDictKeys hd,he]⟩⟩
def c8f(hu:ah!)(D:jd!)(x:nT_)(hk:eV!)(hl:ym!)
  (h:∀h' tk,Ms h' a (Yj es gv_ cT! u v) (CK gv_ ep)->Heap.SameBut a s.heap h'->Q () {s with heap:=h',toks:=tk}):wpAny B_ A ym_ Q E s:=by
 obtain⟨o,ho,hc,hd⟩:=D;unfold dictSet;refine JS (HP (xQ hu hk λtk=>?_));unfold dictSetHashed;refine JS (HP yj_);cases hj:Kg ks k with
 |none=>
  rw[hj]at h;exact HP (LJ (wpAny_updateDictKeys ho hd (h _ tk (yo!).2 eP_)))
 |some j=>
  rw[hj]at h;exact HP (LJ (HP (wpAny_updateDict ho hd (wpAny_point (h _ tk (yo!).1 eP_)))))
def nT(hu:ah!)(D:jd!)(x:nT_)(hk:eV!)(hl:ym!)
  (Y:∀j e tk,Kg ks k=some j->es[j]?=some e->Q e.val {s with toks:=tk})
  (h2:∀h' tk,Kg ks k=none->Ms h' a (es++[⟨mkHash P w k,u,v⟩]) cT_->Heap.SameBut a s.heap h'->Q v {s with heap:=h',toks:=tk}):wpAny B_ A (dictSetDefault a u v) Q E s:=by
 obtain⟨o,ho,hc,hd⟩:=D;unfold dictSetDefault;refine JS yk_;cases hj:Kg ks k with
 |none=>
  exact HP (LJ (HP (wpAny_updateDictKeys ho hd (HS (h2 _ tk hj (zB ho hc hd c!).2 eP_)))))
 |some j=>
  have bd:j<aa!:=by
   have:=(IS.mp (nK hj).1).1;rw[<-x.len]at this;simpa using this
  refine HP yd!;rw[NT,IE bd];exact HP (LJ (HS (Y j _ tk hj (IE bd))))
end
def Jk:List D->Option xZ_
 |[]=>some []
 |.int i::r=>(Jk r).map (Sum.inl i::·)
 |.str x::r=>(Jk r).map (Sum.inr x::·)
 |_::_=>none
def Cg:D->Option MK
 |.non=>some none
 |.int i=>some (some (.inl j7_))
 |.str x=>some (some (.inl j8_))
 |.tup xs=>(Jk xs).map λks=>some (.inr ks)
 |_=>none
def vF:∀{xs ys:d!} {ks:List L2.Key},Jk xs=some ks->Jk ys=some ks->xs=ys
 |[],ys,ks,h,h'=>by
  cases h;cases ys with
  |nil=>rfl
  |cons y r=>cases y<;>simp[Jk]at h'
 |x::xs,[],ks,h,h'=>by
  cases h';cases x<;>simp[Jk]at h
 |x::xs,y::ys,ks,h,h'=>by
  cases x<;>simp only[Jk]at h<;>first|(rcases h;done)|skip
  all_goals (obtain⟨l,e1,rfl⟩:=IA.mp h)
  all_goals (cases y<;>simp only[Jk]at h'<;>first|(rcases h';done)|skip)
  all_goals (obtain⟨l',e2,e3⟩:=IA.mp h')
  all_goals (injection e3 with e4 e5)
  all_goals first|(injection e4;done)|skip
  all_goals (injection e4 with e4;subst e4 e5;rw[vF e1 e2])
def a6x(h:Q_)(h':aZ!):x=y:=by
 cases x<;>simp only[Cg]at h<;>first|(rcases h;done)|skip
 all_goals (cases y<;>simp only[Cg]at h'<;>first|(rcases h';done)|skip)
 all_goals first
  |rfl
  |(cases h;cases h';rfl)
  |(cases h;cases h')
  |(cases h;obtain⟨l,e1,e2⟩:=IA.mp h';cases e2)
  |(cases h';obtain⟨l,e1,e2⟩:=IA.mp h;cases e2)
  |(obtain⟨l,e1,e2⟩:=IA.mp h;obtain⟨l',e3,e4⟩:=IA.mp h';cases e2;cases e4;rw[vF e1 e3])
def By(KF:zM!)(G:Hp)(d:D)(u:wY!):Prop:=∃v,Ao KF G d v/\Be v u
def By.mono{KF:zM!}(e:jh!)(h:By KF G d u):By KF G' d u:=by obtain⟨v,Y,h2⟩:=h;exact⟨v,Y.mono e,h2⟩
def a0f{KF:zM!}:∀{ds:d!} {vs:r_} {ks:List L2.Key},Ak KF G ds vs->Jk ds=some ks->vs=ks.map kV
 |[],vs,ks,r,e=>by cases cK r;cases e;rfl
 |d::ds,vs,ks,r,e=>by
  obtain⟨v,t,rfl,r1,r2⟩:=bB r;cases d<;>simp only[Jk]at e<;>first|(rcases e;done)|skip
  all_goals (obtain⟨l,e1,rfl⟩:=IA.mp e;rw[a0f r2 e1])
  .cases aU r1;rfl
  .cases cB r1;rfl
def qZ(I:b_)(sub:E!)(r:bT!)(e:bc!):Iy X.prog X.w s.heap k u:=by
 obtain⟨v,r,ru⟩:=r;cases d<;>simp only[Cg]at e<;>first|(rcases e;done)|skip
 .cases e;cases eV r;exact ru
 .cases e;cases aU r;obtain⟨t,rfl⟩:=ru;exact vG _ _
 .cases e;cases cB r;obtain⟨t,rfl⟩:=ru;exact pB _ _
 .obtain⟨ks,e1,rfl⟩:=IA.mp e;obtain⟨a,vs,rfl,q,rr⟩:=bD r;cases ru;show"#)";rw[a0f rr e1]at rv;exact⟨a,rfl,o,aO_,n,Y,h2,h3,by simpa using pC rv⟩
open Classical in
nonrec def kget:List ai_->D->Option D
 |[],_=>none
 |(k,v)::r,d=>if k=d then some v else kget r d
open Classical in
def Bf:List ai_->D->D->List ai_
 |[],d,v=>[(d,v)]
 |(k,x)::r,d,v=>if k=d then(k,v)::r else(k,x)::Bf r d v
open Classical in
def Yk:List ai_->D->List ai_
 |[],_=>[]
 |(k,x)::r,d=>if k=d then r else(k,x)::Yk r d
section
variable{P:xc!}{w:wZ!}{KF:zM!}{G G':Hp}
variable (P w KF G)in
def DD(p:D×D)(e:DictEntry):Prop:=By KF G p.1 e.key/\By KF G p.2 e.val/\∃k,Cg p.1=some k/\e.hash=mkHash P w k
variable (P w KF G)in
def Hg(h1:r!)(es:cj_):Prop:=Paired (DD P w KF G) h1 es/\(eW!).Nodup
def Hg.mono(e:jh!)(h:gy_):Hg P w KF G' h1 es:=
 ⟨Paired.mapP h.1 λp q z=>⟨z.1.mono e,z.2.1.mono e,z.2.2⟩,h.2⟩
def Gm(h1:r!):List MK:=h1.map λp=>(Cg p.1).getD none
def fR:∀{l:R_} {m:List β} {i:Nat} {a:α},Paired F l m->l[i]?=some a->∃b,m[i]?=some b/\F a b
 |_,_,_,_,.nil,e=>by simp at e
 |_,_,0,_,.cons r _,e=>by simp at e;subst e;exact kc!
 |_,_,i+1,a,.cons _ t,e=>by
  obtain⟨b,Y,h2⟩:=fR t cq!;exact⟨b,kb_,h2⟩
def lM(h:yr_)(h':Paired F l' m'):Paired F (l++l') (m++m'):=by
 induction h with
 |nil=>exact h'
 |cons r _ ih=>exact .cons r ih
def tN{l:R_}{m:List β}(j:Nat)(h:yr_):(∀a b,l[j]?=some a->m[j]?=some b->F a b->F (f a) (g b))->Paired F (l.modify j f) (m.modify j g):=by
 induction h generalizing j with
 |nil=>intro _;simpa using Paired.nil
 |cons r t ih=>
  intro h;cases j with
  |zero=>exact .cons (h _ _ rfl rfl r) t
  |succ j=>exact .cons r (ih j λa b e1 e2=>h a b (by simpa using e1) (by simpa using e2))
def Hg.ents(I:b_)(sub:E!)(h:Hg X.prog X.w X.K G h1 es):Ml X.prog X.w s.heap es.toArray eW_:=by
 obtain⟨Y,h2⟩:=h;refine⟨by simp[Gm,OL Y],λi e k he hk=>?_,?_⟩
 .rw[NT]at he;unfold Gm at hk;rw[JL]at hk;obtain⟨p,hp,rfl⟩:=IA.mp hk;obtain⟨e',iw,q1,_,k',q2,q3⟩:=fR Y hp;rw[he]at iw;cases iw;rw[q2];exact⟨qZ I sub q1 q2,q3⟩
 .have j7:∀{l:r!} {m:cj_},Paired (DD X.prog X.w X.K G) l m->(eX!).Nodup->(Gm l).Nodup:=by
   intro l m hp
   induction hp with
   |nil=>intro _;exact KU
   |@cons p e l m q t ih=>
    intro nd;rw[IJ,IV]at nd;show(_::Gm l).Nodup;rw[IV];refine⟨ck_,ih nd.2⟩;obtain⟨p',b7,e'⟩:=IY.mp z;obtain⟨_,_,k,hk,_⟩:=q;obtain⟨i,hi⟩:=NQ.mp b7;obtain⟨_,_,_,_,k',df,_⟩:=fR t hi;dsimp only at e';rw[hk,df]at e';have:k'=k:=e';subst this;exact nd.1 (IY.mpr ⟨p',b7,a6x df hk⟩)
  exact j7 Y h2
def Hg.look(h:gy_)(hd:bc!):
  (Kg eW_ k=none/\kget h1 d=none/\(∀v,Bf h1 d v=h1++[(d,v)])/\d∉h1.map c_)\/∃j x e,Kg eW_ k=some j/\h1[j]?=some cU_/\es[j]?=some e/\kget h1 d=some x/\By KF G x e.val/\(∀v,Bf h1 d v=h1.modify j λp=>(p.1,v))/\Yk h1 d=h1.eraseIdx j:=by
 obtain⟨Y,h2⟩:=h
 induction Y with
 |nil=>exact .inl ⟨rfl,rfl,dh_,S!⟩
 |@cons p e l m q t ih=>
  obtain⟨y,z⟩:=p;rw[IJ,IV]at h2;obtain⟨_,q2,k',q3,_⟩:=q;have q3:=q3;have sx:Gm ((y,z)::l)=k'::Gm l:=by unfold Gm;rw[IJ,q3];rfl
  by_cases hy:y=d
  .subst hy;rw[hd]at q3;cases q3;refine .inr ⟨0,z,e,?_,rfl,rfl,by simp[kget],q2,λv=>by simp[Bf,List.modify],by simp[Yk]⟩;rw[sx];unfold Kg;rw[List.findIdx?_cons];simp
  .have a9:k'≠k:=λe=>hy (a6x q3 (e▸hd));have df:Kg (Gm ((y,z)::l)) k=(Kg (Gm l) k).map (·+1):=by
    rw[sx];unfold Kg;rw[List.findIdx?_cons];simp[a9]
   obtain⟨i1,i2,i3,i4⟩|⟨j,x,e',i1,i2,i3,i4,i5,i6,i7⟩:=ih h2.2
   .refine .inl ⟨yt_,by simp[kget,hy,i2],λv=>by simp[Bf,hy,i3 v],?_⟩;rw[IJ,HW,RU];exact⟨λe=>hy e.symm,i4⟩
   .exact .inr ⟨j+1,x,e',yt_,by simpa using i2,by simpa using i3,by simp[kget,hy,i4],i5,λv=>by simp[Bf,hy,i6 v],by simp[Yk,hy,i7]⟩
def Hg.put(h:gy_)(hd:bc!)(ru:By KF G d u)(rv:By KF G x v):Hg P w KF G n0_ (Yj es (Kg eW_ k) cT! u v):=by
 obtain⟨i1,i2,i3,i4⟩|⟨j,y,e',i1,i2,i3,i4,i5,i6,i7⟩:=h.look hd
 .rw[i1,i3];refine⟨lM h.1 (.cons ⟨ru,rv,k,hd,rfl⟩ .nil),?_⟩;rw[JA,JP];refine⟨h.2,S!,λa ha b hb e=>?_⟩;simp at hb;subst hb e;exact i4 ha
 .rw[i1,i6];refine⟨tN j h.1 λa b _ _ q=>⟨q.1,rv,q.2.2⟩,?_⟩;have:∀(l:r!) (j:Nat),(l.modify j λp=>(p.1,x)).map c_=l.map c_:=by
   intro l
   induction l with
   |nil=>intro j;simp
   |cons p l ih=>
    intro j;cases j with
    |zero=>simp
    |succ j=>simp[ih j]
  rw[this];exact h.2
end
inductive Cq where
 |lst (xs:d!)|dct (h1:r!) (ep:Nat)|obj (C:qT!) (fs:gi!)
nonrec def Cq.tg:Cq->Nat
 |.lst _=>0|.dct _ _=>1|.obj _ _=>2
def cne{P:Prop}{x y:Cq}(h:some x=some y)(e:(x.tg==y.tg)=false):P:=by cases h;rw[LS]at e;cases e
abbrev Mh:=Addr->Option Cq
nonrec def mup(M:Mh)(a:qT!)(c:Cq):Mh:=λb=>if b=a then some c else M b
def mup_same:mup M a c a=some c:=by unfold mup;rw[D!]
def mup_ne(h:b≠a):mup M a c b=M b:=by unfold mup;rw[IF h]
nonrec def dE(a:qT!)(es:cj_)(ep:Nat):HO:=.ext λh=>Ms h a es ep/\c3!=false/\aa!<=big
def Ip(KF:zM!)(G:Hp):List bQ_->List cq_->Prop:=Paired λp q=>p.1=q.1/\Ao KF G p.2 q.2
section
variable(P:xc!)(w:wZ!)(KF:zM!)
def Fv(G H:Hp)(a:qT!):Cq->Prop
 |.lst xs=>∃vs,H a=some dz!/\Ak KF G xs vs
 |.dct h1 ep=>∃es,H a=some jj!/\Hg P w KF G h1 es
 |.obj C fs=>∃dx vs,H a=some yv!/\Ip KF G fs vs
structure MR(M:Mh)(G H:Hp):Prop where
 cell:∀a c,M a=some c->G a=none/\Fv P w KF G H a c
end
structure XM(M:Mh)(G H:Hp)(M':Mh)(G' H':Hp):Prop where
 g:At G G'
 sub:At G' H'
 new:∀b,G' b≠none->G b≠none\/H b=none
 keep:∀b o,H b=some o->M b=none->H' b=some o
 dom:∀b,M' b≠none->M b≠none\/H b=none
 cells:∀b,M b≠none->M' b≠none
def XM.refl(s:E!):XM M G H M G H:=⟨eD!,s,ip!,λ_ _ h _=>h,ip!,λ_ h=>h⟩
def XM.free(x:jj_)(hM:M b=none)(h:H' b=none):H b=none:=by
 cases e:H b with
 |none=>rfl
 |some o=>rw[x.keep b o e hM]at h;cases h
section
variable{P:xc!}{w:wZ!}{KF:zM!}{M M1 M2:Mh}{G H G' H' G1 H1 G2 H2:Hp}
def Ip.mono(e:jh!)(h:jk!):Ip KF G' fs vs:=Paired.mapP h λ_ _ z=>⟨z.1,z.2.mono e⟩
def Fv.mono(e:jh!)(h:yv_)(hH:H' a=H a):Fv P w KF G' H' a c:=by
 cases c with
 |lst xs=>obtain⟨vs,Y,h2⟩:=h;exact⟨vs,n1_,n2!⟩
 |dct h1 ep=>obtain⟨es,Y,h2⟩:=h;exact⟨es,n1_,n2!⟩
 |obj C fs=>obtain⟨dx,vs,Y,h2⟩:=h;exact⟨dx,vs,n1_,n2!⟩
def Fv.has(h:yv_):H a≠none:=by
 cases c with
 |lst xs=>obtain⟨vs,Y,h2⟩:=h;rw[Y];simp
 |dct h1 ep=>obtain⟨es,Y,h2⟩:=h;rw[Y];simp
 |obj C fs=>obtain⟨dx,vs,Y,h2⟩:=h;rw[Y];simp
def MR.has(m:bT_)(h:M c≠none):H c≠none:=by
 cases e:M c with
 |none=>exact absurd e h
 |some q=>exact(m.cell c q e).2.has
def XM.trans(a:XM M G H M1 G1 H1)(b:XM M1 G1 H1 M2 G2 H2)(m:yw_):XM M G H M2 G2 H2 where
 g:=a.g.trans b.g
 sub:=b.sub
 new:=λc h=>by
  obtain z|z:=b.new c h
  .exact a.new c z
  .cases hM:M c with
   |none=>exact .inr yx!
   |some q=>exact absurd z (m.has (a.cells c yx_))
 keep:=λc o h hM=>by
  refine b.keep c o (a.keep c o h hM) ?_;cases e:M1 c with
  |none=>rfl
  |some q=>
   rcases a.dom c yy_ with z|z
   .exact absurd hM z
   .rw[h]at z;cases z
 dom:=λc h=>by
  obtain z|z:=b.dom c h
  .exact a.dom c z
  .cases hM:M c with
   |none=>exact .inr yx!
   |some q=>exact .inl nofun
 cells:=λc h=>b.cells c (a.cells c h)
def XM.ext(x:iq!):XM M G H M G' H':=⟨x.g,x.sub,x.new,λb o h _=>x.h b o h,ip!,λ_ h=>h⟩
def MR.ext(m:bT_)(x:iq!):MR P w KF M G' H':=⟨λa c e=>by
 obtain⟨Y,h2⟩:=m.cell a c e;have hn:=h2.has;refine yz_
 .cases q:G' a with
  |none=>rfl
  |some o=>
   rcases x.new a ca_ with z|z
   .exact absurd Y z
   .exact absurd z hn
 .cases q:H a with
  |none=>exact absurd q hn
  |some o=>exact x.h a o q⟩
end
structure Qq(P:xc!)(w:wZ!)(KF:zM!)(own:n!)(G H:Hp)(Z:St)(ρ:Ae)(M:Mh):Prop where
 or:OR KF own G H Z ρ
 mr:MR P w KF M G H
 dj:∀i∈own,∀p,Z[i]?=some cc!->M p=none
section
variable{P:xc!}{w:wZ!}{KF:zM!}{own:List Nat}{M M' M1 M2:Mh}{G H G' H' G1 H1 G2 H2:Hp}{Z:St}{ρ:Ae}
def OR.growM(h:bO!)(x:jj_)(dj:∀i∈own,∀p,Z[i]?=some cc!->M p=none):OR KF own G' H' Z ρ where
 sub:=x.sub
 len:=h.len
 at_:=λi d q n=>by obtain⟨v,Y,h2⟩:=h.at_ i d q n;exact vb_
 own_:=λi hi=>by
  obtain⟨p,ds,vs,Y,h2,h3,h4,h5⟩:=h.own_ i hi;refine⟨p,ds,vs,Y,h2,x.keep _ _ h3 (dj i hi p h2),?_,h5.mono x.g⟩;cases q:G' p with
  |none=>rfl
  |some o=>
   rcases x.new p ca_ with z|z
   .exact absurd h4 z
   .rw[h3]at z;cases z
 dis:=h.dis
def Qq.grow(s:gA!)(x:jj_)(m:yA!):Qq P w KF own G' H' Z ρ M':=
 ⟨s.or.growM x s.dj,m,λi hi p e=>by
  cases q:M' p with
  |none=>rfl
  |some c=>
   obtain⟨p',ds,vs,Y,h2,h3,h4,h5⟩:=s.or.own_ i hi;rw[e]at h2;cases h2;rcases x.dom p ca_ with z|z
   .exact absurd (s.dj i hi p e) z
   .rw[h3]at z;cases z⟩
end
abbrev WE:=Ae->Mh->n3!->Prop
abbrev WA:=Ae->Mh->yA_->Prop
abbrev WT:=Ae->Mh->(Bool->Mh->Prop)->Prop
section
variable(P:xc!)(w:wZ!)(KF:zM!)(own:List Nat)
inductive BK(f:WE)(Z:St)(H:Hp)(Q:VK):Prop
 |mk (G:Hp) (ρ:Ae) (M:Mh) (R:v_) (st:gA!) (e:gA_) (k:∀d M' v G' H',R d M'->XM M G H M' G' H'->MR P w KF M' G' H'->Ao KF G' d v->Q v H'):BK f Z H Q
inductive GC(f:WA)(Z:St)(H:Hp)(Q:ct!):Prop
 |mk (G:Hp) (ρ:Ae) (M:Mh) (R:n3_) (st:gA!) (e:gA_) (k:∀d M' v G' H',R d M'->XM M G H M' G' H'->MR P w KF M' G' H'->Ak KF G' d v->Q v H'):GC f Z H Q
inductive Yw(f:WT)(Z:St)(H:Hp)(Q:c7!):Prop
 |mk (G:Hp) (ρ:Ae) (M:Mh) (R:eX_) (st:gA!) (e:gA_) (k:∀d M' G' H',R d M'->XM M G H M' G' H'->MR P w KF M' G' H'->Q d H'):Yw f Z H Q
end
structure ME(X:Cx)(own:n!)(e:Expr)(f:WE):Prop where
 ok:PE X e (BK X.prog X.w X.K own f)
structure MA(X:Cx)(own:n!)(es:ct_)(f:WA):Prop where
 ok:PA X es (GC X.prog X.w X.K own f)
structure MT(X:Cx)(own:n!)(e:Expr)(f:WT):Prop where
 ok:PT X e yC_
structure MW(X:Cx)(own:n!)(e:Expr)(f:WT):Prop where
 ok:PW X e yC_
nonrec def wl(f:j!):WE:=λρ M R=>match f ρ with|some d=>R d M|none=>False
def Ck(f:aV_):WT:=λρ M R=>match f ρ with|some d=>R d M|none=>False
section
variable{X:Cx}{own:List Nat}{e a b c:Expr}{es rest:List Expr}{pos:Pos}{f fa fb fc:WE}{fs:WA}{ft fu:WT}{g:Ae->Option D}{gs:Ae->Option (List D)}{gt:Ae->Option Bool}
def eF(h:hd_)(hw:∀Z G H Q ρ M R,Qq X.prog X.w X.K own G H Z ρ M->f ρ M R->(∀d M' v G' H',R d M'->XM M G H M' G' H'->MR X.prog X.w X.K M' G' H'->Ao X.K G' d v->Q v H')->t Z H Q):ME X own e f:=
 yD!
def c2i(h:fH_)(hw:∀Z G H Q ρ M R,Qq X.prog X.w X.K own G H Z ρ M->fs ρ M R->(∀d M' v G' H',R d M'->XM M G H M' G' H'->MR X.prog X.w X.K M' G' H'->Ak X.K G' d v->Q v H')->t Z H Q):MA X own es fs:=
 ⟨by rintro p J s Z H Q I ⟨G,ρ,M,R,st,e,k⟩;exact h p J s Z H Q I n4!⟩
def a6w(h:PT X e t)(hw:yE!):MT X own e ft:=
 yD!
def c2c(h:kC!)(hw:yE!):MW X own e ft:=
 ⟨by rintro wh J s Z H Q I ⟨G,ρ,M,R,st,e,k⟩;exact h wh J s Z H Q I n4!⟩
def b7t(h:wl g ρ M R):∃d,g ρ=some d/\R d M:=by
 unfold wl at h;split at h
 .exact yE_
 .exact h.elim
def b0v(h:Ck gt ρ M R):∃d,gt ρ=some d/\R d M:=by
 unfold Ck at h;split at h
 .exact yE_
 .exact h.elim
def aC(h:DE X own e g):ME X own e (wl g):=eF h.ok λZ G H Q ρ M R st e' k=>by
 obtain⟨d,e1,e2⟩:=b7t e';exact⟨G,ρ,d,st.or,e1,λv G' H' x r=>k d M v G' H' e2 n5_ n5! r⟩
def dX(h:DT X own e gt):MT X own e (Ck gt):=a6w h.ok λZ G H Q ρ M R st e' k=>by
 obtain⟨d,e1,e2⟩:=b0v e';exact⟨G,ρ,d,st.or,e1,λG' H' x=>k d M G' H' e2 n5_ n5!⟩
def Ac:WA:=λ_ M R=>R [] M
def Ab(f:WE)(fs:WA):WA:=λρ M R=>f ρ M λd M1=>fs ρ M1 λds M2=>R dy! M2
def aH:MA X own [] Ac:=c2i fK λZ G H Q ρ M R st e k=>k [] M [] G H e jl! st.mr Ak.nil
def aB(h:bc_)(hs:eY!)(bc:Y!:=by rfl):MA X own aq! (Ab f fs):=
 c2i vx_ λZ G H Q ρ M R st e' k=>⟨G,ρ,M,_,st,e',λd M1 v G1 H1 r1 x1 m1 q1=>⟨G1,ρ,M1,_,st.grow x1 m1,r1,λds M2 vs G2 H2 r2 x2 m2 q2=>
  k _ M2 _ G2 H2 r2 cl! m2 (Ak.cons bx_ q2)⟩⟩
def Xk(P:xc!)(w:wZ!)(KF:zM!)(r:R2)(g:gB_):Prop:=∀{x y:V} {dx dy d:D} {M:Mh} {G H:Hp} {Q:VK},At G H->MR P w KF M G H->Ao KF G dx x->Ao KF G dy y->g M dx dy=some d->iu!->r x y H Q
def Fu.m{KF:zM!}{g:f3_}(h:Fu KF r g):Xk P w KF r (λ_=>g):=λs _ rx ry e k=>h s rx ry e k
nonrec def w2(g:gB_)(fa fb:WE):WE:=λρ M R=>fa ρ M λx M1=>fb ρ M1 λy M2=>match g M2 x y with|some d=>R d M2|none=>False
def b7z(hg:gC!)(st:yF_)(e:w2 gm fa fb ρ M R)
  (k:∀d M' v G' H',R d M'->XM M G H M' G' H'->MR X.prog X.w X.K M' G' H'->Ao X.K G' d v->Q v H'):BE r (BK X.prog X.w X.K own fa) (BK X.prog X.w X.K own fb) Z H Q:=
 ⟨G,ρ,M,_,st,e,λx M1 u G1 H1 r1 x1 m1 q1=>⟨G1,ρ,M1,_,st.grow x1 m1,r1,λy M2 v G2 H2 r2 x2 m2 q2=>by
  have r2:=r2;split at r2
  .rename_i d hd;exact hg x2.sub m2 bx_ q2 hd λz G3 H3 x3 q3=>k d M2 z G3 H3 r2 ((cl!).trans (.ext x3) m2) (m2.ext x3) q3
  .exact r2.elim⟩⟩
def lO(ho:k0!)(hg:gC!)(ha:ap_)(hb:bU!):ME X own k0_ jm_:=
 eF vl! λZ G H Q ρ M R st e k=>b7z hg st e k
def mB(ho:bF!)(hg:gC!)(ha:ap_)(hb:bU!)(hm:ec_):ME X own ed! jm_:=
 eF vl_ λZ G H Q ρ M R st e k=>b7z hg st e k
def cC(hr:Vm X r)(hg:gC!)(ha:ap_)(hb:bU!)(hs:Nk b):ME X own lW! jm_:=
 eF vm! λZ G H Q ρ M R st e k=>b7z hg st e k
nonrec def wT(f:WE):WT:=λρ M R=>f ρ M λd M1=>match d with|.bl b=>R b M1|_=>False
def dF(ho:bF!)(hg:gC!)(ha:ap_)(hb:bU!)(hm:ec_):MT X own ed! (wT jm_):=
 a6w vm_ λZ G H Q ρ M R st e k=>b7z hg st e λd M' v G' H' r' x' m' q'=>by
  cases d<;>first|exact r'.elim|skip
  obtain rfl:=dA q';exact yH!
def iC(h:bc_)(he:he!:=by intro _;rfl):MT X own e (wT f):=
 a6w vo! λZ G H Q ρ M R st e k=>⟨G,ρ,M,_,st,e,λd M' v G' H' r' x' m' q'=>by
  cases d<;>first|exact r'.elim|skip
  obtain rfl:=dA q';exact yH!⟩
def Gb(ft fu:WT):WT:=λρ M R=>ft ρ M λb M1=>if b then fu ρ M1 R else R false M1
def BB(ft fu:WT):WT:=λρ M R=>ft ρ M λb M1=>if b then R true M1 else fu ρ M1 R
def Jx(ft:WT):WT:=λρ M R=>ft ρ M λb M1=>R (!b) M1
def lF(h:gC_):MW X own kG! ft:=vo_
def b4b(h:gC_):MW X own kG_ ft:=vp!
def oV(ha:gC_)(hb:MW X own d3! fu):MW X own d3_ (Gb ft fu):=
 c2c vp_ λZ G H Q ρ M R st e k=>⟨G,ρ,M,_,st,e,λx M1 G1 H1 r1 x1 m1=>by
  cases x with
  |true=>exact jR yI!
  |false=>exact jS yI_⟩
def c2b(ha:gC_)(hb:MW X own d4_ fu):MW X own d5! (BB ft fu):=
 c2c vr_ λZ G H Q ρ M R st e k=>⟨G,ρ,M,_,st,e,λx M1 G1 H1 r1 x1 m1=>by
  cases x with
  |false=>exact jS yI!
  |true=>exact jR yI_⟩
def a0y(h:MW X own e ft):MT X own e ft:=vs!
def rT(h:gC_):MT X own fr_ (Jx ft):=
 a6w (b2h h.ok) λZ G H Q ρ M R st e k=>⟨G,ρ,M,_,st,e,λx M1 G1 H1 r1 x1 m1=>k _ M1 G1 H1 r1 x1 m1⟩
def Tz(fa fb:WE):WE:=λρ M R=>wT fa ρ M λb M1=>if b then fb ρ M1 R else R af_ M1
def Xn(fa fb:WE):WE:=λρ M R=>wT fa ρ M λb M1=>if b then R v! M1 else fb ρ M1 R
def b4i(h:ap_):ME X own kI! fa:=vt!
def c4m(ha:ap_)(hb:ME X own d3! fb):ME X own d3_ (Tz fa fb):=
 eF vt_ λZ G H Q ρ M R st e k=>⟨G,ρ,M,_,st,e,λd M1 v G1 H1 r1 x1 m1 q1=>by
  cases d<;>first|exact r1.elim|skip
  rename_i x;obtain rfl:=dA q1;refine ix!;cases x with
  |true=>exact jR jn_
  |false=>exact jS yJ!⟩
def c7s(ha:ap_)(hb:ME X own d4_ fb):ME X own d5! (Xn fa fb):=
 eF vv_ λZ G H Q ρ M R st e k=>⟨G,ρ,M,_,st,e,λd M1 v G1 H1 r1 x1 m1 q1=>by
  cases d<;>first|exact r1.elim|skip
  rename_i x;obtain rfl:=dA q1;refine ix!;cases x with
  |false=>exact jS jn_
  |true=>exact jR yJ!⟩
def DO(ft:WT)(fa fb:WE):WE:=λρ M R=>ft ρ M λb M1=>if b then fa ρ M1 R else fb ρ M1 R
def c2h(hc:jo!)(ha:ap_)(hb:bU!):ME X own kI_ (DO ft fa fb):=
 eF vx! λZ G H Q ρ M R st e k=>⟨G,ρ,M,_,st,e,λx M1 G1 H1 r1 x1 m1=>by
  cases x with
  |true=>exact jR jn_
  |false=>exact jS jn_⟩
def Sk(fs:WA):WE:=λρ M R=>fs ρ M λds M1=>g_<=1000/\R dx_ M1
def Nm(fs:WA):WE:=λρ M R=>fs ρ M λds M1=>g_<=1000/\R bm! M1
def a4b(h:eY!):ME X own (.Tuple es n pos) (Sk fs):=
 eF (b2t h.ok) λZ G H Q ρ M R st e k=>⟨G,ρ,M,_,st,e,λds M1 vs G1 H1 r1 x1 m1 q1=>⟨by rw[<-aG q1];exact eG r1.1,λp hp=>
  k _ M1 _ _ _ r1.2 yK_ yM! (fE yL_ q1)⟩⟩
def a4c(h:eY!):ME X own hJ! (Nm fs):=
 eF iz_ λZ G H Q ρ M R st e k=>⟨G,ρ,M,_,st,e,λds M1 vs G1 H1 r1 x1 m1 q1=>⟨by rw[<-aG q1];exact eG r1.1,λp hp=>
  k _ M1 _ _ _ r1.2 yK_ yM! (cP yL_ q1)⟩⟩
end
section
variable{P:xc!}{w:wZ!}{KF:zM!}{M:Mh}{G H:Hp}{p a:qT!}{o:HO}{c c0:Cq}
def MR.nocell(m:bT_)(h:cb_):M p=none:=by
 cases e:M p with
 |none=>rfl
 |some q=>exact absurd h (m.has yy_)
def XM.laid(s:E!)(hp:cb_):XM M G H (mup M p c) G eC_:=by
 show"#*";refine⟨eD!,λb u e=>by rw[aS (ne (s b u e))];exact s b u e,cV!,λb u e _=>by rw[aS (ne e)];exact e,bm_,bm_⟩
 .by_cases hb:b=p
  .subst hb;exact .inr hp
  .rw[cl_]at h;exact .inl h
 .by_cases hb:b=p
  .subst hb;rw[mup_same];simp
  .rw[cl_];exact h
def MR.laid(m:bT_)(hp:cb_)(s:E!)(h:Fv P w KF G eC_ p c):MR P w KF (mup M p c) G eC_:=⟨λb q e=>by
 by_cases hb:b=p
 .show"!w";exact⟨s.free hp,h⟩
 .rw[cl_]at e;obtain⟨Y,h2⟩:=m.cell b q e;exact yM_⟩
def XM.write(m:bT_)(s:E!)(ha:M a=some c0):XM M G H (mup M a c) G cr!:=by
 have hG:=(m.cell a c0 ha).1;refine⟨eD!,λb u e=>by rw[aS (bY e hG)];exact s b u e,cV!,λb u e hb=>?_,bm_,bm_⟩
 .have:b≠a:=λz=>by subst z;rw[ha]at hb;rcases hb
  rw[aS this];exact e
 .show"#,"
  .subst hb;exact .inl (by rw[ha];simp)
  .rw[cl_]at h;exact .inl h
 .show"#,"
  .subst hb;rw[mup_same];simp
  .rw[cl_];exact h
def MR.write(m:bT_)(ha:M a=some c0)(h:Fv P w KF G cr! a c):MR P w KF (mup M a c) G cr!:=⟨λb q e=>by
 show"#,"
 .show"!w";exact⟨(m.cell _ c0 ha).1,h⟩
 .rw[cl_]at e;obtain⟨Y,h2⟩:=m.cell b q e;exact yM_⟩
end
open Classical in
def Hq(h1:r!)(d:D)(ep:Nat):Nat:=if(cV_).isSome then ep else ep+1
def GS(KF:zM!)(G:Hp):Option D->Option Value->Prop
 |some d,some u=>By KF G d u
 |none,none=>True
 |_,_=>False
section
variable{X:Cx}{J:List (Addr×Obj)}{Z:St}{G H:Hp}{s:xR!}{M:Mh}{a:qT!}{h1:List (D×D)}{ep:Nat}{A:wX!}{E:Value->Shared->Prop}{d x:D}{k:MK}{u v:wY!}
def eL(I:b_)(m:by!)(sub:E!)(e:cm!):∃es,H a=some jj!/\Hg X.prog X.w X.K G h1 es/\Ms s.heap a es ep/\c3!=false/\aa!<=big/\Ml X.prog X.w s.heap es.toArray eW_:=by obtain⟨es,Y,h2⟩:=(m.cell a _ e).2;obtain⟨⟨h3,h4,h5⟩,_⟩:=(show Dg X.prog X.w H s.heap a jj! from I.hok a _ Y);exact⟨es,Y,h2,h3,h4,h5,h2.ents I sub⟩
def a8b(I:b_)(e:H a=some jj!)(D':Ms h' a bh bp)(hs:tM!)(hn:c3!=false)(hl:bh.length<=big):Inv X J Z (upd H a (dE a bh bp)) {s with heap:=h',toks:=t'}:=by refine d_write I r2_ hs (by obtain⟨o,h,_⟩:=D';exact n8_) ⟨⟨D',hn,hl⟩,let⟨o,h,_⟩:=D';n8_,yO_⟩;obtain⟨⟨o,z1,z2,z3⟩,z4⟩:=z;exact jq!
def zD(hu:ah!)(I:b_)(m:by!)(sub:E!)(e:cm!)(r:bT!)(hk:bc!)
  (h:∀o s',Inv X J Z H s'->GS X.K G cV_ o->Q o s'):wpAny d_ A yk! Q E s:=by
 obtain⟨es,Y,h2,h3,h4,h5,h6⟩:=eL I m sub e;refine c8g hu h3 h6 jq_ λtk=>h _ _ eh_ ?_;obtain⟨i1,i2,i3,i4⟩|⟨j,y,e',i1,i2,i3,i4,i5,i6,i7⟩:=h2.look hk
 .rw[i1,i2];exact hF!
 .rw[i1,i4];show GS X.K G (some y) (es[j]?.map (·.val));rw[i3];exact i5
def kput_len:∀(l:r!) (d x:D),(Bf l d x).length<=ab_+1
 |[],_,_=>by simp[Bf]
 |(y,z)::l,d,x=>by
  unfold Bf;split
  .simp
  .have:=kput_len l d x;dsimp only[_root_.List.length_cons];omega
def a4y(hu:ah!)(I:b_)(m:by!)(sub:E!)(e:cm!)(r:bT!)(hk:bc!)(rv:jr!)(hl:cm_)
  (h:yR!):wpAny d_ A ym_ Q E s:=by
 obtain⟨es,Y,h2,h3,h4,h5,h6⟩:=eL I m sub e;refine c8f hu h3 h6 jq_ gF! λh' tk D' hs=>?_;have l9:=h2.put hk r rv;have qc:CK (Kg eW_ k) ep=Hq h1 d ep:=by
  unfold Hq;obtain⟨i1,i2,i3,i4⟩|⟨j,y,e',i1,i2,i3,i4,i5,i6,i7⟩:=h2.look hk
  .rw[i1,i2];rfl
  .rw[i1,i4];rfl
 rw[qc]at D';have qe:=OL l9.1;have:=kput_len h1 d x;exact h _ _ (a8b I Y D' hs h4 a!) ⟨_,bI,l9⟩
def a4z(hu:e1!)(I:b_)(m:by!)(sub:E!)(e:cm!)(r:bT!)(hk:bc!)(hx:kget h1 d=some x)
  (h:∀o s',Inv X J Z H s'->By X.K G x o->Q o s'):wpAny d_ A (getItem D_ u) Q E s:=by
 obtain⟨es,Y,h2,h3,h4,h5,h6⟩:=eL I m sub e;have hT:=gF_;unfold getItem;refine JS (HP (wpAny_sequenceKey hT a_ (HP (JV hT PySem.slot_dict_getitem (JR PySem.slot_dict_getitem hT PySem.entry_dict_getitem ?_ (PySem.args_dict_getitem _ _))))));show wpAny d_ A.in1 js! _ _ s;refine HP js_;rw[hx]at ho;cases o with
 |none=>exact ho.elim
 |some o=>exact HS ⟨o,rfl,HS (h o s' I' ho)⟩
def pY(hu:e1!)(I:b_)(m:by!)(sub:E!)(e:cm!)(r:bT!)(hk:bc!)
  (h:∀s',Inv X J Z H s'->Q (cV_).isSome s'):wpAny d_ A (contains D_ u) Q E s:=by
 obtain⟨es,Y,h2,h3,h4,h5,h6⟩:=eL I m sub e;have hT:=gF_;unfold contains;refine JS (HP (QB hT QD.lookup ?_));rw[IF (by rw[beq_builtin_none];exact JB)];refine HP (wpAny_callSpecialUnlessNone?_slot hT QD (JR QD hT PySem.entry_dict_contains ?_ (PySem.args_dict_contains _ _)));show wpAny d_ A.in1 js! _ _ s;refine HP js_;cases o with
 |none=>
  have hn:kget h1 d=none:=by
   cases q:kget h1 d with
   |none=>rfl
   |some y=>rw[q]at ho;exact ho.elim
  have h:=h s' I';rw[hn]at h;exact HP (wpAny_pendingKey_other h4 (HS yT!))
 |some o=>
  have hn:(cV_).isSome=true:=by
   cases q:kget h1 d with
   |none=>rw[q]at ho;exact ho.elim
   |some y=>rfl
  have h:=h s' I';rw[hn]at h;exact HS yT!
def a4x(hu:e1!)(I:b_)(m:by!)(sub:E!)(e:cm!)(r:bT!)(hk:bc!)(rv:jr!)(hl:cm_)
  (h:yR!):wpAny d_ A (setItem D_ u v) Q E s:=by
 obtain⟨es,Y,h2,h3,h4,h5,h6⟩:=eL I m sub e;have hT:=gF_;unfold setItem;refine JS (HP (wpAny_sequenceKey hT a_ (HP (JV hT PySem.slot_dict_setitem (JR PySem.slot_dict_setitem hT PySem.entry_dict_setitem ?_ (PySem.args_dict_setitem _ _ _))))));refine HP (PN hT ?_);show wpAny d_ A.in1 (dictSet a u v>>=_) _ _ s;exact HP (a4y hu I m sub e r hk rv hl λbh s' I' c'=>HS ⟨cG_,rfl,HS (h bh s' I' c')⟩)
def c1h(hu:e1!)(I:b_)(m:by!)(sub:E!)(e:cm!)(r:bT!)(hk:bc!)
  (h:∀o s',Inv X J Z H s'->By X.K G ((cV_).getD .non) o->Q o s'):wpAny d_ A (call yU! [dg!,u]) Q E s:=by
 obtain⟨es,Y,h2,h3,h4,h5,h6⟩:=eL I m sub e;refine JR PF h3.typeIs PySem.F.entry_dict_get ?_ (PySem.F.args_dict_get_2 _ _);show wpAny d_ A.in1 js! _ _ s;refine HP js_;cases q:kget h1 d with
 |none=>
  rw[q]at ho;cases o with
  |none=>
   have h:=h .none s' I';rw[q]at h;exact HP (wpAny_missed_other h4 (HS ⟨cG_,rfl,h ⟨V.non,Ao.non,rfl⟩⟩))
  |some o=>exact ho.elim
 |some y=>
  rw[q]at ho;cases o with
  |none=>exact ho.elim
  |some o=>
   have h:=h o s' I';rw[q]at h;exact HS yU_
def c1g(hu:e1!)(I:b_)(m:by!)(sub:E!)(e:cm!)(r:bT!)(hk:bc!)(rv:jr!)
  (h:∀o s',Inv X J Z H s'->By X.K G ((cV_).getD x) o->Q o s'):wpAny d_ A (call yU! [dg!,u,v]) Q E s:=by
 obtain⟨es,Y,h2,h3,h4,h5,h6⟩:=eL I m sub e;refine JR PF h3.typeIs PySem.F.entry_dict_get ?_ (PySem.F.args_dict_get_3 _ _ _);show wpAny d_ A.in1 js! _ _ s;refine HP js_;cases q:kget h1 d with
 |none=>
  rw[q]at ho;cases o with
  |none=>
   have h:=h v s' I';rw[q]at h;exact HP (wpAny_missed_other h4 (HS ⟨v,rfl,h rv⟩))
  |some o=>exact ho.elim
 |some y=>
  rw[q]at ho;cases o with
  |none=>exact ho.elim
  |some o=>
   have h:=h o s' I';rw[q]at h;exact HS yU_
def uA(hu:e1!)(I:b_)(m:by!)(sub:E!)(e:cm!)(r:bT!)(hk:bc!)(rv:jr!)(hl:cm_)
  (hs:∀y o s',kget h1 d=some y->Inv X J Z H s'->By X.K G y o->Q o s')
  (hn:kget h1 d=none->∀bh s',Inv X J Z yW_ s'->Fv X.prog X.w X.K G yW_ a (.dct n0_ cT_)->Q v s'):wpAny d_ A (call (.builtin "dict.setdefault") [dg!,u,v]) Q E s:=by
 obtain⟨es,Y,h2,h3,h4,h5,h6⟩:=eL I m sub e;have ay:=OL h2.1;have hT:=gF_;refine JR SE hT PySem.F.entry_dict_setdefault ?_ (PySem.F.args_dict_setdefault_3 _ _ _);unfold Builtin.«dict.setdefault» Builtin.Dict.keyAndDefault;refine HP yY!;dsimp only;rw[IF (by rw[h4];exact JB)];obtain⟨i1,i2,i3,i4⟩|⟨j,y,e',i1,i2,i3,i4,i5,i6,i7⟩:=h2.look hk
 .refine HP (nT hu h3 h6 jq_ gF! (λj e tk q=>by rw[i1]at q;rcases q) λh' tk _ D' db=>HS ⟨_,rfl,hn i2 _ _ (a8b I Y D' db h4 ?_) ⟨_,bI,?_⟩⟩)
  .rw[IR,LO];omega
  .have:=h2.put hk r rv;rw[i1]at this;exact this
 .exact HP (nT hu h3 h6 jq_ gF! (λj' e tk q q2=>by
   rw[i1]at q;rcases q;rw[i3]at q2;rcases q2;exact HS ⟨_,rfl,hs y _ _ i4 eh_ i5⟩) λh' tk q=>by rw[i1]at q;rcases q)
end
section
variable{X:Cx}{J:List (Addr×Obj)}{Z:St}{H:Hp}{s:xR!}
def a0j(I:b_)(qa:iM_)(qb:wA!)(rd:gg!)(re:gg_)(hu:ah!)
  (h:iO!):SeqAt.RcNeAt A s D_ dp! (!Ie ds es):=by
 obtain⟨us,rv,p1,_⟩:=I.tuple qa;obtain⟨us',az,p2,_⟩:=I.tuple qb;have Y:=aG rd;have h2:=aG re;have h3:=d9_;have h4:=iO_;have z:=SeqAt.RcNeAt.tuples p1 p2 hu iP!;have e:wA_=Ie ds es:=by
  show"#("
  .rw[hl,Nat.min_self,<-hl,iP_,hl];simp
  .rw[iQ!];have:(g_==aa!)=false:=by simpa using hl
   rw[this,RB]
 rw[e]at z;exact z
def a3d(I:b_)(qa:nf!)(qb:wB_)(rd:gg!)(re:gg_)(hu:ah!)
  (h:iO!):SeqAt.RcNeAt A s D_ dp! (!Ie ds es):=by
 show"!B";have h4:=iO_;by_cases hl:g_=aa!
 .have z:=SeqAt.RcNeAt.lists p1.isList p2.isList mN! hu iP!;rw[HZ,<-h3,<-Y,iP_]at z;exact z
 .rw[iQ!];exact SeqAt.RcNeAt.lists_lengths p1.isList p2.isList wB! hu
def b1v(I:b_)(n:ch_)(n':eM!)(hu:ah!)(r:dG_)(r':gh!)(ru:aQ!)(be:gh_)(hT:∀xs ys,d=.tup xs->d'=.tup ys->SeqAt.RcNeAt A s u u' jt!)(hL:∀xs ys,d=.lst xs->d'=.lst ys->SeqAt.RcNeAt A s u u' jt!):SeqAt.RcNeAt A s u u' jt!:=by
 show"!e"
 all_goals first|exact hT _ _ rfl rfl|exact hL _ _ rfl rfl|(unfold Ew;(try simp only[Bool.not_false,PL]);with_reducible first|exact .none_none|exact .same _|exact .none_bool _|exact .none_int _ _|exact .none_str _ _|exact .none_tuple ‹_› hu|exact .none_list ‹_› hu|exact .bool_none _|exact .bool_bool _ _|exact .bool_int _ _ _|exact .bool_str _ _ _|exact .bool_tuple _ ‹_› hu|exact .bool_list _ ‹_› hu|exact .int_none _ _|exact .int_bool _ _ _|exact .int_int _ _ _ _|exact .int_str _ _ _ _|exact .int_tuple _ _ ‹_› hu|exact .int_list _ _ ‹_› hu|exact .str_none _ _|exact .str_bool _ _ _|exact .str_int _ _ _ _|exact .str_str _ _ _ _|exact .str_tuple _ _ ‹_› hu|exact .str_list _ _ ‹_› hu|exact .tuple_none ‹_› hu|exact .tuple_bool _ ‹_› hu|exact .tuple_int _ _ ‹_› hu|exact .tuple_str _ _ ‹_› hu|exact .tuple_list ‹_› ‹_› hu|exact .list_none ‹_› hu|exact .list_bool _ ‹_› hu|exact .list_int _ _ ‹_› hu|exact .list_str _ _ ‹_› hu|exact .list_tuple ‹_› ‹_› hu)
def b1w(I:b_)(d d':D)(n:ch_)(n':eM!)(hu:wD!)(r:dG_)(r':gh!)(ru:aQ!)(be:gh_):SeqAt.RcNeAt A s u u' jt!:=
 b1v I n n' a! r r' ru be (λxs ys e e'=>by
  subst e e';obtain⟨a,vs,rfl,q,rr⟩:=bD r;obtain⟨b,ws,rfl,q',b5⟩:=bD r';subst ru;subst be;unfold Av at n n';unfold Hk at hu;unfold Ew;exact a0j I q q' rr b5 a! λus us' rv az=>jJ I xs ys A.in1 vs ws us us' n n' eM_ rr b5 rv az) (λxs ys e e'=>by
  subst e e';obtain⟨a,vs,rfl,q,rr⟩:=bJ r;obtain⟨b,ws,rfl,q',b5⟩:=bJ r';subst ru;subst be;unfold Av at n n';unfold Hk at hu;unfold Ew;exact a3d I q q' rr b5 a! λus us' rv az=>jJ I xs ys A.in1 vs ws us us' n n' eM_ rr b5 rv az)
def AC(KF:zM!):R2:=λx y H Q=>∃dx dy,Ao KF H dx x/\Ao KF H dy y/\Av dx=true/\Av dy=true/\Hk dx<=40/\Q (.bl (!Ew dx dy)) H
def jW(hu:ah_):Fc X ry! (AC X.K):=by intro J s Z H x y v u Q I rx ry h;obtain⟨dx,dy,r1,r2,n1,n2,hd,q⟩:=h;exact b1w I dx dy n1 n2 a! r1 r2 rx ry X.prog X.w X.xe _ iS!
def Gw:D->D->Option D:=λx y=>if Av x&&Av y&&decide (Hk x<=40)then some (.bl (!Ew x y))else none
protected def a3r{KF:zM!}:Fu KF (AC KF) Gw:=by
 show"!2";unfold Gw at e;show"!8"
 .show"!j";rcases e;exact wD_
 .rcases e
open Classical in
def Sj(KF:zM!)(H:Hp)(x:D)(u:wY!):Bool:=decide (∃d,By KF H d u/\Av d=true/\Ew d x=true)
open Classical in
def b5z(I:b_)(r:By X.K H d u)(n:ch_):Sj X.K H x u=Ew d x:=by
 unfold Sj;cases h:Ew d x with
 |true=>exact IN ⟨d,r,n,h⟩
 |false=>
  refine IG ?_;rintro⟨d',⟨v',r',be⟩,n',h'⟩;obtain⟨v,r,ru⟩:=r;have:=ru.inj be;subst this;rw[wM I d d' v n n' r r']at h;rw[h]at h';exact Bool.noConfusion h'
def nZ(I:b_):∀{ds:d!} {vs:r_} {us:l_},Ak X.K H ds vs->Ar vs us->Bx ds=true->us.any (Sj X.K H x)=ds.any λd=>Ew d x
 |[],vs,us,r,rv,_=>by obtain rfl:=cK r;cases rv;rfl
 |d::ds,vs,us,r,rv,n=>by
  obtain⟨v,t,rfl,r1,r2⟩:=bB r;unfold Bx at n;rw[JD]at n;cases rv with
  |cons pj si=>rw[List.any_cons,List.any_cons,b5z I ⟨v,r1,pj⟩ n.1,nZ I r2 si n.2]
def nB(I:b_)(rx:Ao X.K H x y)(ry:Be y v)(nx:Av x=true):∀{ds:d!} {vs:r_} {us:l_},Ak X.K H ds vs->Ar vs us->Bx ds=true->A.units+Cw ds<cLine->∀u∈us,SeqAt.EqAt A s u v (Sj X.K H x u)
 |[],vs,us,r,rv,_,_=>λu hu=>by obtain rfl:=cK r;cases rv;exact(HY hu).elim
 |d::ds,vs,us,r,rv,n,hd=>λu hu=>by
  obtain⟨z,t,rfl,r1,r2⟩:=bB r;unfold Bx at n;rw[JD]at n;unfold Cw at hd;cases rv with
  |cons pj si=>
   obtain rfl|hu:=HW.mp hu
   .rw[b5z I ⟨z,r1,pj⟩ n.1];exact b6b I d x A z y _ _ n.1 nx a! r1 rx pj ry
   .exact nB I rx ry nx r2 si n.2 a! u hu
def AE(KF:zM!)(neg:Bool):R2:=λx y H Q=>∃p ys dx ds,y=.ref p/\oc!/\Ao KF H dx x/\Ak KF H ds ys/\Av dx=true/\Bx ds=true/\Cw ds<=40/\Q (.bl (if neg then !(ds.any λd=>Ew d dx)else ds.any λd=>Ew d dx)) H
def c3w(hu:ah_):Fc X oc_ (AE X.K false):=by
 intro J s Z H x y v u Q I rx ry h;obtain⟨p,ys,dx,ds,rfl,hq,r1,r2,n1,n2,hd,q⟩:=h;subst ry;obtain hq|hq:=hq
 .show"!p";refine SeqAt.in_listAt e2_ pl.isList ju_ jv!;rw[jw_,jw!];exact q
 .obtain⟨its,r,pl,hz⟩:=I.tuple hq;refine SeqAt.in_tupleAt e2_ pl ju_ jv!;rw[jw_,jw!];exact q
def a9f(hu:ah_):Fc X od! (AE X.K true):=by
 intro J s Z H x y v u Q I rx ry h;obtain⟨p,ys,dx,ds,rfl,hq,r1,r2,n1,n2,hd,q⟩:=h;subst ry;obtain hq|hq:=hq
 .show"!p";refine SeqAt.notIn_listAt e2_ pl.isList ju_ jv!;rw[jw_,jw!];exact q
 .obtain⟨its,r,pl,hz⟩:=I.tuple hq;refine SeqAt.notIn_tupleAt e2_ pl ju_ jv!;rw[jw_,jw!];exact q
def AF(P:xc!)(w:wZ!)(KF:zM!)(neg:Bool):R2:=λx y H Q=>∃(M:Mh) (G:Hp) (a:qT!) (h1:r!) (ep:Nat) (d:D) (k:MK),y=.ref a/\At G H/\MR P w KF M G H/\M a=some gE!/\Ao KF G d x/\Cg d=some k/\Q (.bl (if neg then !(cV_).isSome else(cV_).isSome)) H
def c3x(hu:ah_):Fc X oc_ (AF X.prog X.w X.K false):=by intro J s Z H x y v u Q I rx ry h;obtain⟨M,G,a,h1,ep,d,k,rfl,sub,m,e,r,hk,q⟩:=h;subst ry;exact HP y3_
def a9g(hu:ah_):Fc X od! (AF X.prog X.w X.K true):=by intro J s Z H x y v u Q I rx ry h;obtain⟨M,G,a,h1,ep,d,k,rfl,sub,m,e,r,hk,q⟩:=h;subst ry;exact HP y3_
def Ya(P:xc!)(w:wZ!)(KF:zM!)(neg:Bool):R2:=λx y H Q=>AE KF neg x y H Q\/AF P w KF neg x y H Q
def jA(hu:ah_):Fc X oc_ (Ya X.prog X.w X.K false):=(c3w hu).or (c3x hu)
def lA(hu:ah_):Fc X od! (Ya X.prog X.w X.K true):=(a9f hu).or (a9g hu)
def Nz(M:Mh):D->Option aD!
 |.lst xs=>some xs
 |.tup xs=>some xs
 |.fn a=>match M a with|some (.lst xs)=>some xs|_=>none
 |_=>none
def wJ{KF:zM!}(sub:E!)(m:bT_)(r:cc_)(e:Nz M d=some xs):∃p ys,v=.ref p/\oc!/\Ak KF G xs ys:=by
 cases d<;>first|(rcases e;done)|skip
 .rcases e;show"!Y";exact⟨p,vs,rfl,.inr nV!,rr⟩
 .rcases e;obtain⟨p,vs,rfl,q,rr⟩:=bJ r;exact⟨p,vs,rfl,.inl (sub.seq q),rr⟩
 .rename_i a;obtain rfl:=fJ r;dsimp only[Nz]at e;show"!8"
  .rename_i ys hy;rcases e;obtain⟨_,vs,Y,h2⟩:=m.cell a _ hy;exact⟨a,vs,rfl,.inl (Eh.of Y),h2⟩
  .rcases e
def Jm(neg:Bool)(M:Mh)(x y:D):Option D:=match y with
 |.fn a=>match M a with
  |some (.dct h1 _)=>(Cg x).bind λ_=>some (.bl (if neg then !(kget h1 x).isSome else(kget h1 x).isSome))
  |_=>inS M x y
 |_=>inS M x y
where inS (M:Mh) (x y:D):Option D:=(Nz M y).bind λds=>if Av x&&Bx ds&&decide (Cw ds<=40)then some (.bl (if neg then !(ds.any λd=>Ew d x)else ds.any λd=>Ew d x))else none
protected def fS{KF:zM!}:Xk P w KF (Ya P w KF neg) (Jm neg):=by
 intro x y dx dy d M G H Q sub m rx ry e k;have seq:Jm.inS neg M dx dy=some d->Ya P w KF neg x y H Q:=λe=>by
  obtain⟨ds,e1,e2⟩:=HQ.mp e;split at e2
  .show"!j";rcases e2;obtain⟨p,ys,rfl,q,rr⟩:=wJ sub m ry e1;exact .inl ⟨p,ys,dx,ds,rfl,q,rx.mono sub,rr.mono sub,h.1.1,h.1.2,h.2,dE!⟩
  .rcases e2
 unfold Jm at e;show"!8"
 .rename_i a;show"!8"
  .show"#5";rcases e2;obtain rfl:=fJ ry;exact .inr ⟨M,G,a,h1,ep,dx,kk,rfl,sub,m,hM,rx,e1,dE!⟩
  .exact seq e
 .exact seq e
def CC(P:xc!)(w:wZ!)(KF:zM!):R2:=λx y H Q=>∃(M:Mh) (G:Hp) (a:qT!) (h1:r!) (ep:Nat) (d z:D) (k:MK),x=.ref a/\At G H/\MR P w KF M G H/\M a=some gE!/\Ao KF G d y/\Cg d=some k/\kget h1 d=some z/\∀v,Ao KF G z v->Q v H
def c4x(hu:ah_):Vm X (CC X.prog X.w X.K):=by
 intro value slice J s Z H x y v u Q I rx ry h hs;obtain⟨M,G,a,h1,ep,d,z,k,rfl,sub,m,e,r,hk,hz,q⟩:=h;subst rx;obtain⟨es,Y,h2,h3,h4,h5,h6⟩:=eL I m sub e;unfold subscriptTail;refine HP ?_;rw[getitemInPython_of_ne h3.typeIs.not_modules];refine HP (QB h3.typeIs PySem.F.slot_dict_getitem.lookup ?_);have fin:wpAny d_ X.A (subscripted slice false D_ u) (λr c8=>wpAny d_ X.A (letTemporaryGo value D_ r>>=λ_=>pure r) aG! X.xe c8) X.xe s:=by
  rw[hs];exact wpAny_operating (a4z a! I m sub e ⟨_,r,ry⟩ hk hz λo s' I' ⟨v',r',be⟩=>HP (wpAny_letTemporaryGo (HS ⟨v',H,I',be,q v' r'⟩)))
 first
  |exact HS h9!
  |exact HP (HS h9!)
  |exact HP fin
def CD(P:xc!)(w:wZ!)(KF:zM!):R2:=λx y H Q=>FD KF x y H Q\/CC P w KF x y H Q
def bG(hu:ah_):Vm X (CD X.prog X.w X.K):=aJ.or (c4x hu)
def Ce(M:Mh)(x y:D):Option D:=match x with
 |.fn a=>match M a with
  |some (.dct h1 _)=>(gH!).bind λ_=>kget h1 y
  |some (.lst xs)=>match y with|.int i=>Fj xs i|_=>none
  |_=>none
 |_=>Al x y
protected def bE{KF:zM!}:Xk P w KF (CD P w KF) Ce:=by
 show"![";unfold Ce at e;show"!8"
 .rename_i a;obtain rfl:=fJ rx;show"!8"
  .show"#5";exact .inr ⟨M,G,a,h1,ep,dy,d,kk,rfl,sub,m,hM,ry,e1,e2,λv r=>k v G H aN! r⟩
  .rename_i xs hM;show"!8"
   .rename_i i;obtain rfl:=aU ry;show"!k";obtain⟨v,e6,r6⟩:=mS h2 e;exact .inl (.inl ⟨a,vs,i,v,rfl,rfl,Eh.of Y,e6,k v G H aN! r6⟩)
   .rcases e
  .rcases e
 .exact .inl (aM sub rx ry e k)
def Kc(M:Mh)(x y:D):Option D:=match x with
 |.fn a=>match M a,y with
  |some (.lst xs),.lst ys=>if f_+ad_<=big then some (.lst dY_)else none
  |_,_=>none
 |_=>Bv x y
protected def iJ{KF:zM!}:Xk P w KF (Qa KF) Kc:=by
 show"![";unfold Kc at e;show"!8"
 .rename_i a;obtain rfl:=fJ rx;show"!8"
  .rename_i xs ys hM;show"!8"
   .show"!L";show"!k";obtain⟨b,ws,rfl,qb,rb⟩:=bJ ry;exact .inr (.inr (.inr (.inr ⟨a,b,vs,ws,rfl,rfl,Eh.of Y,sub.seq qb,by rw[<-aG h2,<-aG rb];exact cF hl,λp hp=>k _ _ _ iB_ (cP f6_ (cG h2 rb))⟩)))
   .rcases e
  .rcases e
 .exact dZ sub rx ry e k
end
def Ed{α:Type}(o:Option α)(R:gp!):Prop:=match o with|some a=>R a|none=>False
def cW(h:Ed o R):∃a,o=some a/\R a:=by
 cases o with
 |none=>exact h.elim
 |some a=>exact⟨a,rfl,h⟩
def Gx(C:qT!)(x:Str)(M:Mh)(d:D):Option D:=match d with
 |.fn a=>match M a with
  |some (.obj C' fs)=>if C'=C then fs.lookup x else none
  |_=>none
 |_=>none
def Gk(f:Str)(v:D):List bQ_->List bQ_
 |[]=>[(f,v)]
 |(g,x)::r=>if g=f then(g,v)::r else(g,x)::Gk f v r
def b5s{KF:zM!}{x:Str}(h:jk!):fs.lookup x=some d->∃v,vs.lookup x=some v/\Ao KF G d v:=by
 unfold Ip at h
 induction h with
 |nil=>intro e;rcases e
 |@cons p q _ _ h t ih=>
  intro e;rw[KD]at e ⊢;rw[<-h.1];show"!8"
  .rcases e;exact⟨_,rfl,h.2⟩
  .exact ih e
def b5r{KF:zM!}{x:Str}(h:jk!):fs.lookup x=none->vs.lookup x=none:=by
 unfold Ip at h
 induction h with
 |nil=>exact λ_=>rfl
 |@cons p q _ _ h t ih=>
  intro e;rw[KD]at e ⊢;rw[<-h.1];show"!8"
  .rcases e
  .exact ih e
def c0t{KF:zM!}{x:Str}(r:cc_)(h:jk!):Ip KF G (Gk x d fs) (Iw x v vs):=by
 unfold Ip at h
 induction h with
 |nil=>exact .cons ⟨rfl,r⟩ .nil
 |@cons p q fs vs h t ih=>
  show Ip KF G (if p.1=x then(p.1,d)::fs else p::Gk x d fs) (if q.1=x then(q.1,v)::vs else q::Iw x v vs);rw[<-h.1];by_cases e:p.1=x
  .rw[IB e,IB e];exact .cons ⟨rfl,r⟩ t
  .rw[IF e,IF e];exact .cons h ih
section
variable{X:Cx}{own:List Nat}{e o a b:Expr}{es:List Expr}{pos ax ai p:Pos}{f fa fb fo:WE}{fs:WA}{x m:Str}{C:qT!}
def Au(C:qT!)(x:Str)(f:WE):WE:=λρ M R=>f ρ M λd M1=>Ed (Gx C x M1 d) λv=>R v M1
def bF(c:df!)(n:Cv X.K C x)(h:bc_)(hb:attributeBase e x X.env d2!=eval e X.env:=by rfl):ME X own (.Attribute e x pos) (Au C x f):=
 eF (c3s h.ok hb) λZ G H Q ρ M R st e k=>⟨G,ρ,M,_,st,e,λd M1 v G1 H1 r1 x1 m1 q1=>by
  obtain⟨z,Y,h2⟩:=cW r1;cases d<;>first|(rcases Y;done)|skip
  rename_i ad;obtain rfl:=fJ q1;dsimp only[Gx]at Y;split at Y
  .rename_i C' fs hM;split at Y
   .rename_i hC;subst hC;obtain⟨_,dx,vs,h3,h4⟩:=m1.cell ad _ hM;obtain⟨u,h5,h6⟩:=b5s h4 Y;exact⟨ad,_,dx,vs,u,rfl,h3,c,n,h5,k z M1 u G1 H1 h2 x1 m1 h6⟩
   .rcases Y
  .rcases Y⟩
def Pn(P:xc!)(w:wZ!)(KF:zM!)(r:fz_)(g:of!):Prop:=∀{vs:r_} {ds:d!} {d:D} {M:Mh} {G H:Hp} {Q:VK},At G H->MR P w KF M G H->Ak KF G ds vs->g M ds=some d->iu!->r vs H Q
nonrec def w1(g:of!)(fs:WA):WE:=λρ M R=>fs ρ M λds M1=>Ed (g M1 ds) λd=>R d M1
def nF{id:String}(hc:lG_)(hd:za!)(hg:G_)(hm:cv_)(hv:lH!)(ha:dP_)(hn:cw!:=by decide)
  (a8:y_:=by decide)(he:Y!:=by rfl)(a7:au!:=by rfl):ME X own aT! (w1 g fs):=
 eF vA! λZ G H Q ρ M R st e' k=>⟨G,ρ,M,_,st,e',λds M1 vs G1 H1 r1 x1 m1 q1=>by
  obtain⟨d,Y,h2⟩:=cW r1;exact hd x1.sub m1 q1 Y λv G2 H2 x2 q2=>k d M1 v G2 H2 h2 zb! (m1.ext x2) q2⟩
def vA{T:String}{r:fz_}{g:of!}(hc:Hv X do_ r)(hd:za!)(hg:G_)(hm:cv_)(hv:lI!)(ha:dP_)(hn:cw!:=by decide)
  (a8:y_:=by decide)(he:Y!:=by rfl)(a7:au!:=by rfl):ME X own aT! (w1 g fs):=
 eF (a9e hc hg hm hv ha.ok hn a8 he a7) λZ G H Q ρ M R st e' k=>⟨G,ρ,M,_,st,e',λds M1 vs G1 H1 r1 x1 m1 q1=>by
  obtain⟨d,Y,h2⟩:=cW r1;exact hd x1.sub m1 q1 Y λv G2 H2 x2 q2=>k d M1 v G2 H2 h2 zb! (m1.ext x2) q2⟩
def Qh(M:Mh):List D->Option D
 |[.str x]=>Bm [.str x]
 |[d]=>(Nz M d).map λxs=>.int f_
 |_=>none
def a5a{KF:zM!}:Pn P w KF vU_ Qh:=by
 show"!T";unfold Qh at e;show"!8"
 .exact dW sub r e k
 .obtain⟨xs,e1,rfl⟩:=IA.mp e;show"!f";refine⟨gf_,f_,rfl,?_,dC_⟩;rw[aG rr];exact q.elim (λz=>.inl zd!) λz=>.inr zd!
 .rcases e
def Ug(M:Mh):List D->Option D
 |[d]=>(Nz M d).bind λxs=>if f_<=big then some H! else none
 |_=>none
def c1j{KF:zM!}:Pn P w KF (λxs H Q=>∃p ys,xs=h5_/\oc!/\∀l,H l=none->Q h6! h6_) Ug:=by
 show"!T";unfold Ug at e;show"!8"
 .obtain⟨xs,e1,e2⟩:=HQ.mp e;split at e2
  .cases e2;show"!f";exact⟨p,ys,rfl,q,λl hl=>k _ _ _ zd_ (cP ze! rr)⟩
  .cases e2
 .cases e
def Fw(fs:WA):WE:=λρ M R=>fs ρ M λds M1=>g_<=1000/\∀p,M1 p=none->R x! (mup M1 p bm!)
def jF(h:eY!):ME X own hJ! (Fw fs):=
 eF iz_ λZ G H Q ρ M R st e k=>⟨G,ρ,M,_,st,e,λds M1 vs G1 H1 r1 x1 m1 q1=>⟨by rw[<-aG q1];exact eG r1.1,λp hp=>
  k _ _ _ _ _ (r1.2 p (m1.nocell hp)) (x1.trans (.laid x1.sub hp) m1) (m1.laid hp x1.sub ⟨vs,bI,q1⟩) Ao.fn⟩⟩
def Ln(M:Mh)(d:D):Option (Addr×List D):=match d with
 |.fn p=>match M p with|some (.lst xs)=>some (p,xs)|_=>none
 |_=>none
protected def kR{KF:zM!}(m:bT_)(r:cc_)(e:Ln M d=some q):d=.fn q.1/\v=.ref q.1/\M q.1=some (.lst q.2)/\∃vs,H q.1=some dz!/\Ak KF G q.2 vs:=by
 cases d<;>first|(rcases e;done)|skip
 show"#7";dsimp only[Ln]at e;show"!8"
 .rename_i xs hM;rcases e;exact⟨rfl,rfl,hM,(m.cell p _ hM).2⟩
 .rcases e
def Dm(M:Mh)(d:D):Option (Addr×List ai_×Nat):=match d with
 |.fn p=>match M p with|some (.dct h1 ep)=>some jA_|_=>none
 |_=>none
protected def cE{KF:zM!}(r:cc_)(e:Dm M d=some q):d=.fn q.1/\v=.ref q.1/\M q.1=some of_:=by
 cases d<;>first|(rcases e;done)|skip
 show"#7";dsimp only[Dm]at e;show"!8"
 .rename_i xs ep hM;rcases e;exact⟨rfl,rfl,hM⟩
 .rcases e
def Mo(fo fa:WE):WE:=λρ M R=>fo ρ M λd M1=>Ed (Ln M1 d) λ_=>fa ρ M1 λv M2=>Ed (Ln M2 d) λq=>og!<big/\R .non zf!
def a7a(ho:cn_)(ha:ap_)(bc:iI!:=by rfl)(gg:((og_).all b8_&&(b9!).all b9_
   &&decide oh!)=true:=by rfl) (gh:dv!:=by rfl)
  (gf:zf_:=by rfl) (gi:gf!:=by rfl):ME X own zg! (Mo fo fa):=
 eF (uQ NG QF QE oW ho.ok (dB ha.ok fK bc) gf gg gh bc gi) λZ G H Q ρ M R st e k=>
  ⟨G,ρ,M,_,st,e,λd M1 v G1 H1 r1 x1 m1 q1=>by
   obtain⟨c1,e1,r1⟩:=cW r1;obtain⟨rfl,rfl,_,xb,hH,_⟩:=kR m1 q1 e1;refine⟨zh!,G1,ρ,M1,_,jn!,r1,zh_⟩;obtain⟨⟨p2,XD⟩,e2,r2⟩:=cW r2;obtain⟨z1,z2,z3,vs,Y,h2⟩:=kR m2 bx_ e2;cases z2;refine zi_;exact k _ _ _ _ _ r2.2 zj_ zk! Ao.non⟩
def mH{q:Addr×List ai_×Nat}(I:b_)(m:by!)(sub:E!)(e:M q.1=some of_):
  s.TypeIs (.ref q.1) "dict"/\∀b,Value.ref q.1=.ref b->∃ob,s.heap.get? b=some ob/\ob.dict=none:=by
 obtain⟨es,_,_,h3,_⟩:=eL I m sub e;refine⟨gF_,is!⟩;cases z;obtain⟨o,h,hc,_⟩:=h3;exact⟨o,h,hc.2.1⟩
def ME.run(h:bc_)(I:b_)(st:yF_)(hf:gA_)
  (k:∀d M' v G' H' u s',R d M'->XM M G H M' G' H'->MR X.prog X.w X.K M' G' H'->Ao X.K G' d v->Inv X J Z H' s'->Be v u->Q u s'):wpAny d_ X.A d2! Q X.xe s:=
 cZ (h.ok J s Z H (λv H'=>∃d M' G',R d M'/\XM M G H M' G' H'/\MR X.prog X.w X.K M' G' H'/\Ao X.K G' d v) I ⟨G,ρ,M,R,st,hf,λd M' v G' H' r x m q=>⟨d,M',G',r,x,m,q⟩⟩) λu s' ⟨v,H',I',rv,d,M',G',r,x,m,q⟩=>k d M' v G' H' u s' r x m q I' rv
def Lr(fo fa:WE):WE:=λρ M R=>fo ρ M λd M1=>Ed jB_ λ_=>fa ρ M1 λy M2=>Ed (Dm M2 d) λq=>Ed gH! λ_=>R ((zl!).getD .non) M2
def b4k(hu:ah_)(ho:cn_)(ha:ap_)(m:M1 X o "get" ax a ai):ME X own (.Call zl_ [a] [] ai) (Lr fo fa):=⟨by
 rintro J s Z H Q I ⟨G,ρ,M,R,st,e,k⟩;refine wpAny_Call_method m.base m.few m.line QL PF PySem.F.type_dict_get oj_;obtain⟨c1,e1,r1⟩:=cW r1;obtain⟨rfl,rfl,hM⟩:=cE q1 e1;subst rx;obtain⟨t1,t2⟩:=mH I1 m1 x1.sub hM;refine ok!;rw[m.trees];refine PJ rfl (OQ (LY (ha.run I1 e3_ r1 λy M2 yv G2 H2 iv s2 r2 x2 m2 q2 I2 ry=>OM ?_)));obtain⟨⟨p2,SX,nv⟩,e2,r2⟩:=cW r2;obtain⟨kk,e3,r2⟩:=cW r2;obtain⟨z1,z2,iy⟩:=cE bx_ e2;cases z1;exact c1h a! I2 m2 x2.sub iy ⟨yv,q2,ry⟩ e3 λov s' I' ⟨v',r',be⟩=>⟨v',H2,I',be,k _ M2 v' G2 H2 r2 cl! m2 r'⟩⟩
def Ff(fo fa fb:WE):WE:=λρ M R=>fo ρ M λd M1=>Ed jB_ λ_=>fa ρ M1 λy M2=>fb ρ M2 λz M3=>Ed (Dm M3 d) λq=>Ed gH! λ_=>R ((zl!).getD z) M3
def kH(hu:ah_)(ho:cn_)(ha:ap_)(hb:bU!)(m:M2 X o "get" ax a b ai):ME X own (.Call zl_ bb_ [] ai) zp!:=⟨by
 rintro J s Z H Q I ⟨G,ρ,M,R,st,e,k⟩;refine wpAny_Call_method m.base m.few m.line QL PF PySem.F.type_dict_get oj_;obtain⟨c1,e1,r1⟩:=cW r1;obtain⟨rfl,rfl,hM⟩:=cE q1 e1;subst rx;obtain⟨t1,t2⟩:=mH I1 m1 x1.sub hM;refine ok!;rw[m.trees];refine PJ rfl (OQ (LY (ha.run I1 e3_ r1 λy M2 yv G2 H2 iv s2 r2 x2 m2 q2 I2 ry=>
  LY zm_)))
 obtain⟨⟨p2,SX,nv⟩,e2,r3⟩:=cW r3;obtain⟨kk,e3,r3⟩:=cW r3;obtain⟨z1,z2,iy⟩:=cE zn! e2;cases z1;exact c1g a! I3 m3 x3.sub iy zn_ e3 zo_ λov s' I' ⟨v',r',be⟩=>⟨v',H3,I',be,k _ M3 v' G3 H3 r3 ol! m3 r'⟩⟩
def Hx(fo fa fb:WE):WE:=λρ M R=>fo ρ M λd M1=>Ed jB_ λ_=>fa ρ M1 λy M2=>fb ρ M2 λz M3=>Ed (Dm M3 d) λq=>Ed gH! λ_=>q.2.1.length<big/\
 match kget q.2.1 y with
 |some v=>R v M3
 |none=>R z (mup M3 q.1 (.dct (Bf q.2.1 y z) (q.2.2+1)))
def uZ(hu:ah_)(ho:cn_)(ha:ap_)(hb:bU!)(m:M2 X o "setdefault" ax a b ai):ME X own (.Call (.Attribute o "setdefault" ax) bb_ [] ai) (Hx fo fa fb):=⟨by
 rintro J s Z H Q I ⟨G,ρ,M,R,st,e,k⟩;refine wpAny_Call_method m.base m.few m.line QL SE PySem.F.type_dict_setdefault oj_;obtain⟨c1,e1,r1⟩:=cW r1;obtain⟨rfl,rfl,hM⟩:=cE q1 e1;subst rx;obtain⟨t1,t2⟩:=mH I1 m1 x1.sub hM;refine ok!;rw[m.trees];refine PJ rfl (OQ (LY (ha.run I1 e3_ r1 λy M2 yv G2 H2 iv s2 r2 x2 m2 q2 I2 ry=>
  LY zm_)))
 obtain⟨⟨p2,SX,nv⟩,e2,r3⟩:=cW r3;obtain⟨kk,e3,hl,r3⟩:=cW r3;obtain⟨z1,z2,iy⟩:=cE zn! e2;cases z1;have li:=(cl!).trans x3 m2;refine uA a! I3 m3 x3.sub iy zn_ e3 zo_ hl (λw ov s' hw I' ⟨v',r',be⟩=>?_) λhn bh s' I' c'=>?_
 .dsimp only at r3;rw[hw]at r3;exact⟨v',H3,I',be,k _ M3 v' G3 H3 r3 li m3 r'⟩
 .dsimp only at r3;rw[hn]at r3;exact⟨zv,_,I',rz,k _ _ zv G3 _ r3 (li.trans (.write m3 x3.sub iy) m3) (m3.write iy c') q3⟩⟩
def Fa:WE:=λρ M R=>∀p,M p=none->R x! dQ_
def eW:ME X own (.Dict [] [] pos) Fa:=⟨by
 rintro J s Z H Q I ⟨G,ρ,M,R,st,e,k⟩;have hp:=I.fresh;have D0:Ms jC! s.heap.objs.size [] 0:=om!;refine wpAny_Dict_empty ⟨cH!,upd H s.heap.objs.size zr!,om_,rfl,?_⟩
 .show"!V"
 .exact k _ _ _ G _ (e _ (st.mr.nocell hp)) (.laid st.or.sub hp) (st.mr.laid hp st.or.sub on!) Ao.fn⟩
end
abbrev WP:=Ae->Mh->(List ai_->Mh->Prop)->Prop
def Zo(KF:zM!)(G:Hp):List ai_->List on_->Prop:=Paired λp q=>By KF G p.1 q.1/\By KF G p.2 q.2
structure MP(X:Cx)(own:n!)(pos:Pos)(keys:List (Option Expr))(jp:ct_)(f:WP):Prop where
 ok:∀(J:u_) (s:xR!) (Z:St) (G H:Hp) (ρ:Ae) (M:Mh) (R:zs!) (Q:List on_->Shared->Prop),Inv X J Z H s->Qq X.prog X.w X.K own G H Z ρ M->f ρ M R->
  (∀h1 M' G' H' us s',R h1 M'->XM M G H M' G' H'->MR X.prog X.w X.K M' G' H'->Zo X.K G' h1 us->Inv X J Z H' s'->Q us s')->wpAny d_ X.A (evalPairs (pairTrees keys jp X.env pos)) Q X.xe s
section
variable{X:Cx}{own:List Nat}{e o a b:Expr}{es:List Expr}{pos ax ai p:Pos}{f fa fb fo:WE}{fs:WA}{fp:WP}{keys:List (Option Expr)}{jp:List Expr}
def Kv:WP:=λ_ M R=>R [] M
def Da(fa fb:WE)(fp:WP):WP:=λρ M R=>fa ρ M λx M1=>fb ρ M1 λy M2=>fp ρ M2 λh1 M3=>R ((x,y)::h1) M3
def rW:MP X own pos [] [] Kv:=⟨λJ s Z G H ρ M R Q I st e k=>pairTrees_nil_walk (k [] M G H [] s e jl! st.mr .nil I)⟩
def gP(ha:ap_)(hb:bU!)(hp:zt!):MP X own pos (some a::keys) (b::jp) (Da fa fb fp):=⟨λJ s Z G H ρ M R Q I st e k=>
 pairTrees_cons_walk (ha.run I st e λx M1 v G1 H1 u s1 r1 x1 m1 q1 I1 ru=>hb.run I1 e3_ r1 λy M2 v2 G2 H2 u2 s2 r2 x2 m2 q2 I2 XE=>
  hp.ok J s2 Z G2 H2 ρ M2 _ _ I2 zm! r2 λh1 M3 G3 H3 us s3 r3 x3 m3 q3 I3=>
   k _ M3 G3 H3 _ s3 r3 ol! m3 (.cons ⟨⟨v,(bx_).mono x3.g,ru⟩,⟨v2,zp_,XE⟩⟩ q3) I3)⟩
def iW:∀{l:r!} {d x:D},d∉l.map c_->Bf l d x=l++[cU_]
 |[],_,_,_=>rfl
 |(y,z)::l,d,x,h=>by
  rw[IJ,HW,RU]at h;unfold Bf;rw[jD_,iW h.2];rfl
def nL:∀{l:r!} {d:D},d∉l.map c_->kget l d=none
 |[],_,_=>rfl
 |(y,z)::l,d,h=>by
  rw[IJ,HW,RU]at h;unfold kget;rw[jD_,nL h.2]
def uH(hu:ah!):∀{h1:r!} {us:List on_} {σ:r!} {H:Hp} {s:xR!} {M:Mh} {n:Nat} {Q:PUnit->Shared->Prop},Zo X.K G h1 us->Inv X J Z H s->MR X.prog X.w X.K M G H->At G H->
  M c=some (.dct σ n)->co!+ak!<=1000->(∀p∈h1,(Cg p.1).isSome=true)->((σ++h1).map c_).Nodup->
  (∀H' s',Inv X J Z H' s'->XM M G H zt_ G H'->MR X.prog X.w X.K zt_ G H'->Q PUnit.unit s')->
  wpAny d_ A (forIn us PUnit.unit λ(x:Value×Value) (_:PUnit)=>(do dictSet c x.1 x.2;pure (ForInStep.yield PUnit.unit):Sem (ForInStep PUnit))) Q E s
 |_,_,σ,H,s,M,n,Q,.nil,I,m,sub,hM,hl,hk,nd,k=>by
  rw[RA];have hc:mup M c (.dct (σ++[]) (n+0))=M:=by
   show"#'";split
   .rename_i e;rw[e,JC,hM];rfl
   .rfl
  have k:=k H s I;rw[MF,hc]at k;exact HS (k (.refl sub) m)
 |(d,x)::h1,(u,v)::us,σ,H,s,M,n,Q,.cons r t,I,m,sub,hM,hl,hk,nd,k=>by
  rw[NU];obtain⟨kk,hd⟩:=QH.mp (hk _ HV);have pb:d∉σ.map c_:=λz=>by
   rw[JA,JP]at nd;exact nd.2.2 d z d c! rfl
  dsimp only[_root_.List.length_cons]at hl;refine HP (HP (a4y hu I m sub hM r.1 hd r.2 (IQ a! (show 1001<=big by decide)) λbh s' I' c'=>HS ?_));have qc:Hq σ d n=n+1:=by unfold Hq;rw[nL pb];rfl
  rw[qc,iW pb]at c';rw[qc]at I';have m':=m.write hM c';have XG:At G (upd H c (dE c bh eO_)):=(XM.write (c:=.dct (σ++[cU_]) eO_) m sub hM).sub;refine uH hu t I' m' XG mup_same zu! (λp hp=>hk p if!) (by rw[KH];exact nd) λH2 s2 I2 x2 m2=>?_;have hc:mup (mup M c (.dct (σ++[cU_]) eO_)) c (.dct (σ++[cU_]++h1) (n+1+ak!))=mup M c (.dct (σ++cU_::h1) (n+(cU_::h1).length)):=by
   show"#'";split
   .rw[KH,IW];dsimp only[_root_.List.singleton_append];rw[show n+1+h1.length=n+(h1.length+1)by omega]
   .rfl
  rw[hc]at x2 m2;exact k H2 s2 I2 ((XM.write m sub hM).trans x2 m') m2
def Mn(fp:WP):WE:=λρ M R=>∀p,M p=none->fp ρ dQ_ λh1 M1=>M1 p=some e4!/\ak!<=1000/\(∀q∈h1,(oo!).isSome=true)/\(eW!).Nodup/\R x! (mup M1 p (.dct h1 ak!))
def nE(hu:ah_)(hp:zt!)(jy:keys.all (·.isSome)=true:=by rfl)(hl:keys.length=jp.length:=by rfl)(h0:keys≠[]:=by simp)(h15:keys.length<=15:=by decide):ME X own (.Dict keys jp pos) (Mn fp):=⟨by
 rintro J s Z H Q I ⟨G,ρ,M,R,st,e,k⟩;have hn:=pairTrees_length keys jp X.env pos jy hl;have me:pairTrees keys jp X.env pos≠[]:=λz=>by rw[z]at hn;exact h0 (OU.mp hn.symm)
 rw[arm_eval_Dict,zip_pairTrees keys jp X.env pos jy hl,dictDisplay_pairs _ me a!];unfold subDict;have hf:=I.fresh;have D0:Ms jC! s.heap.objs.size [] 0:=om!;have I1:Inv X J Z cW_ {s with heap:=s.heap.push {cls:=.type "dict",data:=.dict #[]}}:=by
  refine om_;show"!V"
 have x0:XM M G H gJ! G cW_:=.laid st.or.sub hf;have m0:MR X.prog X.w X.K gJ! G cW_:=st.mr.laid hf st.or.sub on!;refine HP (QU (HP (HP (wpAny_alloc (HP (JS ?_))))));rw[aj!];refine HP (hp.ok J _ Z G _ ρ _ _ _ I1 (st.grow x0 m0) (e _ (st.mr.nocell hf)) λh1 M1 G1 H1 us s1 r1 x1 m1 q1 I2=>?_);obtain⟨hM1,ay,hk,nd,r1⟩:=r1;refine JS (HP (uH a! q1 I2 m1 x1.sub hM1 (by simpa using ay) hk nd λH2 s2 I3 x2 m2=>HS (HS (HS ⟨cH!,H2,I3,rfl,?_⟩))));have SY:=(x0.trans x1 m0).trans x2 m1;simp only[LN,RX]at SY m2;exact k _ _ _ G1 H2 r1 SY m2 Ao.fn⟩
end
abbrev WS:=Ae->Mh->(Fl->Mh->Prop)->Prop
structure Hf(P:xc!)(w:wZ!)(KF:zM!)(own:n!)(M0:Mh)(G0 F0:Hp)(M:Mh)(G H:Hp)(Z:St)(ρ:Ae):Prop where
 st:Qq P w KF own G H Z ρ M
 x:XM M0 G0 F0 M G H
 fr:∀i∈own,∀p,Z[i]?=some cc!->F0 p=none
inductive BD(P:xc!)(w:wZ!)(KF:zM!)(M0:Mh)(G0 F0:Hp)(own ce:n!)(f:WS)(E:Qr)(Z:St)(H:Hp):Prop
 |mk (G:Hp) (ρ:Ae) (M:Mh) (R:o!) (st:bA_) (e:gA_) (a:∀aj M' G' ae H',R dR! M'->Hf P w KF ce M0 G0 F0 M' G' H' ae aj->E.nx ae H') (b:∀d M' v G' H',R ae_ M'->XM M0 G0 F0 M' G' H'->MR P w KF M' G' H'->Ao KF G' d v->E.rt v H'):BD P w KF M0 G0 F0 own ce f E Z H
structure MS(X:Cx)(own ce:n!)(st:Stmt)(f:WS):Prop where
 ok:∀M0 G0 F0,PS X st zx!
structure Rz(X:Cx)(own ce:n!)(st:d2_)(f:WS):Prop where
 ok:∀M0 G0 F0,Nf X st zx!
section
variable{P:xc!}{w:wZ!}{KF:zM!}{own ce:List Nat}{M0 M M':Mh}{G0 F0 G H G' H':Hp}{Z ae:St}{ρ aj:Ae}
def Hf.grow(s:bA_)(x:jj_)(m:yA!):Hf P w KF own M0 G0 F0 M' G' H' Z ρ:=⟨s.st.grow x m,s.x.trans x s.st.mr,s.fr⟩
def Hf.set(s:bA_)(hi:aM!)(r:cc_):Hf P w KF own M0 G0 F0 M G H d1! bn!:=by
 have ne:∀j∈own,i≠j:=λj hj z=>hi m4!;refine⟨⟨s.st.or.set hi r,s.st.mr,zy_⟩,s.x,zy_⟩
 .rw[zz!]at e;exact s.st.dj j hj p e
 .rw[zz!]at e;exact s.fr j hj p e
def Ep(own:n!)(Z:St)(H:Hp):Hp:=λb=>if b∈Ii own Z then none else H b
def Hf.sr(s:bA_):SR KF own G jF! G H Z ρ:=by
 refine⟨s.st.or,⟨eD!,vb!,s.st.or.sub,cV!⟩,λi hi p e=>?_⟩
 .unfold Ep at e;show"!8"
  .rcases e
  .exact e
 .unfold Ep;rw[IB (a0c hi e)]
def Hf.root(s:bA_)(h:b∈Ii own Z):M b=none/\F0 b=none:=by obtain⟨i,hi,q⟩:=oY h;exact⟨s.st.dj i hi b q,s.fr i hi b q⟩
def Hf.noF(s:bA_)(h:Ep own Z H b=none):F0 b=none:=by
 unfold Ep at h;split at h
 .rename_i hb;exact(jF_).2
 .cases hM:M0 b with
  |none=>exact s.x.free hM h
  |some c=>exact absurd h (s.st.mr.has (s.x.cells b yx_))
def Hf.cellF(s:bA_)(h:M b=some c):Ep own Z H b=H b/\H b≠none:=by refine⟨?_,s.st.mr.has (by rw[h];simp)⟩;unfold Ep;rw[IF (λhb=>by rw[(jF_).1]at h;rcases h)]
def Hf.mr'(s:bA_)(x:zA!):MR P w KF M G' H':=⟨λa c e=>by
 obtain⟨Y,h2⟩:=s.st.mr.cell a c e;obtain⟨e1,e2⟩:=s.cellF e;refine yz_
 .cases q:G' a with
  |none=>rfl
  |some o=>
   rcases x.new a ca_ with z|z
   .exact absurd Y z
   .rw[e1]at z;exact absurd z e2
 .cases q:H a with
  |none=>exact absurd q e2
  |some o=>exact x.h a o (e1.trans q)⟩
def Hf.x'(s:bA_)(x:zA!):XM M0 G0 F0 M G' H':=by
 refine⟨s.x.g.trans x.g,x.sub,bm_,zA_,s.x.dom,s.x.cells⟩
 .obtain z|z:=x.new b h
  .exact s.x.new b z
  .exact op_
 .have Y:=s.x.keep b o e hb;refine x.h b o ?_;unfold Ep;rw[zB!];exact Y
def Hf.after(s:bA_)(r:SR KF ce G jF! G' H' ae aj):Hf P w KF ce M0 G0 F0 M G' H' ae aj:=
 ⟨⟨r.or,s.mr' r.ext,λi hi p e=>by
  cases q:M p with
  |none=>rfl
  |some c=>
   obtain⟨e1,e2⟩:=s.cellF q;have:=r.fr i hi p e;rw[e1]at this;exact absurd this e2⟩,s.x' r.ext,λi hi p e=>s.noF (r.fr i hi p e)⟩
end
section
variable{X:Cx}{own ba g8:List Nat}{st:Stmt}{rest body:List Stmt}{e a b c tg o:Expr}{es:List Expr}{pos p2:Pos}{f fa fb fc fo:WE}{fs:WA}{ft fu:WT}{q1 q2 q3:WS}{q:Ae->Option Fl}
def nA(h:hi!)(hw:∀M0 G0 F0 E Z G H ρ M R,Hf X.prog X.w X.K own M0 G0 F0 M G H Z ρ->q1 ρ M R->
  (∀aj M' G' ae H',R dR! M'->Hf X.prog X.w X.K ba M0 G0 F0 M' G' H' ae aj->E.nx ae H')->(∀d M' v G' H',R ae_ M'->XM M0 G0 F0 M' G' H'->MR X.prog X.w X.K M' G' H'->Ao X.K G' d v->E.rt v H')->t E Z H):MS X own ba st q1:=
 ⟨by rintro M0 G0 F0 J s Z H E I ⟨G,ρ,M,R,sr,e,k1,k2⟩;exact h J s Z H E I (hw M0 G0 F0 E Z G H ρ M R sr e k1 k2)⟩
def Vp(q:dF!):WS:=λρ M R=>Ed (q ρ) λr=>R r M
def b4c(h:DS X own ba st q):MS X own ba st (Vp q):=⟨by
 rintro M0 G0 F0 J s Z H E I ⟨G,ρ,M,R,sr,e,k1,k2⟩;obtain⟨r,e1,e2⟩:=cW e;refine h.ok G jF! J s Z H E I ⟨G,ρ,r,sr.sr,e1,?_⟩;cases r with
 |nx aj=>exact λG' ae H' fg=>k1 aj M G' ae H' e2 (sr.after fg)
 |rt d=>exact λv G' H' x r=>k2 d M v G' H' e2 (sr.x' x) (sr.mr' x) r⟩
def Bj:WS:=λρ M R=>R Z_ M
def Af(q1 q2:WS):WS:=λρ M R=>q1 ρ M λr M1=>match r with|.nx au=>q2 au M1 R|.rt d=>R ae_ M1
def bL:Rz X own own [] Bj:=⟨by rintro M0 G0 F0 J s Z H E I ⟨G,ρ,M,R,sr,e,k1,k2⟩;exact a6c J s Z H E I (k1 ρ M G Z H e sr)⟩
def aF(Y:oq!)(h2:Rz X ba g8 rest q2):Rz X own g8 hi_ (Af q1 q2):=⟨λM0 G0 F0 J s Z H E I ⟨G,ρ,M,R,sr,e,k1,k2⟩=>
 rD oq_ zC! J s Z H E I zC_⟩
def aE(Y:oq!):Rz X own ba [st] q1:=⟨λM0 G0 F0=>cR oq_⟩
def Hf.free{KF:zM!}{M0 M:Mh}(s:bA_):Hf P w KF [] M0 G0 F0 M f1_ H Z ρ:=by
 have o:=s.st.or.full;have sG:At G f1_:=λb u e=>by
  unfold Kj;split
  .exact s.st.or.sub b u e
  .exact e
 refine⟨⟨o,⟨λa c e=>?_⟩,ao!⟩,⟨s.x.g.trans sG,o.sub,bm_,s.x.keep,s.x.dom,s.x.cells⟩,ao!⟩
 .obtain⟨Y,h2⟩:=s.st.mr.cell a c e;refine⟨?_,h2.mono sG rfl⟩;unfold Kj;rw[IF (λhb=>by rw[(jF_).1]at e;rcases e)];exact Y
 .unfold Kj at h;split at h
  .rename_i hb;exact .inr (jF_).2
  .exact s.x.new b h
def rV(h:Rz X [] g8 rest q1):Rz X own g8 rest q1:=⟨by rintro M0 G0 F0 J s Z H E I ⟨G,ρ,M,R,sr,e,k1,k2⟩;exact h.ok M0 G0 F0 J s Z H E I ⟨_,ρ,M,R,sr.free,e,k1,k2⟩⟩
def Aq(f:WE):WS:=λρ M R=>f ρ M λd M1=>R ae_ M1
def aW(h:bc_):MS X own ba hj_ (Aq f):=nA (wQ h.ok) λM0 G0 F0 E Z G H ρ M R sr e k1 k2=>
 ⟨G,ρ,M,_,sr.st,e,zD!⟩
def Vr:WS:=λ_ M R=>R (.rt .non) M
def b9x:MS X own ba qH! Vr:=nA b8x λM0 G0 F0 E Z G H ρ M R sr e k1 k2=>k2 _ M _ G H e sr.x sr.st.mr Ao.non
def An(i:Nat)(f:WE):WS:=λρ M R=>f ρ M λd M1=>R (.nx bn!) M1
def aT(hN:a3!)(hi:ac_)(hx:a3_)(h:bc_)(b8:aM!:=by decide)(hs:m6!:=by rfl)
  (hf:X.fn x=true\/X.env.scope.names.lookup x=some .local:=by first|exact .inl rfl|exact .inr rfl|assumption):MS X own own wj_ or_:=
 nA wk! λM0 G0 F0 E Z G H ρ M R sr e k1 k2=>⟨G,ρ,M,_,sr.st,e,zD_⟩
def Ap(ft:WT)(q1 q2:WS):WS:=λρ M R=>ft ρ M λb M1=>if b then q1 ρ M1 R else q2 ρ M1 R
def cQ(hc:jo!)(Y:Rz X own ba b1 q1)(h2:Rz X own ba b2 q2):MS X own ba m7! zE!:=⟨by
 rintro M0 G0 F0 J s Z H E I ⟨G,ρ,M,R,sr,e,k1,k2⟩;refine b2m hc.ok oq_ zC! J s Z H E I zE_;cases b with
 |true=>exact jR jG!
 |false=>exact jS jG!⟩
def Az(f:WE):WS:=λρ M R=>f ρ M λ_ M1=>R Z_ M1
def dC(h:bc_)(hs:kL_:=by rfl):MS X own own kM! (Az f):=
 nA (mT h.ok hs) λM0 G0 F0 E Z G H ρ M R sr e k1 k2=>⟨G,ρ,M,_,sr.st,e,zF!⟩
def Bg:WS:=λ_ _ _=>False
def dN:MS X own ba st Bg:=⟨by rintro M0 G0 F0 J s Z H E I ⟨G,ρ,M,R,sr,e,k1,k2⟩;exact e.elim⟩
def Ez(C:qT!)(x:Str)(fo f:WE):WS:=λρ M R=>f ρ M λy M1=>fo ρ M1 λd M2=>match d with
 |.fn p=>(match M2 p with|some (.obj C' fs)=>C'=C/\a2!<100/\R Z_ zG!|_=>False)
 |_=>False
def fO(c:df!)(n:Cv X.K C x)(ho:cn_)(h:bc_)(hs:swapsWith e (some (.Attribute o x p2)) pos.line X.env=pure false:=by rfl):MS X own own (.Assign [.Attribute o x p2] e pos) (Ez C x fo f):=
 nA (c3k ho.ok h.ok hs) λM0 G0 F0 E Z G H ρ M R sr e k1 k2=>⟨G,ρ,M,_,sr.st,e,λy M1 v G1 H1 r1 x1 m1 q1=>⟨G1,ρ,M1,_,sr.st.grow x1 m1,r1,λd M2 u G2 H2 r2 x2 m2 q2=>by
  cases d<;>first|exact r2.elim|skip
  rename_i p;obtain rfl:=fJ q2;dsimp only at r2;split at r2
  .rename_i C' fs hM;obtain⟨hC,hl,r2⟩:=r2;subst hC;obtain⟨_,dx,vs,h3,h4⟩:=m2.cell p _ hM;have ay:a2!=aR_:=OL h4;exact⟨p,_,dx,vs,rfl,h3,c,n,p_,k1 ρ _ G2 Z _ r2 ((zH!).grow (.write m2 x2.sub hM) (m2.write hM ⟨dx,_,bI,c0t bx_ h4⟩))⟩
  .exact r2.elim⟩⟩
def Jz(M:Mh)(d y v:D):Option Mh:=match d with
 |.fn p=>match M p with
  |some (.dct h1 ep)=>if(gH!).isSome&&decide (ak!<big)then some e5_ else none
  |some (.lst xs)=>match y with
   |.int j=>(Kb xs.length j).map λk=>mup M p (.lst (xs.set k v))
   |_=>none
  |_=>none
 |_=>none
def BX(P:xc!)(w:wZ!)(KF:zM!):V->V->V->Hp->kO_->Prop:=λo i v H Q=>∃(M:Mh) (G:Hp) (a:qT!) (h1:r!) (ep:Nat) (d x:D) (k:MK),o=.ref a/\At G H/\MR P w KF M G H/\M a=some gE!/\Ao KF G d i/\Cg d=some k/\Ao KF G x v/\ak!<big/\
 ∀bh,Fv P w KF G jr_ a yR_->Q jr_
def b8k(hu:ah_):Vg X (BX X.prog X.w X.K):=by intro J s Z H o i v ov iv u Q I ro ri rv h;obtain⟨M,G,a,h1,ep,d,x,k,rfl,sub,m,e,r,hk,rx,hl,q⟩:=h;subst ro;exact a4x a! I m sub e ⟨_,r,ri⟩ hk ⟨_,rx,rv⟩ hl λbh s' I' c'=>⟨_,I',q bh c'⟩
def b8u(h:Vg X r)(h':Vg X r'):Vg X (λo i v H Q=>r o i v H Q\/r' o i v H Q):=by
 intro J s Z H o i v ov iv u Q I ro ri rv q;obtain q|q:=q
 .exact h J s Z H o i v ov iv u Q I ro ri rv q
 .exact h' J s Z H o i v ov iv u Q I ro ri rv q
def Bq(fo fi f:WE):WS:=λρ M R=>f ρ M λv M1=>fo ρ M1 λd M2=>fi ρ M2 λy M3=>Ed os_ λM4=>R Z_ M4
def dP(hu:ah_)(ho:cn_)(hi:ME X own i fi)(h:bc_)
  (ha:∀v,assign zI_ X.env v=(do
   let ov <-holding [v] d7_
   let iv <-holding [v,ov] qK!
   standAt p2
   holding hk_ qJ_
   release hk_ []):=by intro _;rfl)
  (hs:swapsWithSole jG_ e pos.line X.env=pure false:=by rfl) (hw:swappedStores jG_ e X.env=pure none:=by rfl)
  (Y:(assignEach jG_ X.env).map S_=[assign zI_ X.env]:=by rfl):MS X own own (.Assign jG_ e pos) zJ_:=
 nA (c3m h.ok (c3p ho.ok hi.ok (b8u b1m (b8k hu)) ha) hs hw Y) λM0 G0 F0 E Z G H ρ M R sr e k1 k2=>⟨G,ρ,M,_,sr.st,e,λv M1 vv G1 H1 r1 x1 m1 q1=>⟨G1,ρ,M1,_,sr.st.grow x1 m1,r1,λd M2 dv G2 H2 r2 x2 m2 q2=>
  ⟨G2,ρ,M2,_,(sr.st.grow x1 m1).grow x2 m2,r2,λy M3 yv G3 H3 r3 x3 m3 q3=>by
   obtain⟨M4,e4,r4⟩:=cW r3;have vc:=(zH!).grow x3 m3;have qd:=q2.mono x3.g;have qv:=(bx_).mono x3.g;unfold Jz at e4;split at e4
   .rename_i p;obtain rfl:=fJ qd;split at e4
    .rename_i h1 ep hM;split at e4
     .rename_i hc;rw[JD,IZ]at hc;rcases e4;obtain⟨kk,hk⟩:=QH.mp hc.1;exact .inr ⟨M3,G3,p,h1,ep,y,v,kk,rfl,x3.sub,m3,hM,q3,hk,qv,hc.2,λbh c'=>k1 ρ _ G3 Z _ r4 (vc.grow zK_ (m3.write hM c'))⟩
     .rcases e4
    .rename_i xs hM;split at e4
     .rename_i j;obtain rfl:=aU q3;obtain⟨n,e5,rfl⟩:=IA.mp e4;obtain⟨_,vs,h3,h4⟩:=m3.cell p _ hM;exact .inl ⟨p,vs,j,n,rfl,rfl,h3,by rw[<-aG h4];exact e5,k1 ρ _ G3 Z _ r4 (vc.grow zK_ (m3.write hM ⟨_,bI,a0g qv n h4⟩))⟩
     .rcases e4
    .rcases e4
   .rcases e4⟩⟩⟩
def Tx(i:Nat)(f:WE):WS:=λρ M R=>match ρ[i]? with
 |some (some (.int a))=>f ρ M λd M1=>(match d with|.int b=>R (.nx (ρ.set i (some (.int (a+b))))) M1|_=>False)
 |_=>False
def c4j(hN:a3!)(hi:ac_)(hx:a3_)(h:bc_)(b8:aM!:=by decide)
  (hf:X.fn x=true\/X.env.scope.names.lookup x=some .local:=by first|exact .inl rfl|exact .inr rfl|assumption):MS X own own (.AugAssign eJ_ .Add e pos) (Tx i f):=
 nA (c3l hN hi hx h.ok c4y hf) λM0 G0 F0 E Z G H ρ M R sr e k1 k2=>by
  unfold Tx at e;show"!8"
  .rename_i a XH;obtain⟨v,Y,h2⟩:=sr.st.or.at_ i _ XH b8;obtain rfl:=aU h2;refine⟨_,Y,G,ρ,M,_,sr.st,e,zM_⟩;cases d<;>first|exact r.elim|skip
   obtain rfl:=aU q;exact⟨a,_,rfl,rfl,k1 _ M' G' _ H' r ((os!).set b8 Ao.int)⟩
  .exact e.elim
def Fe(ft:WT)(q:WS):Nat->WS
 |0=>λ_ _ _=>False
 |n+1=>λρ M R=>ft ρ M λb M1=>if b then q ρ M1 (λr M2=>match r with|.nx cf=>Fe ft q n cf M2 R|.rt d=>R ae_ M2)else R Z_ M1
def Jb(ft:WT)(q:WS):WS:=λρ M R=>∃n,Fe ft q n ρ M R
def mZ(hp:hm!)(hc:jo!)(hb:zO_):MS X own own qS! (Jb ft q1):=⟨by
 rintro M0 G0 F0 J s Z H E I ⟨G,ρ,M,R,sr,⟨n,e⟩,k1,k2⟩;refine b2k hp hc.ok (hb.ok M0 G0 F0) J s Z H E I ⟨λm ae H'=>∃G' aj M',Hf X.prog X.w X.K own M0 G0 F0 M' G' H' ae aj/\Fe ft q1 m aj M' R,⟨n,G,ρ,M,sr,e⟩,?_⟩;rintro m ae H' ⟨G',aj,M',dh,e'⟩;cases m with
 |zero=>exact e'.elim
 |succ m=>
  refine⟨G',aj,M',_,dh.st,e',λb M1 G1 H1 r1 x1 m1=>?_⟩;cases b with
  |true=>exact jR ⟨λeg H2=>∃G2 cf M2,Hf X.prog X.w X.K own M0 G0 F0 M2 G2 H2 eg cf/\Fe ft q1 m cf M2 R,λeg H2 h=>⟨m,PH m,h⟩,G1,aj,M1,_,dh.grow x1 m1,r1,λcf M2 G2 eg H2 r2 xc=>⟨G2,cf,M2,xc,r2⟩,λd M2 v G2 H2 r2 x2 m2 q2=>k2 d M2 v G2 H2 r2 x2 m2 q2⟩
  |false=>exact jS (k1 aj M1 G1 ae H1 r1 (dh.grow x1 m1))⟩
end
def ED(P:xc!)(w:wZ!)(KF:zM!)(af:It)(ds:d!)(ck:bB!)(G1:Hp):Prop:=∀(i:Nat) (M':Mh) (G' H':Hp),At G1 G'->At G' H'->MR P w KF M' G' H'->ck M'->
 v0!/\v0_
abbrev WI:=Ae->Mh->(List D->(Mh->Prop)->Mh->Prop)->Prop
inductive GB(P:xc!)(w:wZ!)(KF:zM!)(own:n!)(fi:WI)(Z:St)(H:Hp)(R:ho_):Prop
 |mk (G:Hp) (ρ:Ae) (M:Mh) (T:List D->(Mh->Prop)->Mh->Prop) (st:gA!) (e:fi ρ M T) (k:∀ds ck M1 af G1 H1,T ds ck M1->XM M G H M1 G1 H1->MR P w KF M1 G1 H1->ED P w KF af ds ck G1->R af H1):GB P w KF own fi Z H R
structure MI(X:Cx)(own:n!)(tg iter:Expr)(fi:WI):Prop where
 ok:PI X tg iter (GB X.prog X.w X.K own fi)
section
variable{X:Cx}{own ba g8:List Nat}{st:Stmt}{rest body:List Stmt}{e a b c tg o:Expr}{es:List Expr}{pos p2:Pos}{f fa fb fc fo:WE}{fs:WA}{fi:WI}{ft fu:WT}{q1 q2 q3:WS}{di:Ae->Option (List D)}
def c2e(h:v1_)(hw:∀Z G H R ρ M T,Qq X.prog X.w X.K own G H Z ρ M->fi ρ M T->(∀ds ck M1 af G1 H1,T ds ck M1->XM M G H M1 G1 H1->MR X.prog X.w X.K M1 G1 H1->ED X.prog X.w X.K af ds ck G1->R af H1)->wi Z H R):MI X own tg e fi:=
 ⟨by rintro J s Z H R I ⟨G,ρ,M,T,st,e,k⟩;exact h J s Z H R I (hw Z G H R ρ M T st e k)⟩
def Gh(di:aV!):WI:=λρ M T=>Ed (di ρ) λds=>T ds W! M
def Ys.m{KF:zM!}(h:v9!):ED P w KF af ds W! G1:=λi M' G' H' s1 s2 _ _=>h i G' H' s1 s2
def kE(h:DI X own tg e di):MI X own tg e (Gh di):=c2e h.ok λZ G H R ρ M T st e k=>by
 obtain⟨ds,e1,e2⟩:=cW e;exact⟨G,ρ,ds,st.or,e1,λaf G1 H1 x gn=>k ds _ M af G1 H1 e2 n5_ n5! gn.m⟩
def Bo(f:WE):WI:=λρ M T=>f ρ M λd M1=>match d with
 |.lst xs=>T xs W! M1
 |.fn p=>(match M1 p with|some (.lst xs)=>T xs (λM=>M p=some H!) M1|_=>False)
 |_=>False
def dR(h:ap_):MI X own tg a (Bo fa):=c2e (a6f h.ok) λZ G H R ρ M T st e k=>⟨G,ρ,M,_,st,e,λd M1 v G1 H1 r1 x1 m1 q1=>by
 cases d<;>first|exact r1.elim|skip
 .obtain⟨p,vs,rfl,q,rr⟩:=bJ q1;exact⟨p,rfl,⟨vs,x1.sub.seq q⟩,k _ _ M1 _ G1 H1 r1 x1 m1 (a1m q rr).m⟩
 .rename_i p;obtain rfl:=fJ q1;dsimp only at r1;split at r1
  .rename_i xs hM;obtain⟨_,vs,Y,h2⟩:=m1.cell p _ hM;refine⟨p,rfl,⟨vs,Eh.of Y⟩,k _ _ M1 _ G1 H1 r1 x1 m1 λi M' G' H' s1 s2 m' ck=>?_⟩;obtain⟨_,f8,h3,h4⟩:=m'.cell p _ ck;have q':Eh X.K H' p f8:=Eh.of h3;refine⟨dE_,λhi=>⟨f8,q',by rw[<-aG h4,hi];exact IH _⟩⟩;obtain⟨v,g1,g2⟩:=gA h4 hd;refine⟨⟨f8,v,q',g1⟩,iH!⟩;obtain⟨e1,e2⟩:=hy;subst e1;have:=e2 f8 q';rw[g1]at this;rcases this;exact⟨G',iH_,g2⟩
  .exact r1.elim⟩
def Gf(bnd:cf_)(ck:bB!)(q:WS):List D->WS
 |[]=>λρ M R=>ck M/\R Z_ M
 |d::ds=>λρ M R=>ck M/\Ed mZ_ λau=>q au M λr M1=>match r with|.nx cf=>Gf bnd ck q ds cf M1 R|.rt d=>R ae_ M1
def Bw(fi:WI)(bnd:cf_)(q:WS):WS:=λρ M R=>fi ρ M λds ck M1=>Gf bnd ck q ds ρ M1 R
def FV(KF:zM!)(own:n!)(g:TG)(bnd:cf_):Prop:=∀{P:xc!} {w:wZ!} {x:V} {d:D} {Z:St} {M0 M:Mh} {G0 F0 G H:Hp} {ρ au:Ae} {Q:hk!},Hf P w KF own M0 G0 F0 M G H Z ρ->Ao KF G d x->bnd d ρ=some au->(∀bj,Hf P w KF own M0 G0 F0 M G H bj au->Q bj H)->g x Z H Q
def cL{KF:zM!}(i:Nat)(hi:aM!:=by decide):FV KF own d7! (Bz i):=by intro P w x d Z M0 M G0 F0 G H ρ au Q sr r e k;rcases e;exact k _ (sr.set hi r)
def Ui(i j:Nat):D->Ae->Option Ae:=λd ρ=>match d with|.tup [x,y]=>some ((ρ.set i fv!).set j (some y))|_=>none
def b5o{KF:zM!}(i j:Nat)(hi:aM!:=by decide)(hj:j∉own:=by decide):FV KF own v7_ (Ui i j):=by
 intro P w x d Z M0 M G0 F0 G H ρ au Q sr r e k;unfold Ui at e;show"!8"
 .rcases e;show"!Y";show"!3";exact⟨p,[v1,v2],rfl,bK sr.st.or.sub q,rfl,v1,[v2],rfl,v2,[],rfl,rfl,k _ ((sr.set hi r1).set hj r2)⟩
 .rcases e
def Hf.base{KF:zM!}{M0 M1:Mh}(s:ou_):Hf P w KF own M1 G1 gK_ M1 G1 H1 Z ρ:=
 ⟨s.st,⟨At.refl _,s.st.or.sub,cV!,λb o e _=>s.sr.ext.h b o e,cV!,λb h=>h⟩,λi hi p e=>s.sr.fr i hi p e⟩
def Hf.unx{KF:zM!}{M0 M1 M':Mh}(s:ou_)(y:XM M1 G1 gK_ M' G' H'):XM M0 G0 F0 M' G' H':=by
 refine⟨s.x.g.trans y.g,y.sub,bm_,zA_,bm_,λb h=>y.cells b (s.x.cells b h)⟩
 .obtain z|z:=y.new b h
  .exact s.x.new b z
  .exact op_
 .refine y.keep b o ?_ ?_
  .unfold Ep;rw[zB!];exact s.x.keep b o e hb
  .cases q:M1 b with
   |none=>rfl
   |some c=>
    rcases s.x.dom b ca_ with z|z
    .exact absurd hb z
    .rw[e]at z;rcases z
 .obtain z|z:=y.dom b h
  .exact s.x.dom b z
  .exact op_
def Hf.unbase{KF:zM!}{M0 M1 M':Mh}(s:ou_)(s':Hf P w KF ba M1 G1 gK_ M' G' H' ae aj):Hf P w KF ba M0 G0 F0 M' G' H' ae aj:=
 ⟨s'.st,s.unx s'.x,λi hi p e=>s.noF (s'.fr i hi p e)⟩
def dQ(hp:hm!)(hc:aq_)(ar:ov!)(hg:kQ!)(nj:FV X.K own g bnd)(hb:zO_)
  (hs:da!:=by intro _;rfl):MS X own own rf! (Bw fi bnd q1):=⟨by
 rintro M0 G0 F0 J s Z H E I ⟨G,ρ,M,R,sr,e,k1,k2⟩;have fq:Nf X body (λE Z H=>∃A B C,BD X.prog X.w X.K A B C own own q1 E Z H):=by rintro J s Z H E I ⟨A,B,C,h⟩;exact hb.ok A B C J s Z H E I h
 refine c3j hp hc ar.ok hg fq hs J s Z H E I ⟨G,ρ,M,_,sr.st,e,λds ck M1 af G1 H1 r1 x1 m1 gn=>?_⟩;have xg:=sr.grow x1 m1;refine⟨λn m ae H'=>n<=g_/\m=g_ - n/\∃G' aj M',Hf X.prog X.w X.K own M1 G1 gK_ M' G' H' ae aj/\Gf bnd ck q1 (ds.drop n) aj M' R,
  ⟨g_,JJ _,rfl,G1,ρ,M1,xg.base,r1⟩,?_⟩
 rintro n m ae H' ⟨hn,rfl,G',aj,M',dh,e3⟩;have c6:ck M':=by
  cases hd:ds.drop n with
  |nil=>rw[hd]at e3;exact e3.1
  |cons _ _=>rw[hd]at e3;exact e3.1
 obtain⟨r9,se⟩:=gn n M' G' H' dh.x.g dh.st.or.sub dh.st.mr c6;by_cases bd:n<g_
 .right;have hd:ds[n]?=some ds[n]:=by simp[bd]
  rw[OG bd]at e3;obtain⟨_,e3⟩:=e3;obtain⟨au,e4,e3⟩:=cW e3;obtain⟨go,yl⟩:=r9 _ hd;refine⟨go,λeg H2=>∃G2 cf M2,Hf X.prog X.w X.K own M1 G1 gK_ M2 G2 H2 eg cf/\Gf bnd ck q1 (ds.drop eO_) cf M2 R,by rintro eg H2 ⟨G2,cf,M2,Y,h3⟩;exact⟨g_ - eO_,p_,bd,rfl,G2,cf,M2,Y,h3⟩,wa!⟩;obtain⟨G2,x2,r2⟩:=yl v H2 hy;have xc:=dh.grow jz_ (dh.st.mr.ext x2);exact nj xc r2 e4 λgu vc=>⟨M1,G1,Ep own Z H1,G2,au,M',_,vc,e3,λXI M4 G4 σ4 H4 r4 XJ=>⟨G4,XI,M4,XJ,r4⟩,λd M4 v G4 H4 r4 x4 m4 q4=>k2 d M4 v G4 H4 r4 (xg.unx x4) m4 q4⟩
 .left;have lj:n=g_:=by omega
  refine zU!;rw[lj,SD]at e3;exact k1 aj M' G' ae H' e3.2 (xg.unbase dh)⟩
def On(bnd:cf_)(ck:bB!)(ft:WT)(fe:WE)(ρ:Ae):List D->Mh->yA_->Prop
 |[],M,R=>ck M/\R [] M
 |d::ds,M,R=>ck M/\Ed mZ_ λau=>ft au M λb M1=>if b then fe au M1 λy M2=>On bnd ck ft fe ρ ds M2 λys M3=>R (y::ys) M3 else On bnd ck ft fe ρ ds M1 R
def Bb(nl:Nat)(ix:n!)(fi:WI)(bnd:cf_)(ft:WT)(fe:WE):WE:=λρ M R=>fi ρ M λds ck M1=>g_<=big/\On bnd ck ft fe mz_ ds M1 λys M2=>R bi_ M2
def a8d{KF:zM!}{M1:Mh}{Fin:ct!}
  (hb:g_<=big)(gn:ED P w KF af ds ck G1)(hg:GD KF g bnd)(er:Qq P w KF [] G1 H1 wu na M1)(e:On bnd ck ft fe na ds M1 R)(k:∀jl ys M' G' H',R jl M'->XM M1 G1 H1 M' G' H'->MR P w KF M' G' H'->Ak KF G' jl ys->jl.length<=g_->Fin ys H'):
  Ul af g (Yw P w KF [] ft) (BK P w KF [] fe) Fin wu H1:=by
 refine⟨λi m ys ae H'=>i<=g_/\m=g_ - i/\∃G' M' ws,XM M1 G1 H1 M' G' H'/\Qq P w KF [] G' H' ae na M'/\Ak KF G' ws ys/\lL!<=i/\On bnd ck ft fe na (ds.drop i) M' λr M2=>R (ws++r) M2,
  ⟨g_,JJ _,rfl,G1,M1,[],.refl er.or.sub,er,Ak.nil,JJ _,e⟩,?_⟩
 rintro i m ys ae H' ⟨hi,rfl,G',M',ws,x,fg,az,hw,e2⟩;refine v9_;have c6:ck M':=by
  cases hd:ds.drop i with
  |nil=>rw[hd]at e2;exact e2.1
  |cons _ _=>rw[hd]at e2;exact e2.1
 obtain⟨r9,se⟩:=gn i M' G' H' x.g fg.or.sub fg.mr c6;by_cases bd:i<g_
 .right;have hd:ds[i]?=some ds[i]:=by simp[bd]
  rw[OG bd]at e2;obtain⟨_,e2⟩:=e2;obtain⟨au,e1,e2⟩:=cW e2;obtain⟨go,yl⟩:=r9 _ hd;refine wa_;obtain⟨G2,x2,r2⟩:=yl v H2 hy;have cy:=fg.grow jz_ (fg.mr.ext x2);have XO:=x.trans jz_ fg.mr;refine hg cy.or r2 e1 λbj m9 sf=>⟨G2,au,M',_,zV!,e2,λb M3 G3 H3 r3 x3 m3=>?_⟩;have nh:=(show Qq P w KF [] G2 H2 bj au M' from zV!).grow x3 m3;have li:=XO.trans x3 cy.mr;cases b with
  |true=>
   refine jR ⟨G3,au,M3,_,nh,r3,λy M4 u G4 H4 r4 x4 m4 q4=>⟨g_ - ag!,p_,bd,rfl,G4,M4,ws++[y],li.trans x4 m3,⟨(nh.grow x4 m4).or.le sf,m4,ao!⟩,?_,?_,?_⟩⟩
   .exact cG wc_ (Ak.cons q4 Ak.nil)
   .rw[IR,LO];omega
   .have e5:(λr M2=>R (ws++[y]++r) M2)=λr M2=>R (ws++y::r) M2:=by
     funext r M2;rw[KH];rfl
    rw[e5];exact r4
  |false=>
   exact jS ⟨g_ - ag!,p_,bd,rfl,G3,M3,ws,li,⟨nh.or.le sf,m3,ao!⟩,wd_,p_,r3⟩
 .left;have lj:i=g_:=by omega
  refine zU!;rw[lj,SD]at e2;have this:R (ws++[]) M':=e2.2;rw[JC]at this;exact k ws ys M' G' H' this x fg.mr az a!
def fX
  (cj:cJ!)(cg:cJ_)(j4:∀y∈bN!,y.2=.local->scope.names.lookup y.1=some .local)
  (gr:fZ!)(cap:cI_)(sh:iq_)(calm:aq_)(ar:ov!)
  (hg:fZ_)(nj:m2_)(hi:zW_)(he:zX!)
  (hs:da!:=by intro _;rfl):
  ME X own fX! zX_:=
 eF we_ λZ G H Q ρ M R st e k=>⟨G,ρ,M,_,st,e,λds ck M1 af G1 H1 r1 x1 m1 gn=>by
  obtain⟨hb,r1⟩:=r1;have pe:=st.grow x1 m1;refine a8d hb gn nj zY! r1 λjl ys M' G' H' r x m q _ p hp=>?_;exact k _ M' _ _ _ r ((x1.trans x m1).trans (.ext gd!) m) (m.ext gd!) (cP m3! q)⟩
def a1c:Oq X [] (Yw X.prog X.w X.K [] λρ M R=>R true M):=by rintro J s Z H Q I ⟨G,ρ,M,R,st,e,k⟩;exact a0m J s Z H Q I (k true M G H e jl! st.mr)
def kD(h:MT X [] c ft):Oq X [c] zW!:=b2p h.ok
abbrev WF:=List D->Mh->n3!->Prop
def Zz(P:xc!)(w:wZ!)(KF:zM!)(n:Nat)(g:WF):Sp:=λvs H Q _=>aR_=n/\∃G ds M R,At G H/\MR P w KF M G H/\Ak KF G ds vs/\g ds M R/\∀d M' v G' H',R d M'->XM M G H M' G' H'->MR P w KF M' G' H'->Ao KF G' d v->Q v H'
def Hl(P:xc!)(w:wZ!)(KF:zM!)(mg:L_)(base:Heap)(k:Nat)(x:Str)(ps:E_)(g:WF):Prop:=
 ∃ag fd,Eb P w KF mg base Ng k ag fd ps ov_/\Do KF fd ps []/\mg x=some aW!/\W.keepIn KF aW!=true
nonrec def gl(g:bP_):WF:=λds M R=>Ed (g ds) λd=>R d M
def Ag(n:Nat)(g:WF)(fs:WA):WE:=λρ M R=>fs ρ M λds M1=>g_=n/\g ds M1 R
def aK(F:Hl X.prog X.w X.K X.mg X.base k x ps g)(hr:aL!)(hg:G_)(ha:dP_)
  (a8:y_:=by decide)(he:Y!:=by rfl)(a7:au!:=by rfl):
  ME X own aT! (Ag ps.length g fs):=by
 show"#!";refine eF (wR Y hr hg h3 h4 h2 .nil pQ ha.ok a8 he a7) λZ G H Q ρ M R st e' k=>⟨G,ρ,M,_,st,e',z0!⟩;rw[JC];exact⟨z0_,G1,ds,M1,R,x1.sub,m1,q1,r1.2,n7!⟩
def Dl(P:xc!)(w:wZ!)(KF:zM!)(mg:L_)(base:Heap)(k:Nat)(C:qT!)(m:Str)(ps:E_)(g:WF):Prop:=
 Sf KF C/\∃ag fd,Vk KF C m ag/\Eb P w KF mg base Ng k ag fd ps ov_/\Do KF fd ps []
def Db(C:qT!)(m:Str)(M:Mh)(d:D):Prop:=match d with
 |.fn p=>(match M p with|some (.obj C' fs)=>C'=C/\fs.lookup m=none|_=>False)
 |_=>False
protected def sL{KF:zM!}(mr:bT_)(r:cc_)(h:jH!):∃p dx vs,d=.fn p/\v=.ref p/\H p=some yv!/\vs.lookup m=none:=by
 unfold Db at h;split at h
 .show"#7";split at h
  .rename_i C' fs hM;obtain⟨rfl,hl⟩:=h;obtain⟨_,dx,vs,Y,h2⟩:=mr.cell p _ hM;exact⟨p,dx,vs,rfl,rfl,Y,b5r h2 hl⟩
  .exact h.elim
 .exact h.elim
def Ay(C:qT!)(m:Str)(n:Nat)(g:WF)(fo:WE)(fs:WA):WE:=λρ M R=>fo ρ M λd M1=>Db C m M1 d/\fs ρ M1 λds M2=>g_+1=n/\g dy! M2 R
def cJ(F:ow!)(hr:aL!)(ho:cn_)(ha:dP_)
  (bc:Y!:=by rfl)(a7:au!:=by rfl)
  (ht:eval en! X.env=(do
   let ov <-eval o X.env
   standAt ei_
   let(f,first) <-holding [ov] ej!
   callWith pos f first lz! di!):=by rfl):ME X own en! z1!:=by
 show"!~";refine eF (a6i ho.ok cl Y h2 hr h3 .nil pQ ha.ok bc a7 ht) λZ G H Q ρ M R st e' k=>z1_;show"!:";refine⟨p,dx,vs,rfl,hH,hl,G1,ρ,M1,_,jn!,r1,z2!⟩;rw[JC];exact z3!
def a1e(F:ow!)(hr:aL!)(ho:cn_)
  (ht:eval hL_ X.env=(do
   let ov <-eval o X.env
   standAt ei_
   let(f,first) <-holding [ov] ej!
   callWith pos f first lA! di!):=by rfl):ME X own hL_ (Ay C m ps.length g fo Ac):=by
 show"!~";refine eF (b2x ho.ok cl Y h2 hr h3 .nil pQ ht) λZ G H Q ρ M R st e' k=>z1_;show"!:";refine⟨p,dx,vs,rfl,hH,hl,?_⟩;have r2:=r1;exact⟨r2.1,G1,[.fn p],M1,R,x1.sub,m1,Ak.cons Ao.fn Ak.nil,r2.2,λd M3 v G3 H3 r3 x3 m3 q3=>k d M3 v G3 H3 r3 (x1.trans x3 m1) m3 q3⟩
def Vj(P:xc!)(w:wZ!)(KF:zM!)(mg:L_)(base:Heap)(k:Nat)(x:Str)(C:qT!)(ps:E_)(g:WF):Prop:=
 mg x=some P!/\∃ag fd,Mk KF C ag/\Eb P w KF mg base Ng k ag fd ps ov_/\Do KF fd ps []
def Dy(C:qT!)(n:Nat)(g:WF)(fs:WA):WE:=λρ M R=>fs ρ M λds M1=>g_+1=n/\∀p,M1 p=none->g (.fn p::ds) (mup M1 p (.obj C [])) λd M2=>d=.non/\R x! M2
def b4m{KF:zM!}{M1:Mh}(sub:At G1 H1)(m1:yw_)(hx:H1 x=none)(jq:H1 dx=none)(ne:dx≠x):
  XM M1 G1 H1 z4! G1 lx!/\MR P w KF z4! G1 lx!:=by
 have old:∀b o,H1 b=some o->upd sl! x lw_ b=some o:=λb o e=>by rw[aS (bY e hx),aS (bY e jq)];exact e
 refine⟨⟨At.refl G1,λb o e=>old b o (sub b o e),cV!,λb o e _=>old b o e,bm_,bm_⟩,⟨λb q e=>?_⟩⟩
 .by_cases hb:b=x
  .subst hb;exact .inr hx
  .rw[cl_]at h;exact .inl h
 .by_cases hb:b=x
  .subst hb;rw[mup_same];simp
  .rw[cl_];exact h
 .by_cases hb:b=x
  .show"!w";exact⟨sub.free hx,dx,[],bI,.nil⟩
  .rw[cl_]at e;obtain⟨Y,h2⟩:=m1.cell b q e;refine⟨Y,h2.mono (At.refl G1) ?_⟩;cases hq:H1 b with
   |none=>exact absurd hq h2.has
   |some o=>exact old b o hq
def xS(F:z4_)(hr:fJ_)(hg:G_)(ha:dP_)
  (a8:y_:=by decide)(he:Y!:=by rfl)(a7:au!:=by rfl):ME X own aT! (Dy C ps.length g fs):=by
 obtain⟨hm,ag,fd,Y,h2,h3⟩:=F;refine eF (b9f Y h2 hr hg hm h3 .nil pQ ha.ok a8 he a7) λZ G H Q ρ M R st e' k=>⟨G,ρ,M,_,st,e',λds M1 vs G1 H1 r1 x1 m1 q1=>λy dx hy jq ne=>?_⟩;obtain⟨z1,z2⟩:=b4m x1.sub m1 hy jq ne;rw[JC];exact⟨by rw[IW,<-aG q1];exact r1.1,G1,.fn y::ds,_,_,z1.sub,z2,Ak.cons Ao.fn q1,r1.2 y (m1.nocell hy),λd M2 v G2 H2 r2 x2 m2 q2=>by
  obtain⟨rfl,r2⟩:=r2;exact⟨eV q2,k _ M2 _ G2 H2 r2 ((x1.trans z1 m1).trans x2 z2) m2 Ao.fn⟩⟩
def kG(F:z4_)(hr:fJ_)(hg:G_)
  (a8:y_:=by decide):ME X own st! (Dy C ps.length g Ac):=by
 obtain⟨hm,ag,fd,Y,h2,h3⟩:=F;refine eF (b2y Y h2 hr hg hm h3 .nil pQ a8) λZ G H Q ρ M R st e' k=>λy dx hy jq ne=>?_;obtain⟨z1,z2⟩:=b4m st.or.sub st.mr hy jq ne;have r1:=e';exact⟨r1.1,G,[.fn y],_,_,z1.sub,z2,Ak.cons Ao.fn Ak.nil,r1.2 y (st.mr.nocell hy),λd M2 v G2 H2 r2 x2 m2 q2=>by
  obtain⟨rfl,r2⟩:=r2;exact⟨eV q2,k _ M2 _ G2 H2 r2 (z1.trans x2 z2) m2 Ao.fn⟩⟩
def Bd(N:E_)(n:Nat)(q:WS):WF:=λds M R=>g_=n/\q cP! M λr M'=>match r with|.rt d=>R d M'|.nx _=>R .non M'
end
def qI{KF:zM!}{st:Stmt}
  (F:wt_)(S:cI!)
  (hb:∀(ah:wY!) (A:wX!) (outer:af!) (s:xR!) (H:Hp) (E:XK),Ai k nb_->Rz (nc!).nox [] ce a8! q):
  Eb P w KF mg base Ng J_ ag fd ps (Zz P w KF ps.length jH_):=by
 refine wv_;obtain⟨hl,G,ds,M,R,sub,m,r,e,kk⟩:=h;refine⟨_,(ww!).ok M G H,?_⟩;have er:=qT (N:=N) sub r;exact z5!
section
variable{P:xc!}{w:wZ!}{A:wX!}{E:Value->Shared->Prop}{s:xR!}{d it:qT!}{es:List DictEntry}{ep i:Nat}
def Ms.at(D:z5_)(e:∀o,h.get? d=some o->h'.get? d=some o):Ms h' d es ep:=by obtain⟨o,ho,r⟩:=D;exact⟨o,e o ho,r⟩
def b5e(hd:z6!)(D:ox_)
  (h:Q a4_ {s with heap:=s.heap.push {cls:=.type "dict_keyiterator",data:=.fields #[.ref d,.int 0 0,.int es.length 0,.int ep 0]}}):wpAny B_ A (pyIter (.ref d)) Q E s:=by
 have hT:=D.typeIs;obtain⟨o,ho,hc,SZ⟩:=id D;refine wpAny_pyIter_slot hT PySem.F.slot_dict_iter (JR PySem.F.slot_dict_iter hT PySem.F.entry_dict_iter ?_ (PySem.F.args_dict_iter_1 _));unfold Builtin.«dict.__iter__» Builtin.Dict.dictSlotNone;refine HP yY!;show wpAny B_ A.in1 (Builtin.Dict.showsAll d>>=_) _ _ s;unfold Builtin.Dict.showsAll;rw[IF (by rw[hd];exact JB)];refine HP (HS (HP (OJ ho SZ (HP (MV ho SZ (HP (KS (HS ⟨_,rfl,"dict_keyiterator",_,iX_,LC.lookup,?_⟩))))))));simpa[rawInt]using h
def a0x(ar:z6_)(D:ox_)(hx:x4!)
  (h:∀h',h'.IsKeyIter it d ag! es.length ep->Heap.SameBut it s.heap h'->Q (some e.key) {s with heap:=h'}):wpAny B_ A ho! Q E s:=by
 show"!Z";obtain⟨bd,iz⟩:=IS.mp hx;unfold pyNext;refine HP z8!;refine HP z8_
 first|refine HP (NK hT jJ!)|refine HP (OY hT jJ!)
 show"!<";refine HP Ab_;rw[bj!];refine HS ?_;simp only[Ac!,KC,NZ,NT,hx];refine HP ?_
 first|refine HP (NK hT Ac_)|refine HP (OY hT Ac_)
 show wpAny B_ A.in1 (setField bZ! 1 Ad!>>=_) _ _ s;have i':(s.heap.update it (Obj.mapFields (·.setIfInBounds 1 Ad!))).IsKeyIter it d ag! es.length ep:=
  ⟨_,LF _ ho (NC (LX hd _)),(w1!).trans hc,by rw[LX hd];simp[rawInt]⟩
 refine HP (OT ho hd c! (HP (JS (HP (RH i'.typeIs ?_)))));exact HS (HS ⟨_,rfl,HS (h _ i' eP_)⟩)
def a7x(hh:bh!)(ar:z6_)(D:ox_)(hx:aa!<=i)
  (h:Ae_):wpAny B_ A ho! Q E s:=by
 show"!Z";unfold pyNext;refine HP z8!;refine HP z8_
 first|refine HP (NK hT jJ!)|refine HP (OY hT jJ!)
 show"!<";refine HP Ab_;rw[bj!];refine HS ?_;simp only[Ac!,KC,NZ,NT,JU hx];refine HP ?_
 first|refine HP (NK hT Q!)|refine HP (OY hT Q!)
 show wpAny B_ A.in1 (setField bZ! 0 .none>>=_) _ _ s;refine HP (OT ho hd c! ?_);refine HP ?_;dsimp only[newExc,newTuple];refine HP (KS (HP (wpAny_of_eq w3_ (KS ?_ gl!))) gl!);dsimp only[raiseNew];refine HP w4_;rw[w5!];refine HP w6!;refine HP (wpAny_isInstance (show Shared.TypeIs _ _ _ from iX_) isSubtype_stop ?_);exact HS (h _ w7!)
def a8j(hh:bh!)(I d:qT!)(a9:d≠I)(es:cj_)(ep:Nat):Walks P w A I [I,d] [I] es.length oz! (λi h=>h.IsKeyIter I d i es.length ep/\Ms h d es ep) where
 sub:=λb hb=>by simp at hb;simp[hb]
 frame:=λ_ _ _ st hk=>⟨st.1.at λo e=>hk I c! o e,st.2.at λo e=>hk d c! o e⟩
 item:=λi s Q E hi st hQ=>by
  refine a0x st.1 st.2 (IE hi) λh' i' db=>?_;exact hQ _ h' s.toks ⟨_,e8!,rfl⟩ ⟨i',st.2.at λo e=>(db.2 d a9).trans e⟩ λb o hb e=>(db.2 b fx!).trans e
 done:=λs Q E st hQ=>a7x hh st.1 st.2 p! λh' iw=>hQ h' s.toks λb o hb e=>iw b o fx! e
 self:=λ_ _ _ _ st hQ=>wpAny_pyIter_keyiter st.1 hQ
def c5q(D:z5_)(D':Ms h d bh bp):es=bh/\ep=bp:=by
 obtain⟨o,Y,_,h2⟩:=D;obtain⟨o',h3,_,h4⟩:=D';rw[Y]at h3;rcases h3;rw[h2]at h4;injection h4 with h5 h6
 exact⟨by simpa using congrArg Array.toList h5,h6⟩
def GV(d:qT!)(ep n:Nat):It:=⟨λi H=>∃es e x,H d=some cX!/\aa!=n/\es[i]?=some e/\Be x e.key,λi H x H'=>H'=H/\∀es,H d=some cX!->∃e,es[i]?=some e/\Be x e.key,λi H=>∃es,H d=some cX!/\aa!=n/\n<=i⟩
def zC(hok:aP_)(e:H d=some cX!):Ms h d es ep:=by obtain⟨⟨h3,_⟩,_⟩:=(show Dg P w H h d cX! from hok d _ e);exact h3
def b1e{KF:zM!}(d it:qT!):Pf P w KF tg (GV d ep n) [it] it (λi h=>h.IsKeyIter it d i n ep) where
 mem:=by simp
 obj:=λi h st b hb=>by
  have e:b=it:=by simpa using hb
  subst e;show"!t"
 keep:=λi h h' st k=>st.at λo e=>k it c! o e
 item:=by
  intro X hP hw hK hc i J s Z H E I hf st hg;subst hP hw hK;obtain⟨es,e,x,hH,hl,hx,rx⟩:=hg;have D:=zC I.hok hH;obtain⟨f0,f1,f2,f3,f4,f5⟩:=hf it c!;subst hl;refine a0x st D hx λh' ac sb=>?_;have I1:Inv X J Z H {s with heap:=h'}:=I.turned q1_ f0 f1 f3 f4 f5;obtain⟨o,eo,c,dd⟩:=id ac;exact⟨_,rfl,a7q eo c dd a_ ⟨x,H,I1,rx,⟨rfl,λbh hy=>by
   obtain⟨rfl,_⟩:=c5q D (zC I.hok hy);exact⟨e,hx,rx⟩⟩,ac,λb hb=>(fw_).1⟩⟩
 done:=by
  show"!4";obtain⟨es,hH,hl,hx⟩:=hg;show"!a";subst hl;exact a7x az! st (zC I.hok hH) hx λh' eb=>Af!
 self:=λ_ _ _ _ _ st h=>wpAny_pyIter_keyiter st h
end
section
variable{X:Cx}{own:List Nat}{a tg:Expr}{fa:WE}
def Ja(f:WE):WI:=λρ M T=>f ρ M λd M1=>Ed jB_ λq=>T gL_ (λM=>M q.1=some of_) M1
def a3y(h:ap_):MI X own tg a (Ja fa):=⟨by
 rintro J s Z H R I ⟨G,ρ,M,T,st,e,k⟩;refine h.run I st e λd M1 v G1 H1 u s1 r1 x1 m1 q1 I1 rx=>?_;obtain⟨⟨p,h1,ep⟩,e1,r2⟩:=cW r1;obtain⟨rfl,rfl,hM⟩:=cE q1 e1;subst rx;obtain⟨es,Y,h2,h3,h4,h5,h6⟩:=eL I1 m1 x1.sub hM;have ay:ak!=aa!:=OL h2.1;refine b5e h4 h3 ⟨x_,[x_],_,GV p ep aa!,H1,rfl,wT!,b1e p _,ea!,bE_,k _ _ M1 _ G1 H1 r2 x1 m1 λi M' G' H' s2 s3 m' ck=>?_⟩
 .have e:b=x_:=by simpa using hb
  show"!N"
 .obtain⟨_,bh,g1,g2⟩:=m'.cell p _ ck;have hlen':ak!=bh.length:=OL g2.1;refine⟨dE_,λhi=>⟨bh,g1,p_,by rw[hi,IK];show aa!<=ak!;omega⟩⟩;rw[JL]at hd;obtain⟨q,hq,rfl⟩:=IA.mp hd;obtain⟨e',iw,⟨v,r1,rv⟩,_,_⟩:=fR g2.1 hq;refine⟨⟨bh,e',v,g1,p_,iw,rv⟩,iH!⟩;obtain⟨z1,z2⟩:=hy;subst z1;obtain⟨e2,m8,rx⟩:=z2 bh g1;rw[iw]at m8;rcases m8;rw[rx.inj rv];exact⟨G',Bn.refl s3,r1⟩⟩
end
section
variable{X:Cx}{J:List (Addr×Obj)}{Z:St}{H:Hp}{s:xR!}
def gH{wr:ax_}(I:b_)(hf:∀b∈wr,Eo X J H b)(kp:∀c o,c∉wr->s.heap.get? c=some o->h2.get? c=some o):Inv X J Z H {s with heap:=h2,toks:=t'}:=by
 refine xs_
 .obtain⟨f0,f1,f2,f3,f4,f5⟩:=hf c hc;exact⟨f3,f1,f4,f5⟩
 .show"#1";exact xt!
 .refine(xt_).stay xu! xv! λ_ _ e'=>e';have hn:=(hf d hm).1;obtain rfl|hd:=hd
  .rw[hn]at e;rcases e
  .rw[hn]at hd;rcases hd
def c2t(I:Inv X J Z H s0)(I1:b_)(hT:Ag!<=T)(eT:s.heap.IsTuple T dH!)(rv:dY!)(hz:f_<=sizeLine):Inv X J Z (upd H T bd_) s:=by
 have sv:=I.hok.fresh hT;have ne:∀c o,H c=some o->c≠T:=λc o e=>bY e sv;refine Inv.step (ch:=[T]) I1 ny! xB! xB_ xC! xC_
  (xD_) xE! xF_ mj_ nz_ I1.bare
 .have e:c=T:=by simpa using hc
  subst e;obtain⟨_,g1,_,g3,g4,g5⟩:=I.fpOk hT sv;exact⟨g3,g1,g4,g5⟩
 .rw[mk!];exact n
 .by_cases hb:c=T
  .show"!r";exact⟨hz,us,rv,eT⟩
  .rw[c4!]at e;exact(xH_).stay mk_ xH! λd xs q=>by rw[nE_];exact q
end
def GU(x:Str):It:=⟨wP!,λi H v H'=>∃T c,v=.ref T/\H T=none/\x.cps[i]?=some c/\H'=upd H T (.tup [aG_,ds_]),wP_⟩
def a2t{KF:zM!}(qf:gM!)(hd:wR_)
  (D:∀A':Around,nj_=none->Draws P w A' it [it] x.cps.size Ag_ fm):
  Pf P w KF eR_ (GU x) cX_ e (λi h=>i<=iU!/\Ah!/\fm i h) where
 mem:=by simp
 obj:=λi h st b hb=>by
  simp only[HW,HY,OH]at hb;obtain⟨_,⟨old,s1⟩,s2⟩:=st;obtain rfl|rfl:=hb
  .exact⟨_,s1,fY_⟩
  .exact hd i h s2
 keep:=λi h h' st k=>by
  have W:=WalksT.enumerateD (D callerA.in1 rfl) e qf oB! c!;exact⟨st.1,W.frame i h h' st.2 λb hb o q=>k b fx! o q⟩
 item:=by
  intro X hP hw hK hc i J s Z H E I hf st hg;subst hP hw hK;have hh:=I.ok.hd hc;have W:=WalksT.enumerateD Ah_ e qf oB! c!;refine W.item i s _ _ hg st.2 λT wc h' tk hP hT XQ hm kp=>⟨_,rfl,W.go lu n1 tp i T _ _ _ hm λh2 bx ny=>?_⟩;obtain⟨t,y,⟨c,u,gb,rfl⟩,rfl⟩:=hP;have XT:=hf;have I1:Inv X J Z H {s with heap:=h2,toks:=tk}:=gH I XT λc o hc eo=>ny c o hc (kp c o hc eo);have TB:=W.apart i T _ hm;have eT:h2.IsTuple T #[.int i t,.str Y_ u]:=by
   obtain⟨o,eo,r⟩:=XQ;exact⟨o,ny T o TB eo,r⟩
  have I2:=c2t (xs:=[aG_,ds_]) I I1 hT eT (.cons dw! (.cons nk! .nil)) (by show 2<=sizeLine;rw[KA];decide);refine⟨.ref T,_,I2,rfl,⟨T,c,rfl,I.hok.fresh hT,gb,rfl⟩,⟨hg,bx⟩,bE_⟩;rw[aS (λz:b=T=>TB (by rw[<-z];exact hb))];exact(fw_).1
 done:=by
  show"!4";have hh:=I.ok.hd hc;have W:=WalksT.enumerateD Ah_ e qf oB! c!;have hi:=Nat.le_antisymm st.1 hg;subst hi;exact W.done s _ _ st.2 λh' tk kp=>⟨rfl,gH I hf kp⟩
 self:=λA i s Q E st h=>by
  obtain⟨_,⟨old,s1⟩,_⟩:=st;exact wpAny_pyIter_enum s1 h
section
variable{X:Cx}{own:List Nat}{a:Expr}{lu:List Expr}{n1:Nat}{tp p pos:Pos}{fa:Ae->Option D}
def Tk(f:j!):Ae->Option aD!:=λρ=>(V_).bind λd=>match d with|.str x=>some (x.cps.toList.zipIdx.map λq=>.tup Aj!)|_=>none
def b6o(hg:Aj_)(hm:Ak!)(h:N_)(hs:Ak_:=by rfl)(a7:Al!:=by rfl):
  DI X own eR_ (.Call (.Name "enumerate" p) [a] [] pos) (Tk fa):=⟨by
 rintro J s Z H R I ⟨G,ρ,ds,er,e,k⟩;obtain⟨d,e1,e2⟩:=HQ.mp e;cases d<;>first|(rcases e2;done)|skip
 rename_i x;rcases e2;refine Call_ (iE I hg hm boot_enumerate (KJ (cZ (dB h.ok fK hs pos J s Z H (λvs H1=>∃v G1,vs=[v]/\Bn G H G1 H1/\Ao X.K G1 bX_ v) I ⟨G,ρ,_,er,e1,λv G1 H1 x1 r1=>⟨v,G1,rfl,x1,r1⟩⟩) ?_) hs a7));rintro us s1 ⟨vs,H1,I1,r1,v,G1,q1,x1,rr⟩;subst q1;obtain rfl:=cB rr;obtain⟨u,rfl,t,rfl⟩:=mL r1;refine call_enumerate_str λh' he ar bn hk=>?_;refine wpAny_pyIter_enum he ?_;have I2:Inv X J Z H1 {s1 with heap:=h',toks:=s1.toks}:=I1.kept hk;have jo:∀b∈[x_+1,x_],x_<=b:=λb hb=>by
  simp only[HW,HY,OH]at hb;obtain rfl|rfl:=hb<;>omega
 have fin:∀{fm:hn_},fm 0 h'->(∀i h,fm i h->∃o,h.get? x_=some o/\∀v,o.data≠.cell v)->(∀A':Around,nj_=none->Draws X.prog X.w A' s1.heap.objs.size [x_] x.cps.size Ag_ fm)->
   CZ X J Z eR_ R (.ref (x_+1)) {s1 with heap:=h'}:=λ{fm} h0 hd D=>by
  refine⟨_,_,_,GU x,H1,rfl,I2,a2t Am! hd D,⟨JJ _,⟨_,he⟩,h0⟩,λb hb=>I1.fpOk oC_ Am_,k _ G1 H1 x1 ?_⟩;intro i G' H' g1 g2;refine⟨dE_,λhi=>by rw[IK,RJ,LA]at hi;exact NO hi.symm⟩;rw[JL,List.getElem?_zipIdx]at hd;obtain⟨q,hq,rfl⟩:=IA.mp hd;obtain⟨c,hc,rfl⟩:=IA.mp hq;rw[NW]at hc;refine wR!;obtain⟨T,c',rfl,hT,c7,rfl⟩:=hy;rw[hc]at c7;rcases c7;refine⟨_,Bn.laid g2 hT,fE (g2.free hT) (Ak.cons ?_ (Ak.cons Ao.str Ak.nil))⟩;rw[RX];exact Ao.int
 cases ha:x.cps.all (·<128)
 .have i':h'.IsStrIter s1.heap.objs.size "str_iterator" x t 0:=by simpa[strIterType,ha]using ar
  exact fin i' Ao_ λA' hh=>Draws.strWide hh _ x t
 .have i':h'.IsStrIter s1.heap.objs.size "str_ascii_iterator" x t 0:=by simpa[strIterType,ha]using ar
  exact fin i' Ao_ λA' hh=>Draws.strAscii hh _ x t⟩
end
end DL
namespace HT
open PySem PySem.Spec PyProof.Rows
def b1x(A:wX!)(s:xR!)(a:Int)(t:Tok)(c:Int)(u:Tok)(prog:xc!)(w:wZ!)(E:I!)(Q:I!)(h:Q (.bool (decide (c<a))) s):
  wpAny l! A (richCompare .Gt fO! lJ!) Q E s:=
 (PyProof.Rows.gt_int h:wpAny l! A (compareOp .Gt fO! lJ!) Q E s)
section
open PySem.SeqAt
open PySem.AutoSeq1 (wpAny_loadPart')
open PySem.MeetsSeq PySem.MeetsSeq2 PySem.MeetsSeq3
def tJ(l b:qT!)(ak j8:bD!)(n n2:Nat)(dd k9:dw_)(sl f7:mg_)(ns ms:u!)(hi:Ap_)(hj:Aq!):
  Meets (Builtin.«tuple.__gt__» ⟨[.ref l,.ref b],[]⟩)
   (λ_ R s=>s.heap.get? l=some {cls:=.type "tuple",dict:=dd,data:=.seq ak n,slots:=sl}/\s.heap.get? b=some {cls:=.type "tuple",dict:=k9,data:=.seq j8 n2,slots:=f7}/\
    R (.ok (.ret oE!)) s):=
 .of_wp λprog w A R s h=>by
  obtain⟨hp,g,d,tk,os⟩:=s;obtain⟨hl,hb,h⟩:=h;have f2:=AutoSeq1.sub_tuple_tuple;have z1:ak.size=cC!:=by rw[<-hi.length];rfl
  have z2:j8.size=jK!:=by rw[<-hj.length];rfl
  wp_walk using wpAny_loadPart' hl,wpAny_loadPart' hb,QY _ (λrest b s'=>b.1=none/\s'=jK_/\∃(vs ws:l_) (qg qh:u!),rest=vs.zip ws/\
   IntsAre vs qg/\IntsAre ws qh/\qg.length+j8.size=qh.length+ak.size/\R (.ok (.ret (.bool (lexLt qh qg)))) jK_) _
  case turn=>
   rintro⟨y,x⟩ rest b s' ⟨fq,rfl,vs,ws,qg,qh,hz,xh,vd,ay,hR⟩;cases xh with
   |nil=>rw[List.zip_nil_left]at hz;cases hz
   |cons a t XU=>
    cases vd with
    |nil=>rw[List.zip_nil_right]at hz;cases hz
    |cons c u XV=>
     rw[PX]at hz;injection hz with XW XX
     injection XW with hy hx
     subst hy hx;rw[lexLt_cons]at hR;simp only[IW]at ay;obtain⟨e,he,TC⟩:=b6a A.in1 jK_ a t c u;refine HP (he prog w _ _ ?_);cases e with
     |true=>
      rw[IB (TC.mp rfl).symm]at hR
      wp_walk
      exact⟨rfl,rfl,_,_,_,_,XX,XU,XV,p_,hR⟩
     |false=>
      rw[IF (λq=>absurd (TC.mpr q.symm) JB)]at hR;have XY:=b1x A.in1 jK_ a t c u prog w
      wp_walk using XY
      exact⟨_,rfl,by simpa using hR⟩
  case fin=>
   rintro⟨b1,b2⟩ s' ⟨fq,rfl,vs,ws,qg,qh,hz,xh,vd,ay,hR⟩;simp only at fq;subst fq;have hv:lexLt qh qg=decide (j8.size<ak.size):=by
    cases xh with
    |nil=>
     cases vd with
     |nil=>
      simp only[MF]at ay;rw[lexLt_nil_nil];exact(IG a!).symm
     |cons c u hw=>
      simp only[MF,IW]at ay;rw[rZ];exact(IG a!).symm
    |cons a t hv=>
     cases vd with
     |nil=>
      simp only[MF,IW]at ay;rw[rY];exact(IN a!).symm
     |cons c u hw=>
      rw[PX]at hz;cases hz
   rw[hv]at hR
   wp_walk
   exact⟨_,rfl,by simpa[Builtin.Tuple.tupleCompareSizes]using hR⟩
  case h=>
   exact⟨rfl,rfl,ak.toList,j8.toList,ns,ms,rfl,hi,hj,p_,h⟩
end
section
variable{prog:xc!}{w:wZ!}{A:wX!}{E:Value->Shared->Prop}{s:xR!}
def gt_tupInts(hl:IsTup s.heap l ak)(hb:IsTup s.heap b j8)(hi:Ap_)(hj:Aq!)
  (hu:ah!)(h:Q oE! s):wpAny l! A (compareOp .Gt h6! dp!) Q E s:=by
 obtain⟨⟨cls,dd,data,sl⟩,ho,hc,n,hd⟩:=id hl;obtain⟨⟨zf,k9,data2,f7⟩,jg,ir,n2,jh⟩:=id hb;simp only at hc hd ir jh;subst hc hd ir jh;exact richCompare_meets_room (op:=.Gt) hU! hU_ PySem.F.slot_tuple_gt PySem.F.entry_tuple_gt (PySem.F.args_tuple_gt_2 _ _) (tJ l b ak j8 n n2 dd k9 sl f7 ns ms hi hj)
  ⟨ho,jg,show Value.bool Aq_≠Value.notImplemented/\Q oE! s from⟨(λx=>nomatch x),h⟩⟩ hu
end
end HT
namespace DL
open PySem PySem.Spec PyProof.Rows L2
section
variable{X:Cx}{own ba:List Nat}{a b e tg o:Expr}{es:List Expr}{p pos:Pos}{fa fb f:Ae->Option D}
def CF(KF:zM!):R2:=λx y H Q=>∃a b ns ms,x=.ref a/\y=.ref b/\Ex KF H a bL_/\Ex KF H b (ms.map V.int)/\Q (.bl oG_) H
def c3y(hu:X.A.units<cLine):Fc X rA_ (CF X.K):=by intro J s Z H x y v u Q I rx ry h;obtain⟨a,b,ns,ms,rfl,rfl,ha,hb,q⟩:=h;subst rx;subst ry;obtain⟨its,r1,p1,_⟩:=I.tuple ha;obtain⟨gc,r2,p2,_⟩:=I.tuple hb;have i1:IntsAre its.toArray.toList ns:=sP r1;have i2:IntsAre gc.toArray.toList ms:=sP r2;exact HT.gt_tupInts p1 p2 i1 i2 hu ⟨.bl oG_,H,I,rfl,q⟩
def Kh:List D->Option (List Int)
 |[]=>some []
 |.int i::r=>(Kh r).map (i::·)
 |_=>none
def kZ{KF:zM!}:∀{ds:d!} {vs:r_} {ns:u!},Ak KF G ds vs->Kh ds=some ns->vs=ns.map V.int
 |[],vs,ns,r,e=>by obtain rfl:=cK r;rcases e;rfl
 |d::ds,vs,ns,r,e=>by
  obtain⟨v,t,rfl,r1,r2⟩:=bB r;cases d<;>simp only[Kh]at e<;>first|(rcases e;done)|skip
  obtain⟨l,e1,rfl⟩:=IA.mp e;rw[kZ r2 e1];obtain rfl:=aU r1;rfl
def BH:D->D->Option D
 |.tup xs,.tup ys=>(Kh xs).bind λns=>(Kh ys).map λms=>.bl oG_
 |_,_=>none
def c4g{KF:zM!}:Fu KF (CF KF) BH:=by
 show"!2";unfold BH at e;show"!8"
 .obtain⟨ns,e1,e⟩:=HQ.mp e;obtain⟨ms,e2,rfl⟩:=IA.mp e;show"!S";obtain⟨b,ws,rfl,qb,rb⟩:=bD ry;rw[kZ ra e1]at qa;rw[kZ rb e2]at qb;exact⟨a,b,ns,ms,rfl,rfl,iB!,mO!,dE!⟩
 .rcases e
def AD(neg:Bool):R2:=λx y H Q=>∃b c,x=.bl b/\y=.bl c/\Q As! H
def c3v:Fc X rB! (AD false):=by
 intro J s Z H x y v u Q I rx ry h;obtain⟨b,c,rfl,rfl,q⟩:=h;cases rx;cases ry;refine wpAny_is_plain rfl ?_;have e:As_=(b==c):=by cases b<;>cases c<;>rfl
 rw[e];exact iS!
def a9i:Fc X rC! (AD true):=by
 intro J s Z H x y v u Q I rx ry h;obtain⟨b,c,rfl,rfl,q⟩:=h;cases rx;cases ry;refine wpAny_isNot_plain rfl ?_;have e:As_=(b==c):=by cases b<;>cases c<;>rfl
 rw[e];exact iS!
def BG(neg:Bool):D->D->Option D
 |.bl b,.bl c=>some As!
 |_,_=>none
def b3r{KF:zM!}{neg:Bool}:Fu KF (AD neg) (BG neg):=by
 show"!2";unfold BG at e;show"!8"
 .cases e;cases dA rx;cases dA ry;exact nH_
 .cases e
def Xz:V->List V->Hp->VK->Prop:=λx vs H Q=>∃l xs k y,x=.ref l/\vs=[At_,y]/\H l=some H!/\k<=f_/\f_<sizeLine/\Q .non (upd H l (.lst (xs.take k++y::xs.drop k)))
def a9v:FS X "list.insert" Xz:=by
 intro J s Z H x vs v us Q I rx rv h;obtain⟨l,xs,k,y,rfl,rfl,hH,hk,hz,q⟩:=h;subst rx;obtain⟨u,u2,rfl,⟨t,rfl⟩,ru⟩:=zR rv;obtain⟨z,its,n,r,hl,e⟩:=I.lstM hH;have v9:¬(!Builtin.List.listFitsIndex (k:Int))=true:=by
  rw[fitsIndex_both (Int.le_trans a_ (Int.natCast_nonneg k)) (Int.lt_of_le_of_lt (Int.ofNat_le.mpr (JG hk (NN hz))) vC_)];exact JB
 have bn:bi!<=sizeLine:=by rw[HZ];omega
 refine RM (S:=?S) PySem.F.slot_list_insert dv_ PySem.F.entry_list_insert (PySem.F.args_list_insert_3 _ _ _) ?g ?h
 case g=>exact @PySem.AutoSeq1.list_insert_list_int_val_1 l its.toArray n (k:Int) t u2 v9 bn
 refine h8!;refine⟨.non,_,I.lset (its':=its.take k++u2::its.drop k) hH e ?_ ((r.take k).append (.cons ru (r.drop k))) ?_,rfl,q⟩
 .have Y:¬cp_<0:=by omega
  have h2:min (cp_).toNat bi!=k:=by simp;omega
  simp only[Y,KC,h2];simp[List.extract_eq_drop_take];rw[MM c!]
 .simp only[IR,IW,LH,OI];omega
def We(i:Nat)(fk f:j!):Ae->Option Fl:=λρ=>(fk ρ).bind λx=>(V_).bind λd=>match x,ρ[i]? with
 |.int j,some (some (.lst ds))=>if 0<=j/\j.toNat<=g_/\g_<big then some (.nx (ρ.set i (some (.lst (ds.take j.toNat++d::ds.drop j.toNat)))))else none
 |_,_=>none
def b0m(b8:eD_:=by decide)(hk:DE X own ek fk)(h:cN!)(hN:ac_:=by rfl)(hv:cu!:=by first|exact Or.inl rfl|exact Or.inr h!|exact Or.inr a9!)
  (hd:y_:=by decide)(bz:cu_:=by decide)
  (bc:starEach (ek::[e]) X.env=(false,eval ek X.env)::starEach [e] X.env:=by rfl)(XZ:ge_:=by rfl)(gg:((backTo ai (starEach [ek,e] X.env)).all b8_&&(b9!).all b9_
   &&decide ([ek,e].length+(du_).length+es_<30))=true:=by rfl) (gh:dv!:=by rfl)
  (gf:attributeBase bt! "insert" X.env m9_=eval bt! X.env:=by rfl) (gi:(h9_).any c_=false:=by rfl) (j5:swapsWith Av_ none pos.line X.env=pure false:=by rfl):
  DS X own own (.Expr Av_ pos) (We i fk f):=⟨by
  rintro G0 F0 J s Z H E I ⟨G,ρ,r,er,e',k⟩;refine mT (uQ NG PySem.F.slot_list_insert PySem.F.type_list_insert a9v it! (dB hk.ok (dB h.ok fK XZ) bc) gf gg gh bc gi) j5 J s Z H E I ?_;obtain⟨z,e1,e4⟩:=HQ.mp e';obtain⟨d,e3,e2⟩:=HQ.mp e4;clear e' e4;obtain⟨p,ds,vs,Y,h2,h3,h4,h5⟩:=er.or.own_ i b8;rw[Y]at e2;cases z<;>first|(rcases e2;done)|skip
  rename_i j;simp only at e2;split at e2
  .rename_i hj;rcases e2;refine⟨gf_,h2,na_,G,ρ,_,er.or,e1,λv G' H' x r=>⟨G',ρ,d,er.or.grow x,e3,λv2 G2 H2 x2 r2=>?_⟩⟩;obtain rfl:=aU r;have hl:=aG h5;refine⟨p,vs,j.toNat,v2,rfl,?_,(x.trans x2).h _ _ h3,p_,by rw[<-hl];exact IQ hj.2.2 (cF p!),?_⟩
   .rw[Int.toNat_of_nonneg hj.1]
   .have h6:=(wt!).mono x2.g;exact k G2 Z _ (((iJ_).grow x2).upd b8 h2 (cG (oK _ h6) (Ak.cons r2 (oM _ h6))))
  .rcases e2⟩
end
end DL
namespace DL
open PySem PySem.Spec PyProof.Rows L2
section
variable{X:Cx}{own ba:List Nat}{a b e tg o:Expr}{es:List Expr}{p p2 pos:Pos}{fa fb fo f:WE}{fs:WA}
def Xp(i:Nat)(f:WE):WS:=λρ M R=>f ρ M λd M1=>Ed (Ln M1 d) λq=>match ρ[i]? with
 |some (some (.lst ds))=>g_+og!<=big/\R (.nx (ρ.set i (some (.lst (ds++q.2))))) M1
 |_=>False
def a9x(b8:eD_:=by decide)(h:bc_)(hN:ac_:=by rfl)(hv:cu!:=by first|exact Or.inl rfl|exact Or.inr h!|exact Or.inr a9!)
  (hd:y_:=by decide)(bz:cu_:=by decide)
  (bc:ge_:=by rfl)(gg:((h9_).all b8_&&(b9!).all b9_
   &&decide wq_)=true:=by rfl) (gh:dv!:=by rfl)
  (gf:attributeBase bt! "extend" X.env m9_=eval bt! X.env:=by rfl) (gi:gf!:=by rfl) (j5:swapsWith Ay! none pos.line X.env=pure false:=by rfl):
  MS X own own (.Expr Ay! pos) (Xp i f):=
 nA (mT (uQ NG PySem.F.slot_list_extend PySem.F.type_list_extend a9w it! ws_ gf gg gh bc gi) j5) λM0 G0 F0 E Z G H ρ M R sr e' k1 k2=>by
  obtain⟨p,ds,vs,Y,h2,h3,h4,h5⟩:=sr.st.or.own_ i b8;refine⟨gf_,h2,na_,G,ρ,M,_,sr.st,e',zM_⟩;obtain⟨⟨c,zs⟩,e1,r⟩:=cW r;obtain⟨z1,z2,z3,us,h6,h7⟩:=kR m q e1;subst z2;rw[Y]at r;have dh:=sr.grow x m;obtain⟨p',pi,f8,g1,g2,g3,g4,g5⟩:=dh.st.or.own_ i b8;rw[h2]at g2;cases g2;rw[Y]at g1;cases g1;refine⟨p,c,f8,us,rfl,rfl,g3,h6,?_,k1 _ M' G' Z _ r.2 (dh.after (dh.sr.upd b8 h2 (cG g5 h7)))⟩;have:=r.1;rw[<-aG g5,<-aG h7];exact cF this
def No(s0:Str)(fa:WE):WE:=λρ M R=>fa ρ M λy M2=>Ed (Pk (.str s0) y) λd=>R d M2
def a6z(ha:ap_)
  (gf:attributeBase jN! "join" X.env (eval jN! X.env)=eval jN! X.env:=by rfl)
  (gg:((og_).all b8_&&(b9!).all b9_
   &&decide oh!)=true:=by rfl)
  (gh:dv!:=by rfl) (hs:iI!:=by rfl) (gi:gf!:=by rfl):
  ME X own (.Call (.Attribute jN! "join" ax) [a] [] ai) (No s0 fa):=
 eF (uQ PySem.F.plainAttrs_str PySem.F.slot_str_join PySem.F.type_str_join b9v b2u (dB ha.ok fK hs) gf gg gh hs gi) λZ G H Q ρ M R st e k=>⟨rfl,G,ρ,M,_,st,e,λy M2 w G2 H2 r2 x2 m2 q2=>by
  obtain⟨d,e3,r3⟩:=cW r2;cases y<;>first|(rcases e3;done)|skip
  rename_i xs;obtain⟨ys,e4,e5⟩:=HQ.mp (show((Np xs).bind λys=>if(iU_).sum+ad_*s0.length<=big then some (.str (Txt.join s0 ys))else none)=some d from e3);split at e5
  .rename_i hl;rcases e5;obtain⟨p,vs,rfl,q,rr⟩:=bJ q2;have:=a0d rr e4;subst this;exact⟨_,p,ys,rfl,rfl,x2.sub.seq q,JG hl a_,k _ M2 _ G2 H2 r3 x2 m2 Ao.str⟩
  .rcases e5⟩
def Tv(fs:WA)(fb:WE):WE:=λρ M R=>fs ρ M λds M1=>g_<=1000/\fb ρ M1 λy M2=>match y with
 |.int k=>AA_/\∀p,M2 p=none->R x! (mup M2 p AB!)
 |_=>False
def a1v{p:qT!}{o:HO}(s:E!)(hp:cb_):Bn G H G eC_:=⟨eD!,gX hp,s.trans (gX hp),cV!⟩
def rA{KF:zM!}(r:iK!):∀k:Nat,Ak KF G (List.replicate k ds).flatten (List.replicate k vs).flatten
 |0=>Ak.nil
 |k+1=>by
  rw[MC,MC,NY,NY];exact cG r (rA r k)
def b9y(ha:eY!)(hb:bU!):ME X own AB_ (Tv fs fb):=
 eF AC! λZ G H Q ρ M R st e k=>⟨G,ρ,M,_,st,e,λds M1 vs G1 H1 r1 x1 m1 q1=>⟨by rw[<-aG q1];exact eG r1.1,λp hp=>by
  have xj:Bn G1 H1 G1 AC_:=a1v x1.sub hp;have hM:=m1.nocell hp;refine AD!;cases y<;>first|exact r2.elim|skip
  rename_i n;obtain rfl:=aU q2;obtain⟨⟨hn,gw,hl⟩,r2⟩:=r2;have xi:=x2.keep p _ bI hM;refine AD_;have xk:=(AE!).trans x2 oL!;exact k _ _ _ G2 _ (r2 c (m2.nocell hc)) (xk.trans (.laid x2.sub hc) m2) (m2.laid hc x2.sub ⟨_,bI,rA bx_ _⟩) Ao.fn⟩⟩
end
nonrec def rk(r:oM!)(xs:jN_)(i:Nat):Int:=(xs[i]?.map r).getD 0
def b1u(hs:c<xs.size)(hd:d<=c)(k:Nat):rk r (bubble xs c d) k=if k=c - d then rk r xs c else if c - d<k/\k<=c then rk r xs (k - 1)else rk r xs k:=by
 unfold rk;rw[getElem?_bubble hs d hd k];split
 .rfl
 .split<;>rfl
def a3b(hj:j<=xs.size)(k:Nat):rk r AF! k=if i<=k/\k<j then rk r xs (i+j - 1 - k)else rk r xs k:=by unfold rk;rw[getElem?_mirror_all hj k];split<;>rfl
def mR(hj:j<=xs.size)(he:∀k,i<=k->k<j->rk r xs k=rk r xs dT_)(k:Nat):rk r AF! k=rk r xs k:=by
 rw[a3b hj];by_cases h:i<=k/\k<j
 .rw[IB h,he _ a! a!,he k h.1 h.2]
 .rw[IF h]
def Up(r:oM!)(xs:jN_)(n:Nat):Prop:=∀i j,i<=j->j<n->rk r xs i<=rk r xs j
def Dn(r:oM!)(xs:jN_)(n:Nat):Prop:=∀i j,i<=j->j<n->rk r xs j<=rk r xs i
structure SB(kd:SortKind)(a0:jN_)(st:SortSt):Prop where
 pm:(A!).Perm a0
 kn:kindOf st=kd
 fl:failedOf st=none
 pd:pendingOf st=#[]
def SB.sz{st:SortSt}(h:bW!):(A!).size=a0.size:=h.pm.size_eq
def SB.put{st:SortSt}(h:bW!)(hp:xs.Perm A!):SB kd a0 (setArr st xs):=⟨hp.trans h.pm,h.kn,h.fl,h.pd⟩
section
variable{prog:xc!}{w:wZ!}{A:wX!}{E:Value->Shared->Prop}{s:xR!}{a0:Array Keyed}{kd:SortKind}{r:Keyed->Int}
variable (prog w A s a0 kd r)in
def Sa:Prop:=∀(x y:Keyed) (F:I!) (Q:Bool->Shared->Prop),x∈gP_->y∈gP_->Q (decide (r x<r y)) s->wpAny l! A (keyLt' kd x.1 y.1) Q F s
def b1s{st:SortSt}(hl:cZ!)(b:bW!)(hi:i<a0.size)(hj:j<a0.size)(h:Q (some (decide (rk r A! i<rk r A! j))) st):wpS l! A E s (ltAt' i j) Q st:=by
 have at_:∀k,k<a0.size->∃p,A![k]?=some p/\p∈gP_/\rk r A! k=r p:=λk hk=>by
  have df:k<(A!).size:=by rw[b.sz];exact hk
  refine⟨A![k],AH_,(Array.perm_iff_toList_perm.mp b.pm).mem_iff.mp c!,?_⟩;unfold rk;rw[AH_];rfl
 obtain⟨x,ex,mx,rx⟩:=at_ i hi;obtain⟨y,ey,my,ry⟩:=at_ j hj;rw[rx,ry]at h;rw[ltAt'_eq];refine KN fa!;show wpS l! A E s (elem' A! i>>=λx=>elem' A! j>>=λy=>lt' x y) Q st;rw[elem'_eq,elem'_eq,ex,ey];refine KN (MN (KN (MN ?_)));rw[lt'_eq];refine KN fa!;rw[b.kn];exact KN (wpS_lift (OK (hl x y _ _ mx my ⟨rfl,MN h⟩)))
def c1t{st:SortSt}(hl:cZ!)(hn:fa_)(ha:1<=a)(X8:a<=n)(b:bW!)(hu:Up r A! a)
  (h:∀m,a<=m->m<=n->Up r A! m->(m=n\/rk r A! m<rk r A! jO!)->Q (none,m) st):wpS l! A E s (ascLoop a n) Q st:=by
 unfold ascLoop;refine RC (I:=λx c ac=>ac=st/\c=(none,x)/\Up r A! x) ?_ ?_ ⟨rfl,rfl,hu⟩
 .rintro x c ac Y h2 ⟨rfl,rfl,u⟩;refine KN (b1s hl b (IQ h2 hn) a! ?_);by_cases q:rk r w! x<rk r w! gQ!
  .rw[IN q];exact MN (h x Y (NN h2) u (.inr q))
  .rw[IG q];refine MN ⟨rfl,rfl,AJ!⟩;obtain h5|h5:=LM j x
   .exact u i j h3 h5
   .have:j=x:=by omega
    subst this;obtain h6|h6:=LM i j
    .have:=u i dT_ a! a!;omega
    .have:i=j:=by omega
     rw[this];exact LU _
 .rintro c ac ⟨rfl,rfl,u⟩;rw[show max a n=n by omega]at u ⊢;exact h n X8 p! u X!
def b1p{st:SortSt}(hl:cZ!)(hn:fa_)(Y:1<=m)(hm:m<=n)(b:bW!)(hd:Dn r A! m)
  (h:oP_):wpS l! A E s (tail3 m n) Q st:=by
 unfold tail3;have b':SB kd a0 (setArr st (mirror A! 0 m ((m - 0) / 2))):=b.put jQ!;have hz:m<=(A!).size:=by rw[b.sz];omega
 refine KN (wpS_reverse (KN (c1t hl hn Y hm b' (λi j h3 h4=>?_) λk h3 h4 u _=>MN (h k _ b' a! h4 u))));rw[a3b hz,a3b hz,aj!,aj!];exact hd _ _ a! a!
def c3b{st:SortSt}(hl:cZ!)(hn:fa_)(Y:1<=m)(hm:m<=n)(b:bW!)(hd:Dn r A! m)
  (h:∀k q ac,SB kd a0 ac->m<=k->k<=n->Dn r w! k->q+1<=k->(∀i,k - (q+1)<=i->i<k->rk r w! i=rk r w! (k - 1))->Q (none,k,q) ac):wpS l! A E s (descLoop m n) Q st:=by
 unfold descLoop;refine RC (I:=λx c ac=>∃q,c=(none,x,q)/\SB kd a0 ac/\Dn r w! x/\q+1<=x/\∀i,x - (q+1)<=i->i<x->rk r w! i=rk r w! gQ!) ?_ ?_ ⟨0,rfl,b,hd,p_,λi h2 h3=>by rw[show i=m - 1 by omega]⟩
 .rintro x c ac h2 h3 ⟨q,rfl,b',d,hq,he⟩;have hz:x<=(w!).size:=by rw[b'.sz];omega
  refine KN (b1s hl b' (IQ h3 hn) AK! ?_);by_cases p:rk r w! x<rk r w! gQ!
  .rw[IN p];have o8:∀xs:Array Keyed,(∀k,rk r xs k=rk r w! k)->Dn r xs (x+1):=λxs hk i j h4 h5=>by
    rw[hk,hk];obtain h6|h6:=LM j x
    .exact d i j h4 h6
    .have:j=x:=by omega
     subst this;obtain h7|h7:=LM i j
     .have:=d i dT_ a! a!;omega
     .show"#."
   by_cases tf:q>0
   .simp only[KZ,tf];exact KN (wpS_reverse (MN ⟨0,rfl,b'.put jQ!,o8 _ (mR hz he),p_,AK_⟩))
   .simp only[KZ,tf,KC];exact MN ⟨0,rfl,b',o8 _ λ_=>rfl,p_,AK_⟩
  .rw[IG p];dsimp only[_root_.Bool.false_eq_true,_root_.if_false];refine KN (b1s hl b' AK! (IQ h3 hn) ?_);by_cases p2:rk r w! gQ!<rk r w! x
   .rw[IN p2];exact MN (h x q ac b' h2 (NN h3) d hq he)
   .rw[IG p2];have ex:rk r w! x=rk r w! gQ!:=by omega
    refine MN ⟨q+1,rfl,b',λi j h4 h5=>?_,p_,λi h4 h5=>?_⟩
    .obtain h6|h6:=LM j x
     .exact d i j h4 h6
     .have:j=x:=by omega
      subst this;obtain h7|h7:=LM i j
      .rw[ex];exact d i dT_ a! a!
      .show"#."
    .rw[show x+1 - 1=x by omega];obtain h6|h6:=LM i x
     .rw[ex];exact he i a! h6
     .rw[show i=x by omega]
 .rintro c ac ⟨q,rfl,b',d,hq,he⟩;rw[show max m n=n by omega]at d hq he ⊢;exact h n q ac b' hm p! d hq he
def b1r{st:SortSt}(hl:cZ!)(hn:fa_)(hm:m+1<=n)(b:bW!)(hd:Dn r A! (m+1))
  (h:oP_):wpS l! A E s (descPart m n) Q st:=by
 unfold descPart;refine KN (wpS_lift (LJ ⟨rfl,KN (c3b hl hn a! hm b hd λk q ac b' Y h2 d hq he=>?_)⟩));by_cases tf:q>0
 .simp only[KZ,tf];refine KN (wpS_reverse (b1p hl hn a! h2 (b'.put jQ!) (λi j h4 h5=>?_) h));have hz:k<=(w!).size:=by rw[b'.sz];omega
  rw[mR hz he,mR hz he];exact d i j h4 h5
 .simp only[tf,KC];exact b1p hl hn a! h2 b' d h
def b8m{st:SortSt}(hl:cZ!)(hn:fa_)(Y:1<=n)(b:bW!)(h:oP_):
  wpS l! A E s (countRun' 0 n) Q st:=by
 rw[countRun0_eq];refine KN (c1t hl hn (IH 1) Y b (λi j h3 h4=>by rw[fb!];exact LU _) λm h3 h4 u X9=>?_);by_cases e:m=n
 .simp only[LP,e,KZ];rw[<-e];exact MN AL!
 .have bd:=X9.resolve_left e;simp only[LP,e,KC];by_cases hg:m>1
  .simp only[hg,KZ];refine KN (b1s hl b a! a! ?_);by_cases p:rk r A! 0<rk r A! jO!
   .rw[IN p];exact MN AL!
   .rw[IG p];have tu:∀k,0<=k->k<m->rk r A! k=rk r A! jO!:=λk _ hk=>by
     have a1:=u 0 k a! hk;have a2:=u k jO! a! a!;omega
    have hz:m<=(A!).size:=by rw[b.sz];omega
    refine KN (wpS_reverse (b1r hl hn a! (b.put jQ!) AL_ h));rw[mR hz tu,mR hz tu];obtain h7|h7:=LM j m
    .rw[tu i a! a!,tu j a! h7];exact LU _
    .have:j=m:=by omega
     subst this;obtain h8|h8:=LM i j
     .rw[tu i a! h8];omega
     .show"#."
  .simp only[hg,KC];have:m=1:=by omega
   subst this;refine b1r hl hn a! b AL_ h;obtain h8|h8:=LM i j
   .rw[show i=0 by omega,show j=1 by omega];exact RZ bd
   .show"#."
def c4l{lo hi k x n:Nat}(h:¬lo>=hi)(g2:hi<=k)(g3:hi - lo<=k - x)(hk:k<n):lo<=bd! / 2/\bd! / 2<hi/\bd! / 2<k/\bd! / 2<n/\bd! / 2 - lo<=k - (x+1)/\hi - (bd! / 2+1)<=k - (x+1):=by
 have e1:lo<=bd! / 2:=by omega
 have e2:bd! / 2<hi:=by omega
 generalize bd! / 2=m at *;have e3:=IQ e2 g2;exact⟨e1,e2,e3,RY e3 hk,Nat.le_sub_one_of_lt (IQ (Nat.sub_lt_sub_right e1 e2) g3),Nat.le_sub_one_of_lt (IQ (Nat.sub_lt_sub_left (Nat.not_le.mp h) (Nat.lt_succ_of_le e1)) g3)⟩
def c6t{st:SortSt}(hl:cZ!)(hn:fa_)(hk:k0<=n)(b:bW!)(hu:Up r A! k0)(h:∀ac,SB kd a0 ac->Up r w! n->Q true ac):
  wpS l! A E s (binarySort' 0 n k0) Q st:=by
 rw[binarySort'_eq];simp only[RX];refine KN (wpS_mono (RC (I:=λk c ac=>c=gw!/\SB kd a0 ac/\Up r w! (min k n)) (Q:=λc ac=>c=gw!/\SB kd a0 ac/\Up r w! n) ?_ ?_ ⟨rfl,b,AJ!⟩) ?_)
 .rintro k c ac h2 h3 ⟨rfl,b',u⟩;rw[show min k n=k by omega]at u;have j9:k<a0.size:=by omega
  refine KN (wpS_mono (RC (I:=λx c bx=>bx=ac/\∃lo hi,c=AO_/\lo<=hi/\hi<=k/\hi - lo<=k - x/\AP!/\∀i,hi<=i->i<k->rk r w! k<rk r w! i)
   (Q:=λc bx=>bx=ac/\∃lo hi,c=AO_/\lo<=k/\AP!/\∀i,lo<=i->i<k->rk r w! k<rk r w! i) ?_ ?_ ⟨rfl,0,k,rfl,p_,p_,p_,λi hi=>by omega,λi h4 h5=>by omega⟩) ?_)
  .rintro x c bx h4 h5 ⟨rfl,lo,hi,rfl,g1,g2,g3,g4,g5⟩;dsimp only;by_cases xm:lo>=hi
   .rw[IB xm];have:lo=hi:=by omega
    subst this;exact MN AP_
   .rw[IF xm];obtain⟨m1,m2,m3,m4,m5,m6⟩:=c4l xm g2 g3 j9;refine KN (b1s hl b' j9 m4 ?_);by_cases p:rk r oS_ k<rk r oS_ oT!
    .rw[IN p];exact MN ⟨rfl,lo,bd! / 2,rfl,m1,NN m3,m5,g4,λi h6 h7=>Int.lt_of_lt_of_le p (u oT! i h6 h7)⟩
    .rw[IG p];exact MN ⟨rfl,bd! / 2+1,hi,rfl,m2,g2,m6,λi h6=>Int.le_trans (u i oT! (Nat.le_of_lt_succ h6) m3) (Int.not_lt.mp p),g5⟩
  .rintro c bx ⟨rfl,lo,hi,rfl,g1,g2,g3,g4,g5⟩;have:lo=hi:=by omega
   subst this;exact AP_
  .rintro c bx ⟨rfl,lo,hi,rfl,g1,g4,g5⟩;rw[moveDown'_eq];refine KN (wpS_modify (MN ⟨rfl,b'.put (bubble_perm _ _ _),λi j h6 h7=>?_⟩));rw[show min J_ n=k+1 by omega]at h7;have sx:k<(oS_).size:=by rw[b'.sz];exact j9
   rw[b1u sx a!,b1u sx a!,show k - (k - lo)=lo by omega];have n1:=g4;have n2:=g5;by_cases ei:i=lo
   .rw[IB ei];by_cases ej:j=lo
    .rw[IB ej];exact LU _
    .rw[IF ej];by_cases fj:lo<j/\j<=k
     .rw[IB fj];exact RZ (n2 dT_ a! a!)
     .omega
   .rw[IF ei];by_cases fi:lo<i/\i<=k
    .rw[IB fi,dq!,aj!];exact u (i - 1) dT_ a! a!
    .rw[IF fi];by_cases ej:j=lo
     .rw[IB ej];exact n1 i a!
     .rw[IF ej];by_cases fj:lo<j/\j<=k
      .rw[IB fj];exact u i dT_ a! a!
      .rw[IF fj];exact u i j h6 a!
 .rintro c ac ⟨e,b',u⟩;rw[show min (max (max k0 1) n) n=n by omega]at u;exact⟨e,b',u⟩
 .by_cases h0:k0=0
  .show"#."
  .exact hu i j h3 a!
 .rintro c ac ⟨rfl,b',u⟩;exact MN (h ac b' u)
def b1q{st:SortSt}(hl:cZ!)(b:bW!)(h2:2<=a0.size)(nz:a0.size<64)
  (h:∀ac,(w!).Perm a0->failedOf ac=none->Up r w! a0.size->Q () ac):wpS l! A E s sortRuns' Q st:=by
 rw[sortRuns'_eq];refine KN fa!;have YA:minRun' a0.size a0.size 0=a0.size:=by
  have:∀f,minRun' (f+1) a0.size 0=a0.size:=λf=>by rw[minRun'_succ,IB nz];rfl
  have q:=this (a0.size - 1);rwa[show a0.size - 1+1=a0.size by omega]at q
 dsimp only;simp only[b.sz,YA];have fin:∀{ac:SortSt},SB kd a0 ac->Up r w! a0.size->(arrOf jS!).Perm a0/\failedOf jS!=none/\pendingOf jS!=#[jR_]/\Up r (arrOf jS!) a0.size:=
  λ{ac} b' u=>⟨b'.pm,b'.fl,by show(AR_).push _=_;rw[b'.pd];rfl,u⟩
 refine KN (wpS_mono (RC (I:=λx c ac=>(x=0/\c=(none,0)/\SB kd a0 ac)\/(1<=x/\c=AS!/\(w!).Perm a0/\failedOf ac=none/\pendingOf ac=#[jR_]/\Up r w! a0.size))
  (Q:=λc ac=>c=AS!/\(w!).Perm a0/\failedOf ac=none/\pendingOf ac=#[jR_]/\Up r w! a0.size) ?_ ?_ (.inl ⟨rfl,rfl,b⟩)) ?_)
 .rintro x c ac _ hx (⟨rfl,rfl,b'⟩|⟨_,rfl,d⟩)
  .dsimp only;rw[dq!];simp only[Nat.sub_zero,Nat.min_self,RX];refine KN (b8m hl p! a! b' λm bx b2 g1 g2 u2=>?_);by_cases bd:m<a0.size
   .simp only[bd,KZ];refine KN (wpS_lift (LJ ⟨rfl,KN (c6t hl p! g2 b2 u2 λux b3 u3=>?_)⟩));simp only[PL,JK,KC];refine KN fa!;rw[show(pendingOf ux).back?=none by rw[b3.pd];rfl];exact KN (wpS_modify (MN (.inr ⟨IH 1,rfl,fin b3 u3⟩)))
   .simp only[bd,KC];have:m=a0.size:=by omega
    subst this;refine KN fa!;rw[show(pendingOf bx).back?=none by rw[b2.pd];rfl];exact KN (wpS_modify (MN (.inr ⟨IH 1,rfl,fin b2 u2⟩)))
  .dsimp only;rw[IB p!];exact MN ⟨rfl,d⟩
 .rintro c ac (⟨hx,_⟩|⟨_,e,d⟩)
  .omega
  .exact⟨e,d⟩
 .rintro c ac ⟨rfl,d1,d2,d3,d4⟩;refine KN (wpS_mono (RC (I:=λ_ c bx=>bx=ac/\c=gw!) ?_ AT! aH_) ?_)
  .rintro x c bx _ _ ⟨rfl,rfl⟩;refine KN fa!;rw[IB (by rw[d3];exact IH 1)];exact MN aH_
  .rintro c bx ⟨rfl,rfl⟩;exact MN (h _ d1 d2 d4)
end
abbrev Zr:Bool->SortKind:=sortPriv%PySem.Builtin.KeyKind.tuples
section
variable{prog:xc!}{w:wZ!}{A:wX!}{E:Value->Shared->Prop}{s:xR!}
def Fs(h:Heap)(v:wY!)(a b:Int):Prop:=∃(p:qT!) (o:Obj) (n:Nat) (t u:Tok),v=.ref p/\h.get? p=some o/\o.cls=.type "tuple"/\o.data=.seq #[.int a t,.int b u] n
def CN(a b c d:Int):Bool:=if a=c then decide (b<d)else decide (a<c)
def uS(h:Q (decide (a<b)) s):wpAny l! A (oneLt' f fO! (.int b u)) Q E s:=by
 cases f with
 |true=>exact oneLt_int h
 |false=>
  rw[oneLt'_eq];rw[IF JB];refine HP (show wpAny l! A (compareOp .Lt fO! (.int b u)) _ E s from PyProof.Rows.lt_int ?_);exact JW h
def sJ(hx:Fs s.heap x a b)(hy:Fs s.heap y c d)(h:Q (CN a b c d) s):wpAny l! A (keyLt' (Zr f) x y) Q E s:=by
 obtain⟨p,o,n,t,u,rfl,Y,_,h2⟩:=hx;obtain⟨p',o',n',t',u',rfl,j6,_,l9⟩:=hy;refine HP (RD Y h2 (HP (RD j6 l9 hB!)));show wpAny l! A (forIn [((Value.int a t,Value.int c t'),0),((Value.int b u,Value.int d u'),1)] _ _) _ E s;rw[NU];refine HP (HP (SI a t c t' _ _ _ _ ?_));unfold CN at h;by_cases e:a=c
 .rw[IB e]at h;have e1:(a==c)=true:=by simpa using e
  rw[e1];dsimp only[_root_.Bool.not_true,_root_.Bool.false_eq_true,_root_.if_false];refine HS ?_;dsimp only;rw[NU];refine HP (HP (SI b u d u' _ _ _ _ ?_));by_cases e2:b=d
  .have e3:(b==d)=true:=by simpa using e2
   rw[e3];dsimp only[_root_.Bool.not_true,_root_.Bool.false_eq_true,_root_.if_false];refine HS ?_;dsimp only;rw[RA];refine HS Q!;have e4:decide (b<d)=false:=by rw[e2];simp
   rw[e4]at h;simpa using h
  .have e3:(b==d)=false:=by simpa using e2
   rw[e3];show"!o"
 .rw[IF e]at h;have e1:(a==c)=false:=by simpa using e
  rw[e1];show"!o"
def a5g:∀(xs:R_),AV_->(∀ys,Paired F xs ys->Q ys.toArray s)->wpAny l! A (xs.toArray.mapM f) Q E s:=by
 intro xs hf hq;rw[Array.mapM_eq_mapM_toList];have j7:∀(xs:R_) (R:List β->Shared->Prop),AV_->(∀ys,Paired F xs ys->R ys s)->wpAny l! A (xs.mapM f) R E s:=by
  intro xs
  induction xs with
  |nil=>
   intro R _ h;rw[List.mapM_nil];exact HS (h [] .nil)
  |cons x xs ih=>
   intro R Y h2;rw[List.mapM_cons];refine HP (Y x HV _ λy hy=>HP (ih _ (λz hz=>Y z jT!) λys qi=>HS (h2 _ (.cons hy qi))))
 have:(List.toArray<$>xs.toArray.toList.mapM f:Sem (Array β))=(xs.toArray.toList.mapM f>>=λl=>pure l.toArray):=by rw[map_eq_pure_bind]
 rw[this];exact HP (j7 _ _ (by simpa using hf) λys qi=>HS (hq ys (by simpa using qi)))
def a1j(h:∀v∈vs,∃a b,Fs s.heap v a b)(h0:vs≠[])(hq:Q (Zr true) s):wpAny l! A (keyKind' b6_) Q E s:=by
 refine HP (a5g (F:=λ_ y=>∃a t,y=some jT_) vs AW_ λys qi=>?_)
 .obtain⟨a,b,p,o,n,t,u,rfl,Y,h2,h3⟩:=h v hv;refine HP (RG mU! ?_);rw[IF a_];exact HP (RD Y h3 (HS (hR _ ⟨a,t,rfl⟩)))
 .have jy:∀y∈ys,∃a t,y=some jT_:=by
   have j7:∀{l:l_} {m:List ue_},Paired (λ_ y=>∃a t,y=some jT_) l m->∀y∈m,∃a t,y=some jT_:=by
    intro l m hp
    induction hp with
    |nil=>intro y hy;exact(HY hy).elim
    |cons q _ ih=>
     intro y hy;obtain rfl|hy:=HW.mp hy
     .exact q
     .exact ih y hy
   exact j7 qi
  have a9:ys≠[]:=λz=>by subst z;cases qi;exact h0 rfl
  rw[IB (by rw[List.all_toArray,MU];intro y hy;obtain⟨a,t,rfl⟩:=jy y hy;rfl)];refine HP eR!;have hints:∀v∈(AX_).toList,∃a t,v=Value.int a t:=λv hv=>by
   simp only[List.filterMap_toArray,NJ,id]at hv;obtain⟨y,hy,e⟩:=hv;obtain⟨a,t,e2⟩:=jy y hy;rw[e2]at e;exact⟨a,t,(JO e).symm⟩
  have hz:(AX_).toList≠[]:=λz=>by
   cases ys with
   |nil=>exact a9 rfl
   |cons y r=>
    obtain⟨a,t,rfl⟩:=jy y HV;simp at z
  generalize hZ:ys.toArray.filterMap id=am at hints hz ⊢;obtain⟨zs⟩:=am;refine HP ?_;refine HP (a5g (F:=λ_ y=>y=Value.type "int") zs AW_ λts TD=>?_)
  .obtain⟨a,t,rfl⟩:=hints v hV_;exact RG (typeIs_int s a t) (hR _ rfl)
  .have TH:∀t∈ts,t=Value.type "int":=by
    have j7:∀{l m:l_},Paired (λ_ y=>y=Value.type "int") l m->∀y∈m,y=Value.type "int":=by
     intro l m hp
     induction hp with
     |nil=>intro y hy;exact(HY hy).elim
     |cons q _ ih=>
      intro y hy;obtain rfl|hy:=HW.mp hy
      .exact q
      .exact ih y hy
    exact j7 TD
   cases ts with
   |nil=>cases TD;exact absurd rfl hz
   |cons t r=>
    have ht:=TH t HV;subst ht;have e1:((AY!).toArray)[0]?=some (Value.type "int"):=rfl;rw[e1];have e2:((AY!).toArray.all λx=>x==Value.type "int")=true:=by
     rw[List.all_toArray,MU];intro y hy;rw[TH y hy];rfl
    dsimp only;rw[IB e2];exact HS (HS hq)
end
def Ik(p q:oW_):Bool:=CN p.1 p.2 q.1 q.2
def nH:Ik p q=true↔(p.1<q.1\/(p.1=q.1/\p.2<q.2)):=by
 unfold Ik CN;split
 .rename_i h;rw[IZ];omega
 .rename_i h;rw[IZ];omega
def a7b(p:oW_):Ik p p=false:=by
 cases h:Ik p p with
 |false=>rfl
 |true=>have:=nH.mp h;omega
def iV(Y:Ik p q=true)(h2:Ik q r=true):Ik p r=true:=by rw[nH]at Y h2 ⊢;omega
def xW(h:p≠q)(Y:Ik p q=false):Ik q p=true:=by
 have j6:¬Ik p q=true:=by rw[Y];decide
 rw[nH]at j6 ⊢;have:¬(p.1=q.1/\p.2=q.2):=λz=>h (Prod.ext z.1 z.2);omega
section
variable{α:Type}(kf:α->Int×Int)
def Oj(x:α):List α->List α
 |[]=>[x]
 |y::r=>if Ik (kf x) (kf y)then x::y::r else y::Oj x r
def Hh:List α->List α
 |[]=>[]
 |x::r=>Oj kf x (Hh r)
def Mj(l:R_):Prop:=l.Pairwise λx y=>Ik (kf x) (kf y)=true
variable {kf}
def pF(x:α):∀l:List α,(Oj kf x l).Perm (x::l)
 |[]=>PD _
 |y::r=>by
  unfold Oj;split
  .exact PD _
  .exact((pF x r).cons y).trans (List.Perm.swap x y r)
def aV:∀l:List α,(Hh kf l).Perm l
 |[]=>PD _
 |x::r=>(pF x _).trans ((aV r).cons x)
def sR:∀{l:R_},Mj kf l->(∀y∈l,kf x≠kf y)->Mj kf (Oj kf x l)
 |[],_,_=>List.pairwise_singleton _ _
 |y::r,h,hn=>by
  unfold Oj;unfold Mj at h;rw[KR]at h;split
  .rename_i bd;refine KR.mpr ⟨oY!,KR.mpr h⟩;obtain rfl|hz:=HW.mp hz
   .exact bd
   .exact iV bd (h.1 z hz)
  .rename_i bd;refine KR.mpr ⟨oY!,sR h.2 λz hz=>hn z jT!⟩;obtain rfl|hz:=HW.mp ((pF x r).mem_iff.mp hz)
   .exact xW (hn y HV) (by simpa using bd)
   .exact h.1 z hz
def fI:∀{l:R_},(l.map kf).Nodup->Mj kf (Hh kf l)
 |[],_=>ib!
 |x::r,h=>by
  rw[IJ,IV]at h;refine sR (fI h.2) λy hy e=>h.1 ?_;rw[e];exact IU ((aV r).mem_iff.mp hy)
def iS:∀{l m:R_},Mj kf l->Mj kf m->l.Perm m->l=m
 |[],m,_,_,h=>(List.Perm.nil_eq h)
 |x::l,m,Y,h2,h=>by
  cases m with
  |nil=>exact absurd h.length_eq nofun
  |cons y m=>
   have e:x=y:=by
    obtain e|hx:=HW.mp (h.mem_iff.mp HV)
    .exact e
    .obtain e|hy:=HW.mp (h.symm.mem_iff.mp HV)
     .exact e.symm
     .have a1:=(KR.mp Y).1 y hy;have a2:=(KR.mp h2).1 x hx;have:=iV a1 a2;rw[a7b]at this;exact Bool.noConfusion this
   subst e;rw[iS (KR.mp Y).2 (KR.mp h2).2 ((List.perm_cons x).mp h)]
def b2s(h:l.Perm m):∀{L:R_},m=L.map f->∃L':List α,L'.Perm L/\L'.map f=l:=by
 induction h with
 |nil=>intro L e;exact⟨[],by rw[List.map_eq_nil_iff.mp e.symm],rfl⟩
 |cons x _ ih=>
  intro L e;cases L with
  |nil=>cases e
  |cons y L=>
   injection e with e1 e2
   obtain⟨L',Y,h2⟩:=ih e2;exact⟨y::L',Y.cons y,by rw[IJ,h2,e1]⟩
 |swap x y l=>
  intro L e
  match L,e with
  |a::b::L,e=>
   injection e with e1 e2
   injection e2 with e3 e4
   exact⟨b::a::L,List.Perm.swap a b L,by rw[IJ,IJ,<-e1,<-e3,<-e4]⟩
 |trans _ _ YB YC=>
  intro L e;obtain⟨L2,Y,h2⟩:=YC e;obtain⟨L1,h3,h4⟩:=YB h2.symm;exact⟨L1,h3.trans Y,h4⟩
def Iv(ks:oY_)(k:oW_):Int:=((ks.filter λx=>Ik x k).length:Nat)
def oJ(hp:p∈ks)(h:Ik p q=true):Iv ks p<Iv ks q:=by
 unfold Iv;have j7:∀l:List gR_,(A1!).length<=(A1_).length:=by
  intro l
  induction l with
  |nil=>simp
  |cons x l ih=>
   simp only[SC];by_cases hx:Ik x p=true
   .simp only[hx,iV hx h,KZ,IW];omega
   .by_cases hy:Ik x q=true
    .simp only[hx,hy,KZ,IW];show"#-";omega
    .simp only[hx,hy];show"#-";exact ih
 have YD:∀l:List gR_,p∈l->(A1!).length<(A1_).length:=by
  intro l hl
  induction l with
  |nil=>cases hl
  |cons x l ih=>
   obtain e|hl:=HW.mp hl
   .subst e;have:=j7 l;simp only[SC,a7b,h,KZ,IW,JK,KC];omega
   .have:=ih hl;simp only[SC];by_cases hx:Ik x p=true
    .simp only[hx,iV hx h,KZ,IW];omega
    .by_cases hy:Ik x q=true
     .simp only[hx,hy,KZ,IW];show"#-";omega
     .simp only[hx,hy];show"#-";exact this
 have:=YD ks hp;omega
def a5y(hp:p∈ks)(hq:q∈ks):decide (Iv ks p<Iv ks q)=Ik p q:=by
 cases h:Ik p q with
 |true=>exact IN (oJ hp h)
 |false=>
  refine IG λz=>?_;by_cases e:p=q
  .subst e;omega
  .have:=oJ hq (xW e h);omega
end
section
open Classical
variable{h:Heap}
def Fs.inj(x:Fs h v a b)(y:Fs h v c d):dU_=(c,d):=by
 obtain⟨p,o,n,t,u,rfl,Y,_,h2⟩:=x;obtain⟨p',o',n',t',u',e,j6,_,l9⟩:=y;cases e;rw[Y]at j6;rcases j6;rw[h2]at l9;injection l9 with h3 _
 have:=congrArg Array.toList h3;simp at this;rw[this.1.1,this.2.1]
def Lg(h:Heap)(v:wY!):Int×Int:=if x:∃a b,Fs h v a b then(x.choose,x.choose_spec.choose)else(0,0)
def nM(x:Fs h v a b):Lg h v=dU_:=by have z:∃a b,Fs h v a b:=⟨a,b,x⟩;unfold Lg;rw[dif_pos z];exact z.choose_spec.choose_spec.inj x
def pO(ha:gP_=L.map c_)(hk:∀q∈L,Fs h q.1.1 (kf q.2).1 (kf q.2).2)(nd:(oZ!).Nodup)(hp:tz.Perm a0)
  (hu:Up A3! tz a0.size):∃L':List (Keyed×D),L'.Perm L/\tz.toList=L'.map c_/\L'.map S_=Hh kf oZ_:=by
 have b7:tz.toList.Perm gP_:=Array.perm_iff_toList_perm.mp hp;obtain⟨L',Y,h2⟩:=b2s b7 ha;refine⟨L',Y,h2.symm,iS ?_ (fI nd) ((Y.map _).trans (aV _).symm)⟩;have og:((L'.map S_).map kf).Nodup:=(((Y.map _).map _).nodup_iff).mpr nd;unfold Mj;rw[OE];intro i j hi hj TJ;have ez:i<gS!:=by simpa using hi
 have xo:j<gS!:=by simpa using hj
 have bu:a0.size=gS!:=by rw[<-LA,ha,IK,Y.length_eq]
 have TK:∀k (df:k<gS!),rk A3! tz k=Iv oZ! (kf L'[k].2):=λk df=>by
  unfold rk;have e:tz[k]?=some L'[k].1:=by
   rw[<-NW,<-h2,JL,IE df];rfl
  rw[e];show Iv _ (Lg h L'[k].1.1)=_;rw[nM (hk L'[k] A4_)]
 have jo:=hu i j (NN TJ) a!;rw[TK i ez,TK j xo]at jo;simp only[List.getElem_map];have mem:∀k (df:k<gS!),kf L'[k].2∈(oZ_).map kf:=λk df=>IU (IU A4_);have ne:kf L'[i].2≠kf L'[j].2:=λe=>by
  have q:=(List.getElem_inj (i:=i) (j:=j) (h₀:=by simpa using ez) (h₁:=by simpa using xo) og).mp cq!;omega
 cases bd:Ik (kf L'[i].2) (kf L'[j].2)with
 |true=>rfl
 |false=>
  have:=oJ (mem j xo) (xW ne bd);omega
end
def a5d(a v:wY!):argsOk "list.sort" A5_:=by unfold argsOk;kernel_rfl
def zL(a v:wY!):argsOk "sorted" A5_:=by unfold argsOk;kernel_rfl
section
variable{X:Cx}{J:List (Addr×Obj)}{Z:St}{G H:Hp}{s:xR!}{A:wX!}{E:Value->Shared->Prop}
def b8o(F:Eb X.prog X.w X.K X.mg X.base Ng k f fd ps sp)(hr:fH!)(hb:iA_)(e0:Os X.prog X.w X.K X.mg X.base A X.stack s H)
  (I:b_)(r:d1_)(h:sp vs H Q E0):wpAny d_ A sm_ aG! E s:=by
 have hl:(us++[]).length=P_:=by rw[JC,<-r.length];exact F.len _ _ _ _ h
 have fq:=hb s us I.kIn hl;rw[JC]at fq;refine wpAny_call (QN (F.run A X.stack s H cF_ us vs Q E0 hr e0 fq r h) λr s' hq=>?_);cases r with
 |error e=>exact hq.elim
 |ok fl=>
  cases fl with
  |ret u=>exact I.after hq
  |next=>exact False.elim hq
  |brk=>exact False.elim hq
  |cont=>exact False.elim hq
def Ka:D->Option gR_
 |.tup [.int a,.int b]=>some dU_
 |_=>none
def a0p(I:b_)(sub:E!)(r:bT!)(e:Ka d=some dU_):Fs s.heap u a b:=by
 unfold Ka at e;show"!8"
 .cases e;obtain⟨v,r,ru⟩:=r;show"!Y";subst ru;show"!3";obtain rfl:=aU r1;obtain rfl:=aU r2;show"#)";obtain⟨x,y,rfl,⟨t,rfl⟩,⟨u,rfl⟩⟩:=zR rv;exact⟨p,o,n,t,u,rfl,Y,h2,h3⟩
 .rcases e
def Km(g:bP_):List D->Option (List gR_)
 |[]=>some []
 |d::r=>(g [d]).bind λx=>(Ka x).bind λk=>(Km g r).map (k::·)
def c6u(I:Inv X (J++[fd_,(c,oc)]) Z H s)(hc:Eo X J H c)(ja:a≠c)(kp:∀b o,b≠c->s.heap.get? b=some o->h'.get? b=some o)(ho:h'.get? c=some xq)(hd:∀v,xq.data≠.cell v):
  Inv X (J++[fd_,(c,xq)]) Z H {s with heap:=h',toks:=t'}:=by
 have I1:Inv X o2! Z H s:=I.pins_of λp hp=>I.pin p (HX _ (by
  obtain z|z:=IM.mp hp
  .exact IP _ z
  .exact HX _ (by simp at z;simp[z])))
 have kg:∀b∈[c],Eo X o2! H b:=λb hb=>by
  have e:b=c:=by simpa using hb
  subst e;obtain⟨f0,f1,f2,f3,f4,f5⟩:=hc;refine⟨f0,f1,f2,f3,f4,c5_⟩;obtain z|z:=IM.mp hp
  .exact f5 p hb_
  .obtain z|z:=IM.mp z
   .exact f5 p hr_
   .have:p=fd_:=by simpa using z
    rw[this];exact ja
 have I2:Inv X o2! Z H {s with heap:=h',toks:=t'}:=gH I1 kg λb o hb e=>kp b o fx! e;refine I2.pins_of λp hp=>?_;obtain z|z:=IM.mp hp
 .exact I2.pin p (HX _ hb_)
 .obtain z|z:=HW.mp z
  .subst z;exact I2.pin _ fe!
  .have:p=(c,xq):=by simpa using z
   subst this;exact⟨ho,hc.1,hc.2.1,hc.2.2.1,hd⟩
def vE(F:A7!)(hr:o2_)(hb:iA_)(lp:P_=1)(ja:a≠c)
  (o9:∀x (R:ForInStep PUnit->Shared->Prop) s,wpAny d_ X.A.in1.in1 (call W_ [x]) (λk s'=>wpAny d_ X.A.in1.in1 (Builtin.List.listUpdate c0! (·.push k)) (λ_ s2=>R (.yield ⟨⟩) s2) E s') E s->wpAny d_ X.A.in1.in1 (body x ⟨⟩) R E s):
  ∀{ds:d!} {us:l_} {kd:d!} {ku:l_} {n:Nat} {ks:oY_} {s:xR!} {G H:Hp},Inv X (J++[fd_,A8_]) Z H s->At G H->Paired c0_ ds us->Paired c0_ kd ku->Km g ds=some ks->
   (∀H':Hp,H' c=none->Eo X J H' c)->ku.length+g_<=1000->
   (∀s' H' G' qj t0 n',Inv X (J++[fd_,(c,seqObj "list" (ku++qj).toArray n')]) Z H' s'->Bn G H G' H'->Paired (By X.K G') (kd++t0) (ku++qj)->Paired o3! t0 ks->Q ⟨⟩ s')->
   wpAny d_ X.A.in1.in1 (forIn us ⟨⟩ body) Q E s
 |_,_,kd,ku,n,ks,s,G,H,I,sub,.nil,pk,e,st,hl,hq=>by
  rw[RA];rcases e;refine HS (hq s H G [] [] n ?_ aN! ?_ .nil)
  .rw[JC];exact I
  .rw[JC,JC];exact pk
 |d::ds,u::us,kd,ku,n,ks,s,G,H,I,sub,.cons r t,pk,e,st,hl,hq=>by
  show"!g";obtain⟨v,rv,ru⟩:=r;rw[NU];dsimp only[_root_.List.length_cons]at hl;refine HP (o9 u _ s (cZ (b8o (Q:=λv' H'=>∃G',Bn G H G' H'/\Ao X.K G' x v') F hr hb I.env0.in1.in1 I tD! ⟨lp.symm,G,[d],x,sub,Ak.cons rv Ak.nil,e1,λv' G' H' x' r'=>⟨G',x',r'⟩⟩) ?_));rintro kv s1 ⟨v1,H1,I1,YF,G1,x1,r1⟩;have pc:=I1.pin A8_ fe!;refine PR pc.1 rfl ?_ jW_ (by simp only[Array.size_push,HZ];rw[KA];omega);have e4:=OX pc.1 (·.push kv);have I2:=c6u (t':=s1.toks) I1 (st H1 pc.2.1) ja (λb o hb e=>(tq!).trans e) (by rw[e4,List.push_toArray]) uO!;refine vE F hr hb lp ja o9 I2 x1.sub (Paired.mapP t λ_ _ z=>z.mono x1.g) (lM (Paired.mapP pk λ_ _ z=>z.mono x1.g) (.cons ⟨v1,r1,YF⟩ .nil)) e3 st zu! λs' H' G' qj t0 n' I' x' p' k'=>?_;refine hq s' H' G' (kv::qj) (x::t0) n' ?_ (x1.trans x') ?_ (.cons e2 k')
  .rw[KH]at I';exact I'
  .rw[KH,KH]at p';exact p'
end
def Ho(g:bP_)(d:D):Int×Int:=((g [d]).bind Ka).getD (0,0)
def sI:∀{ds:d!} {ks:oY_},Km g ds=some ks->ks=ds.map fe_
 |[],_,e=>by rcases e;rfl
 |d::r,ks,e=>by
  show"!g";rw[IJ,<-sI e3];congr 1;unfold Ho;rw[e1];show q=(Ka x).getD _;rw[e2];rfl
section
variable{X:Cx}{J:List (Addr×Obj)}{Z:St}{G H:Hp}{s:xR!}{A:wX!}{E:Value->Shared->Prop}
def a1d{P:Value->D->Prop}{R:D->Value->Prop}(Y:Paired P ku ds):∀{us:l_},Paired R ds us->∀q∈(jX!).zip ds,P q.1.1 q.2/\R q.2 q.1.2:=by
 induction Y with
 |nil=>intro _ _ q h;simp at h
 |cons p t ih=>
  intro _ h2 q h;cases h2 with
  |cons r u=>
   rw[PX,PX]at h;obtain rfl|h:=HW.mp h
   .exact⟨p,r⟩
   .exact ih u q h
def iO:∀{l:List γ},(∀q∈l,R (f q) (h q))->Paired R ff! (l.map h)
 |[],_=>.nil
 |q::r,hh=>.cons (hh q (HV ..)) (iO λz hz=>hh z jT!)
def gZ(h:Paired R l m):ab_=m.length:=by
 induction h with
 |nil=>rfl
 |cons _ _ ih=>rw[IW,IW,ih]
def a0o(hp:∀d u a b,By X.K G d u->Ka d=some dU_->Fs h u a b)(Y:Ba_):∀{ds:d!},Paired o3! kd (ds.map kf)->Paired (λv d=>Fs h v (kf d).1 (kf d).2) ku ds:=by
 induction Y with
 |nil=>intro ds h;cases ds with|nil=>exact .nil|cons=>cases h
 |cons r t ih=>intro ds h;cases ds with|nil=>cases h|cons=>cases h with|cons k u=>exact .cons (hp _ _ _ _ r k) (ih u)
def c6p{st:SortSt}{us':l_}{ku:l_}(xr:(A!).map S_=ne!)(hz:us'.length<64)(SW:ku.length<64)(hf:failedOf st=none)(ja:a≠c)
  (f9:o5_)(kg:Bc!)(I:Bc_)
  (hP:∀s' n',Inv X J Z H s'->s'.heap.get? a=some gS_->P gT! s'):wpAny d_ A Bd_ P E s:=by
 have pa:=I.pin jY! fe!;have pc:=I.pin Bb_ fe!;unfold ksk_tail;dsimp only;rw[xr];refine HP (PR pc.1 rfl ?_ jW_ bw!);refine HP (PK ?_);have ea:(s.heap.update c Be!).get? a=some o7!:=(JE _ _ (JF ja)).trans pa.1;refine HP (seqEpoch_at ea rfl ?_);show"#-";refine HP (PR ea rfl ?_ bw! jW_);rw[hf];simp only[RO,JK,KC];have I1:=I.unpinned;refine HS (hP _ _ (gH (wr:=[a,c]) I1 ha_ λb o hb q=>?_) (OX ea λ_=>ne!))
 .obtain rfl|hb:=HW.mp hb
  .exact f9 H pa.2.1
  .rw[jY_];exact kg H pc.2.1
 .have Y:b≠a:=λz=>hb (by rw[z];exact HV ..);have h2:b≠c:=λz=>hb (by rw[z];exact HR _ (HV ..));exact(JE _ _ (JF Y)).trans ((JE _ _ (JF h2)).trans q)
def c9n{ds:d!}(nz:g_<64)(nd:(Be_).Nodup)(ja:a≠c)
  (f9:o5_)(kg:Bc!)(I:Bc_)(sub:E!)
  (pu:o8!)(pk:Ba_)(kk:Paired o3! kd Be_)
  (hP:∀s' us' n',Inv X J Z H s'->Paired c0_ o8_ us'->s'.heap.get? a=some gS_->P gT! s'):wpAny d_ A (ksk_end a false us.toArray e1 c0! ku.toArray) P E s:=by
 have z:=a0o (λd u a b r q=>a0p I sub r q) pk kk;have l1:=(gZ pu).symm;have l2:=gZ z;have mem:=a1d z pu;have ic:(jZ_).toList=(j0!).map c_:=by
  rw[ksk_zip,Bf!]
 have hd:(j0!).map S_=ds:=List.map_snd_zip o9!;have fin:∀{L':o9_} {st:SortSt},L'.Perm j0!->(A!).toList=L'.map c_->L'.map S_=Hh fe_ ds->failedOf st=none->wpAny d_ A Bd_ P E s:=λ{L' st} Y h2 h3 h4=>by
  refine c6p (us':=L'.map (·.1.2)) ?_ (by rw[IK,Y.length_eq,KW,KW];omega) a! h4 ja f9 kg I λs' n' I' e'=>hP s' _ n' I' ?_ e'
  .apply Bf_;rw[Array.toList_map,h2,JZ];rfl
  .rw[<-h3];exact iO λq hq=>(mem q (Y.mem_iff.mp hq)).2
 unfold ksk_end;dsimp only;show"#-";by_cases h2:iN_<2
 .rw[IB h2,IB h2];refine HP Q!;rw[StateT.run_pure];show"##";refine fin (PD _) ic ?_ rfl;rw[hd];rw[HZ,l1]at h2
  match ds,h2 with
  |[],_=>rfl
  |[x],_=>rfl
  |_::_::r,h2=>simp at h2;omega
 .rw[IF h2,IF h2];rw[HZ]at h2;refine HP (a1j Bg! (λz=>by rw[z]at l2;simp at l2;omega) ?_)
  .show"!`"
  .have bn:(jZ_).size=g_:=by rw[<-LA,ic,IK,KW,KW];omega
   have hk:∀q∈(jX!).zip ds,Fs s.heap q.1.1 (pa!).1 (pa!).2:=λq hq=>(mem q hq).1;have og:(j0_).Nodup:=by rw[hd];exact nd
   refine HP (LB (b1q (Q:=λ_ ac=>(w!).Perm jZ_/\failedOf ac=none/\Up (λp=>Iv j0_ (Lg s.heap p.1)) w! (jZ_).size)
    (Bh!) Bi! Bi_ Bj! λac a1 a2 a3=>Bj_) ?_ λ_ _ e=>e)
   .rw[ic]at hx hy;obtain⟨p,hp,rfl⟩:=IY.mp hx;obtain⟨q,bf,rfl⟩:=IY.mp hy;refine sJ j1! j1_ ?_;have mm:∀p∈(jX!).zip ds,Ho g p.2∈(Bg_).map fe_:=λp hp=>IU (IU hp);have hh:decide (Iv j0_ (Lg s.heap p.1.1)<Iv j0_ (Lg s.heap q.1.1))=Ik (Ho g p.2) pa!:=by
     show"#4"
    have mf:=hq;rw[hh]at mf;exact mf
   .show"!I";exact fin b1 b2 Bk! a2
def c6o(F:A7!)(hr:o2_)(hb:iA_)(lp:P_=1)
  (I:b_)(sub:E!)(pu:o8!)(ha:Bk_)(ii:g3!)
  (f9:o5_)(ek:Km g ds=some ks)(nd:gv!)(nz:g_<64)
  (hP:∀s' H' G' us' n',Inv X J Z H' s'->Bn G H G' H'->Paired (By X.K G') o8_ us'->H' a=none->s'.heap.get? a=some gS_->P gT! s'):
  wpAny d_ X.A.in1.in1 (ksk_tree a W_ false) P E s:=by
 have l1:aj_=g_:=(gZ pu).symm;have YG:=sI ek;obtain⟨e1,t3⟩:∃e1,(s.heap.update a (Obj.mapSeq λ_=>(#[]:Array Value))).get? a=some (seqObj "list" #[] e1):=Bl!;unfold ksk_tree;refine HP Bl_;refine HP Bm!;refine HP Bm_;refine HP Bn!;refine HP pa_;refine JS ?_;have bn:(dW!).objs.size=i!+1:=by rw[size_push',Heap.size_update]
 have gb:(pb!).get? (dW!).objs.size=some c1!:=IL _ rfl;rw[bn]at gb ⊢;have ja:a≠i!+1:=JH (QI (IT ha));have kg:∀H':Hp,H' T!=none->Eo X J H' T!:=λH' q=>I.fpOk (NM _) q;have mh:(pb!).get? a=some o7!:=HU _ (HU _ t3);have I1:Inv X J Z H {s with heap:=(dW!).push c1!}:=
  gH I (λb hb=>by rw[jY_];exact f9 H ii) λb o hb q=>HU _ Bo_
 have fa:=f9 H ii;have fc:=kg H sr!;have I2:Inv X (J++[jY!,(i!+1,seqObj "list" (uM_).toArray 0)]) Z H {s with heap:=(dW!).push c1!}:=I1.pins_of λp hp=>by
  obtain z|z:=IM.mp hp
  .exact I1.pin p hr_
  .obtain rfl|z:=HW.mp z
   .exact⟨mh,ii,fa.2.1,fa.2.2.1,fY_⟩
   .rw[dW_];exact⟨gb,fc.1,fc.2.1,fc.2.2.1,fY_⟩
 generalize i!+1=c at *;unfold ksk_rest;refine HP eR!
 first
  |rw[List.forIn_toArray]
  |(rw[<-Array.forIn_toList];dsimp only[_root_.List.toList_toArray])
  |rw[<-Array.forIn_toList]
 refine HP (LB (vE (E:=uQ!) F hr hb lp ja (λx R s' hx=>?_) I2 sub pu .nil ek kg (by rw[MF];omega) λs' H' G' qj t0 n' I' x' p' k'=>?_) AT! λ_ _ z=>z.elim)
 .refine HP (OK (LB hx (λkv s2 hk=>?_) λ_ _ z=>z.elim));dsimp only;exact HP (LB hk (λ_ s3 z=>HS z) λ_ _ z=>z)
 .rw[LN]at I';rw[LN,LN]at p';have pc:=I'.pin (c,seqObj "list" qj.toArray n') fe!;have pa:=I'.pin jY! fe!;refine HP (RD pc.1 rfl ?_);rw[YG]at k' nd;exact c9n nz nd ja f9 kg I' x'.sub (Paired.mapP pu λ_ _ z=>z.mono x'.g) p' k' λs3 us' n3 I3 p3 e3=>hP s3 H' G' us' n3 I3 x' p3 pa.2.1 e3
def Zy(g:bP_)(ds:d!):Option aD!:=(Km g ds).bind λks=>if gv!/\g_<64 then some o8_ else none
def Tl(g:bP_)(fa:j!):Ae->Option D:=λρ=>(f4!).bind λd=>match d with
 |.lst ds=>(Zy g ds).map D.lst
 |_=>none
def jV{KF:zM!}:∀{ds:d!} {vs:r_} {us:l_},Ak KF G ds vs->Ar vs us->Paired fg! ds us
 |[],vs,us,r,p=>by obtain rfl:=cK r;cases p;exact .nil
 |d::ds,vs,us,r,p=>by
  obtain⟨v,t,rfl,r1,r2⟩:=bB r;cases p with
  |cons a b=>exact .cons ⟨v,r1,a⟩ (jV r2 b)
def pR{KF:zM!}(h:Paired fg! ds us):∃vs,Ak KF G ds vs/\Ar vs us:=by
 induction h with
 |nil=>exact⟨[],Ak.nil,.nil⟩
 |cons p _ ih=>
  obtain⟨v,r,p⟩:=p;obtain⟨vs,r2,p2⟩:=ih;exact⟨v::vs,Ak.cons r r2,.cons p p2⟩
def a5o(I0:Inv X J Z H0 s0)(I:b_)(sub:E!)(hs:Ag!<=a)(pu:Paired c0_ ds us')(hz:g_<=sizeLine)(ho:s.heap.get? a=some gS_)(hn:g3!)
  (hQ:∀v G' H',Bn G H G' H'->Ao X.K G' bm! v->Q v H'):EP X J Z Q D_ s:=by
 obtain⟨vs,r,p⟩:=pR pu;have f:=I0.fpOk hs hn;refine⟨dg!,upd H a dz!,I.track ho p (by rw[<-aG r];exact hz) hn ?_ f.2.1 f.2.2.2.2.1 f.2.2.2.2.2,rfl,hQ _ _ _ (Bn.laid sub hn) ?_⟩
 .exact JG I0.sz hs
 .exact Ao.lst (Eh.of bI) (r.mono (λb u e=>by rw[aS (λz=>by rw[z]at e;rw[sub _ _ e]at hn;rcases hn)];exact e))
def vZ:bootBuiltins "sorted"=some pc!:=by decide+kernel
def wH{us:l_}(hl:Bq!)(hz:aj_<64)
  (h:wpAny d_ X.A.in1.in1 (ksk_tree T! W_ false) (λfin s'=>∃v,fin=.done (.ret v)/\Q (.ref T!) s') E {s with heap:=(pc_).push pd!}):
  wpAny d_ X.A (call pc! [.ref l] [(Str.ofString "key",.ref f)]) Q E s:=by
 refine call_function_entry_kw kind_sorted plain_sorted entry_sorted (zL _ _) ?_;unfold Builtin.«sorted»;refine HP Q!;refine HP (collect_list hl ?_ Br_);refine HP (QV ?_ Br_);have bn:(pc_).objs.size=i!+1:=by
  rw[Heap.size_update,size_push']
 have kz:((pc_).push pd!).get? T!=some pd!:=by
  rw[<-bn];exact IL _ rfl
 rw[bn];refine HP (JS (wpAny_call_entry_kw slot_list_sort Bs! entry_list_sort ?body (a5d _ _)))
 case body=>
  rw[ksk_t1];refine LB h (λfin s' hq=>?_) λ_ _ z=>z;obtain⟨v,rfl,hq⟩:=hq;exact⟨v,rfl,HS ⟨_,rfl,hq⟩⟩
variable{own:List Nat}{fa:Ae->Option D}{e:Expr}{pos p p2 kp:Pos}{x:Str}
def b6p{ps:E_}(F:wN!)(hr:o2_)(YH:G_)(YI:Gl X "sorted")(xt:X.mg "sorted"=none)(ha:DE X own e fa)(lp:P_=1:=by rfl)(a8:y_:=by decide)
  (he:ge_:=by rfl):
  DE X own (.Call (.Name "sorted" p) [e] [⟨some "key",iF!,kp⟩] pos) (Tl g fa):=⟨by
 obtain⟨ag,fd,Y,h2,h3,h4⟩:=F;rintro J s Z H Q I ⟨G,ρ,d,er,e1,kq⟩;obtain⟨d0,e2,e1⟩:=HQ.mp e1;cases d0 with
 |lst ds=>
  obtain⟨pi,e3,rfl⟩:=IA.mp e1;obtain⟨ks,e4,e5⟩:=HQ.mp e3;have pz:gv!/\g_<64:=by
   by_cases z:gv!/\g_<64
   .exact z
   .rw[IF z]at e5;rcases e5
  rw[IB pz]at e5;rcases e5;have da:=(aI ha aO he).ok;refine LW (iE I YI xt vZ ?_ a_ a_);refine callWith_kw (cZ (da pos J s Z H _ I ⟨G,ρ,[.lst ds],er,by unfold Ad Ah;rw[e2];rfl,λvs G1 H1 x1 r1=>(⟨G1,x1,r1⟩:∃G1,Bn G H G1 H1/\Ak X.K G1 [.lst ds] vs)⟩) ?_) j3! j3! rfl rfl;rintro us s1 ⟨vs,H1,I1,r,G1,x1,r1⟩;refine kws_cons (gR I1 YH h3 Bt! a8);obtain⟨v,t,rfl,rv,rr⟩:=bB r1;obtain rfl:=cK rr;obtain⟨l,xs,rfl,sq,rx⟩:=bJ rv;obtain⟨its,hv,pl,hz⟩:=I1.list Bt_;cases r with
  |cons ra rb=>
   cases rb;subst ra;have lz:its.length=g_:=by rw[<-hv.length,<-aG rx]
   obtain⟨nn,sl,ho⟩:=lV pl;refine wH ⟨_,ho,rfl,nn,rfl⟩ (by rw[lz];exact pz.2) ?_;have keep:∀b o,s1.heap.get? b=some o->(Bv!).get? b=some o:=λb o q=>by
    have bd:=IT q;exact HU _ ((Heap.get?_update_ne _ _ _ _ (JH bd)).trans ((Heap.get?_push_ne _ _ _ (JH bd)).trans q))
   have bn:(Bu!).objs.size=x_+1:=by
    rw[Heap.size_update,size_push']
   have kz:(Bv!).get? (x_+1)=some Bu_:=by
    rw[<-bn];exact IL _ rfl
   have I2:=I1.kept (t':=s1.toks) keep;have cb:x_<=x_+1:=NM _;refine c6o Y hr h2 lp I2 x1.sub (jV rx hv) kz (I1.hok.fresh cb) (λH' q=>I1.fpOk cb q) e4 pz.1 pz.2 λs3 H3 G3 us3 n3 I3 x3 p3 YJ xu=>nr!;exact a5o I1 I3 x3.sub cb p3 Bv_ xu YJ λv G4 H4 x4 r4=>kq v G4 H4 (x1.trans (x3.trans x4)) r4
 |_=>cases e1⟩
end
def a5n(hd:z6!):W.KdlSrc P w "dict" d d es.length oz! (λh=>Ms h d es ep) where
 type:=λ_ hm=>hm.typeIs
 there:=λ_ hm=>by obtain⟨_,ho,_⟩:=hm;exact⟨IT ho,IT ho⟩
 keep:=λ_ _ hm hk=>hm.at λo e=>hk d X! o e
 notList:=by decide
 notTuple:=by decide
 hint:=λ_ _ _ _ hm hq=>W.kdl_hint_dict hm.typeIs hq
 iter:=λ_ _ hh hm=>⟨_,_,(λ_ _ hq=>b5e hd hm hq),a8j hh _ d (by obtain⟨_,ho,_⟩:=hm;exact JH g5!) es ep,⟨ea!,hm.at λo e=>HU _ e⟩⟩
section
variable{X:Cx}{J:List (Addr×Obj)}{Z:St}{G H:Hp}{s:xR!}{A:wX!}{E:Value->Shared->Prop}
def c4p{KF:zM!}(ok:gy_)(hi:Bw!):Paired fg! eW! j4!:=by
 have ea:j4!=es.map jc!:=by
  apply QK;intro i;rw[JL];by_cases h:i<aa!
  .have Y:i<σ.size:=by rw[hi.1];exact h
   show"!s"
  .rw[Bx!,JU a!];rfl
 rw[ea];have:∀{h1:r!} {es:cj_},Paired Bx_ h1 es->Paired fg! eW! fh_:=λ{h1 es} h=>by
  induction h with
  |nil=>exact .nil
  |cons a _ ih=>exact .cons a ih
 exact this By!
nonrec def kf2(d:D):Int×Int:=(Ka d).getD (0,0)
def Wa(ds:d!):Option aD!:=if pe!=true/\(pe_).Nodup/\g_<64 then some pf! else none
def c6n(I:b_)(sub:E!)(pu:o8!)(ha:Bk_)(ii:g3!)
  (f9:Eo X J H a)(ek:pe!=true)(nd:(pe_).Nodup)(nz:g_<64)
  (hP:∀s' us' n',Inv X J Z H s'->Paired c0_ pf! us'->s'.heap.get? a=some gS_->P gT! s'):
  wpAny d_ A (Builtin.«list.sort» l7!) P E s:=by
 have l1:=(gZ pu).symm;obtain⟨e1,t3⟩:∃e1,(s.heap.update a (Obj.mapSeq λ_=>(#[]:Array Value))).get? a=some (seqObj "list" #[] e1):=Bl!;rw[list_sort_plain];refine HP Bl_;refine HP Bm!;refine HP Bm_;refine HP Bn!;refine HP pa_;refine JS ?_;have I1:Inv X J Z H {s with heap:=(dW!).push c1!}:=
  gH I BA! λb o hb q=>HU _ Bo_
 have mh:(pb!).get? a=some o7!:=HU _ (HU _ t3);generalize (dW!).push c1!=h3 at I1 mh ⊢;have pk:∀d∈ds,Ka d=some j4_:=λd hd=>by
  have:=MU.mp ek d hd;unfold kf2;cases q:Ka d with
  |none=>rw[q]at this;exact Bool.noConfusion this
  |some z=>rfl
 have z:Paired BB! us ds:=by
  have gen:∀{ds:d!} {us:l_},Paired c0_ ds us->(∀d∈ds,Ka d=some j4_)->Paired BB! us ds:=λ{ds us} h=>by
   induction h with
   |nil=>exact λ_=>.nil
   |cons r _ ih=>exact λhk=>.cons (a0p I1 sub r (hk _ (HV ..))) (ih λd hd=>hk d (HR _ hd))
  exact gen pu pk
 have mem:=a1d z pu;have ic:(gT_).toList=(gU_).map c_:=by
  rw[ksk_zip,Bf!]
 have hd:(gU_).map S_=ds:=List.map_snd_zip o9!;have fin:∀{L':o9_} {st:SortSt},L'.Perm gU_->(A!).toList=L'.map c_->L'.map S_=Hh kf2 ds->failedOf st=none->
   P gT! {s with heap:=h3.update a (Obj.mapSeq λ_=>(A!).map S_)}:=λ{L' st} b1 b2 b3 b4=>by
  have xr:(A!).map S_=(BC!).toArray:=by
   apply Bf_;rw[Array.toList_map,b2,JZ];rfl
  rw[xr];refine hP _ _ _ (gH (s:={s with heap:=h3}) (wr:=[a]) (t':=s.toks) I1 BA! λb o hb q=>(Bo!).trans q) ?_ (OX mh λ_=>(BC!).toArray);rw[<-b3];exact iO λq hq=>(mem q (b1.mem_iff.mp hq)).2
 have TL:∀{L':o9_} {st:SortSt},L'.Perm gU_->(A!).toList=L'.map c_->((A!).map S_).size<=sizeLine+1:=λ{L' st} b1 b2=>by
  rw[Array.size_map,<-LA,b2,IK,b1.length_eq,KW,KW,KA];omega
 by_cases h2:iN_<2
 .rw[IB h2,IB h2];show"##";rw[StateT.run_pure];show"##";refine HP BC_;refine HP (PR mh rfl ?_ bw! (TL (L':=(gU!).zip ds) (PD _) ic));simp only[failedOf,RO,JK,KC];refine HS (fin (L':=(gU!).zip ds) (st:=SortSt.mk' general' gT_ #[] 7 none) (PD _) ic ?_ rfl);rw[hd];rw[HZ,l1]at h2
  match ds,h2 with
  |[],_=>rfl
  |[x],_=>rfl
  |_::_::r,h2=>simp at h2;omega
 .rw[IF h2,IF h2];rw[HZ]at h2;refine HP (a1j (vs:=us) Bg! (λz=>by rw[z]at h2;simp at h2) ?_)
  .show"!`"
  .have bn:(gT_).size=g_:=by rw[<-LA,ic,IK,KW,KW];omega
   have hk:∀q∈(gU!).zip ds,Fs h3 q.1.1 (pg!).1 (pg!).2:=λq hq=>(mem q hq).1;have og:(gV_).Nodup:=by rw[hd];exact nd
   refine HP (LB (b1q (kd:=Zr true) (a0:=us.toArray.zip dH!) (r:=λp=>Iv gV_ (Lg h3 p.1)) (Q:=λ_ ac=>(w!).Perm gT_/\failedOf ac=none/\Up (λp=>Iv gV_ (Lg h3 p.1)) w! (gT_).size)
    (Bh!) Bi! Bi_ Bj! λac a1 a2 a3=>Bj_) ?_ λ_ _ e=>e)
   .rw[ic]at hx hy;obtain⟨p,hp,rfl⟩:=IY.mp hx;obtain⟨q,bf,rfl⟩:=IY.mp hy;refine sJ j1! j1_ ?_;have mm:∀p∈(gU!).zip ds,kf2 p.2∈(BD!).map kf2:=λp hp=>IU (IU hp);have hh:decide BD_=Ik (kf2 p.2) pg!:=by
     show"#4"
    have mf:Q (decide BD_) {s with heap:=h3}:=hq;rw[hh]at mf;exact mf
   .show"!I";refine HP BC_;refine HP (PR mh rfl ?_ bw! (TL b1 b2));rw[a2];simp only[RO,JK,KC];exact HS (fin b1 b2 Bk! a2)
def Wg(f:List V->VK->Hp->Prop):List V->Hp->VK->Prop:=λxs H Q=>∃d es ep ys,xs=[.ref d]/\H d=some cX!/\Ar ys fh_/\f ys Q H
def pW{es:cj_}(hi:Bw!):j4!=es.map jc!:=by
 apply QK;intro i;rw[JL];by_cases h:i<aa!
 .have Y:i<σ.size:=by rw[hi.1];exact h
  show"!s"
 .rw[Bx!,JU a!];rfl
def uC(hc:aq_):Hv X dt_ BE!:=by
 intro J s Z H xs us Q I r ⟨d,es,ep,ys,e1,e2,hv,k⟩;subst e1;cases r with
 |cons ra rb=>
  cases rb;cases ra;obtain⟨⟨h3,h4,h5⟩,_⟩:=BE_;refine W.kdl_call (a5n h4) az! h3 gF! λh' tk σ c hk hs hi=>?_;have hn:H i!=none:=I.hok.fresh p!;have f:=I.fpOk (H':=H) p! hn;refine⟨cH!,upd H s.heap.objs.size bi_,?_,rfl,k _ hn⟩;have ia:=pW hi;refine(I.kept (t':=tk) hk).track (us:=j4!) (n:=c) (by rw[Array.toArray_toList];exact hs) (by rw[ia];exact hv) ?_ hn I.sz f.2.1 f.2.2.2.2.1 f.2.2.2.2.2;rw[hv.length,IK];exact cF h5
def Og(M:Mh):List D->Option D
 |[d]=>(Dm M d).map λq=>.lst gL_
 |_=>none
def vD{KF:zM!}(ok:gy_):∃ys,Ak KF G eW! ys/\Ar ys fh_:=by
 have:∀{h1:r!} {es:cj_},Paired Bx_ h1 es->Paired fg! eW! fh_:=λ{h1 es} h=>by
  induction h with
  |nil=>exact .nil
  |cons a _ ih=>exact .cons a ih
 exact pR (this By!)
def b6z{KF:zM!}:Pn P w KF BE! Og:=by
 show"!T";unfold Og at e;show"!8"
 .obtain⟨q,e1,rfl⟩:=IA.mp e;show"!=";exact⟨q.1,es,q.2.2,ys,rfl,Y,g2,λl hl=>k _ _ _ zd_ (cP ze! g1)⟩
 .cases e
def Wf(KF:zM!):List V->Hp->VK->Prop:=λxs H Q=>∃G ds,At G H/\(∃d es ep,xs=[.ref d]/\H d=some cX!/\Paired fg! ds fh_)/\pe!=true/\(pe_).Nodup/\g_<64/\∀v G' H',Bn G H G' H'->Ao KF G' (.lst pf!) v->Q v H'
def uB(hc:aq_):Hv X pc! (Wf X.K):=by
 rintro J s Z H xs us Q I r ⟨G,ds,sub,⟨d,es,ep,e1,e2,hv⟩,q1,q2,q3,k⟩;subst e1;cases r with
 |cons ra rb=>
  cases rb;subst ra;obtain⟨⟨h3,h4,h5⟩,_⟩:=BE_;have lz:aa!=g_:=by rw[gZ hv,IK]
  refine Calls.call_function_entry kind_sorted plain_sorted entry_sorted (args_sorted1 _) ?_;unfold Builtin.«sorted»;refine HP Q!;refine HP (W.kdu_collect (a5n h4) az! h3 gF! λh' tk σ hk hi=>?_);have ia:=pW hi;refine HP (QV ?_ (by rw[ia,IK,KA];omega));rw[ia];have I1:=I.kept (t':=tk) hk;have kz:(h'.push pg_).get? j5!=some pg_:=IL _ rfl;have I2:Inv X J Z H {s with heap:=h'.push pg_,toks:=tk}:=I1.kept λb u q=>HU _ q;have hn:=I1.hok.fresh p!;refine HP (JS (JR slot_list_sort Bs! entry_list_sort ?body (args_list_sort _)))
  case body=>
   refine c6n I2 sub hv kz hn (I1.fpOk p! hn) q1 q2 q3 λs3 us3 n3 I3 p3 xu=>⟨_,rfl,HS nr!⟩;exact a5o I1 I3 sub p! p3 Bv_ xu hn k
def Pw(M:Mh):List D->Option D
 |[d]=>(Dm M d).bind λq=>(Wa gL_).map D.lst
 |_=>none
def b6y{KF:zM!}:Pn P w KF (Wf KF) Pw:=by
 show"!T";unfold Pw at e;show"!8"
 .obtain⟨q,e1,e⟩:=HQ.mp e;obtain⟨l,e2,rfl⟩:=IA.mp e;unfold Wa at e2;split at e2
  .rename_i hz;rcases e2;show"!=";exact⟨G,_,sub,⟨q.1,es,q.2.2,rfl,Y,jV g1 g2⟩,hz.1,hz.2.1,hz.2.2,k⟩
  .rcases e2
 .rcases e
end
def Sz(M:Mh):D->D
 |.fn a=>match M a with|some (.lst xs)=>.lst xs|_=>.fn a
 |d=>d
def Ue(M:Mh)(x y:D):Option D:=Gw (Sz M x) (Sz M y)
def a5z{KF:zM!}(sub:E!)(m:bT_)(r:cc_):Ao KF H (Sz M d) v:=by
 cases d<;>first|exact r.mono sub|skip
 rename_i a;dsimp only[Sz];split
 .rename_i xs hM;show"!k";obtain rfl:=fJ r;exact Ao.lst (Eh.of Y) (h2.mono sub)
 .exact r.mono sub
protected def rJ{KF:zM!}:Xk P w KF (AC KF) Ue:=by
 show"![";unfold Ue Gw at e;show"!8"
 .show"!j";rcases e;exact⟨_,_,a5z sub m rx,a5z sub m ry,h.1.1,h.1.2,h.2,dE!⟩
 .rcases e
def Cu(KF:zM!)(C:qT!)(m qual:Str)(st:Stmt)(ps:E_):Prop:=∃ag fd,Xd KF m qual st ag fd/\Do KF fd ps []/\Vk KF C m ag
def Se(KF:zM!)(mg:L_)(x:Str)(C:qT!)(qual:Str)(st:Stmt)(ps:E_):Prop:=mg x=some P!/\∃ag fd,Xd KF "__init__" qual st ag fd/\Do KF fd ps []/\Mk KF C ag
section
variable{P:xc!}{w:wZ!}{KF:zM!}{mg:Str->Option Value}{base h:Heap}{x qual:Str}{st:Stmt}{N ps:List Str}{k:Nat}{ce:List Nat}{q:WS}{C:qT!}
def bO(d:nJ_)(S:cI!)
  (hb:∀{ag:qT!} {ah:wY!} {A:wX!} {outer:af!} {s:xR!} {H:Hp} {E:XK},Ai k i6_->N.Nodup->Rz (nK!).nox [] [] a8! q):
  Hl P w KF mg base J_ x ps jH_:=by
 obtain⟨ag,fd,F,B,m⟩:=d;exact⟨ag,fd,ph_,B,m,F.kp⟩
def cS(c:Sf KF C)(d:Cu KF C x qual st ps)(S:cI!)
  (hb:BG!):
  Dl P w KF mg base J_ C x ps jH_:=by
 obtain⟨ag,fd,F,B,m⟩:=d;exact⟨c,ag,fd,m,ph_,B⟩
def xH(d:Se KF mg x C qual st ps)(S:cI!)
  (hb:BG!):
  Vj P w KF mg base J_ x C ps jH_:=by
 obtain⟨m,ag,fd,F,B,mk⟩:=d;exact⟨m,ag,fd,mk,ph_,B⟩
def eB{kV:wY!}
  (a:W.findIn KF P! x=some dd_)(i:BG_)(l:KF.lookup f=some ui_)
  (c:BH!)(k:i7!)
  (b:uh_):Cu KF C x qual st ps:=
 ⟨f,_,i7_,nL!,⟨a,i,k⟩⟩
def b4e{kV:wY!}(m:mg x=some P!)
  (a:W.findIn KF P! "__init__"=some dd_)(i:BG_)(l:KF.lookup f=some ⟨oc,od,.func BH_,iq⟩)
  (c:BH!)(k:i7!)(mm:W.makesIn KF C=true)(kc:W.keepIn KF P!=true)
  (b:∀(kV bv pm:wY!) (an:dw_) (ah ct:wY!) (us:l_),aj_=P_->bindArgs BH_ cF_=pure cE_):Se KF mg x C qual st ps:=
 ⟨m,f,_,i7_,nL!,⟨mm,a,i,kc⟩⟩
def c0f(hd:AW KF mg x st [y])(S:Ei N [y] aU_)(f9:mg x=some eu_)
  (hb:∀(base:Heap) (ag:qT!) (ah:wY!) (A:wX!) (outer:af!) (s:xR!) (H:Hp) (E:XK),Ai k i6_->Rz (nK!).nox [] ce a8! q):
  ∃fd:FuncData,(∀(s:xR!) (u:wY!),BindsTo s fd ic! [(y,u)])/\∀base:Heap,KF.In base->base.Ns mainGlobals mg->Eb P w KF mg base Ng J_ fa fd [y] (Zz P w KF 1 (Bd N 1 q)):=by
 obtain⟨f,fd,F,B,m⟩:=hd;rw[f9]at m;cases m;exact⟨fd,λs u=>.of_eq (B [u] rfl),λbase _ _=>qI F S λah A outer s H E hr=>hb base _ ah A outer s H E hr⟩
def usS{p:fi!}(h:∀a us,aj_=n->p (a::us))(us:R_)(e:aj_=n+1):p us:=by
 cases us with
 |nil=>cases e
 |cons a us=>exact h a us (Nat.succ.inj e)
def lK{p:fi!}(h:∀a,p [a]):∀us:List α,aj_=1->p us:=usS λa us e=>by cases us with|nil=>exact h a|cons=>cases e
def iX{p:fi!}(h:∀a b,p bb_):∀us:List α,aj_=2->p us:=usS λa=>lK (h a)
def us3{p:fi!}(h:∀a b c,p dX!):∀us:List α,aj_=3->p us:=usS λa=>iX (h a)
def us4{p:fi!}(h:∀a b c d,p [a,b,c,d]):∀us:List α,aj_=4->p us:=usS λa=>us3 (h a)
def us5{p:fi!}(h:∀a b c d e,p [a,b,c,d,e]):∀us:List α,aj_=5->p us:=usS λa=>us4 (h a)
def M0:Mh:=λ_=>none
def c0e{ns:u!}(hS:Eh KF H a bL_)(hg:g pj_ M0 λd _=>d=.bl true):Zz P w KF 1 g aS! H ic_ λ_ _ _=>False:=
 ⟨rfl,H,pj_,M0,_,At.refl H,⟨λa c e=>by rcases e⟩,Ak.cons (Ao.lst hS (vK ns)) Ak.nil,hg,λd M' v G' H' r _ _ q=>by subst r;exact dA q⟩
end
end DL
namespace L2
open PySem PySem.Spec PyProof.Rows
def b8w
  (hN:a3!)(ez:ac_)(hx:a3_)
  (cj:cJ!)(cg:cJ_)(j4:∀y∈bN!,y.2=.local->scope.names.lookup y.1=some .local)
  (gr:fZ!)(cap:cI_)(calm:aq_)(ar:kY_)
  (hg:fZ_)(hi:uV!)(he:uV_)
  (hs:da!:=by intro _;rfl)
  (j5:swapsWith j6! (some kQ_) pos.line X.env=pure true:=by rfl)
  (hf:X.fn x=true\/X.env.scope.names.lookup x=some .local:=by first|exact .inl rfl|exact .inr rfl|assumption):
  PS X (.Assign qN_ j6! pos) (Zv uW! d7!):=by
 intro J s Z H D I h;show"#&"
 rw[exec_Assign_Name_used x k8 _ pos j5];refine HP (QU hB!);unfold evalThenUse;refine HP (wpAny_comprehension_free rfl hs cr.eq cj j4 uX!);obtain⟨it,fp,tn,af,H2,e,I2,T,bx,f2,hw⟩:=h2;subst e;refine vV cj cg cr cap calm (hg cl) (hi cl) (he cl) I2 T bx f2 hw ?_;rintro D' C us n ys H' s' I' eD rv ay nD hD hC jj nC ⟨m,hn⟩ fin;have eh:∀b,b<K_->b≠C/\b≠D':=λb hb=>uY!;have ph:∀x c,X.env.cells.lookup x=some c->c<K_:=λx c h=>by obtain⟨_,_,ho,_⟩:=I2.cell x c h;exact IT ho
 have rm:∀p∈X.pn++J,p.1<K_:=λp hp=>IT (uY_).1;have ID:=I'.track eD rv ay nD u1! (JF (f0!).2) u1_ λp hp=>(ik_).2;refine HP (QU ?_);refine wpAny_bindName (uG ID hN ez hx (v:=.ref D') rfl (?_) hf);rintro s3 I3 ⟨a,sb,ha⟩;have YK:a≠C:=by
  obtain rfl|ha:=ha
  .exact(f0!).1
  .exact(eh _ (ph _ _ ha)).1
 refine⟨m,hn.sameBut sb (JF YK),uX_⟩;have YL:upd H' D' bi_ C=none:=by rw[aS (JF jj)];exact nC
 have IC:Inv X J (Z.set i (some (.ref D'))) (upd H' D' bi_) {s3 with heap:=h',toks:=s3.toks}:=I3.turned uZ! YL (JF (f0!).1) uZ_ u0_ λp hp=>(ik_).1;exact HS (HS ⟨_,_,IC,fin D' nD⟩)
end L2
namespace DL
open PySem PySem.Spec PyProof.Rows L2
section
variable{X:Cx}{own:List Nat}{tg:Expr}{fi:WI}{ft:WT}
def lG{pos p2:Pos}
  (hN:a3!)(ez:ac_)(hx:a3_)
  (cj:cJ!)(cg:cJ_)(j4:∀y∈bN!,y.2=.local->scope.names.lookup y.1=some .local)
  (gr:fZ!)(cap:cI_)(sh:iq_)(calm:aq_)(ar:ov!)
  (hg:fZ_)(nj:m2_)(hi:zW_)(he:zX!)
  (b8:aM!:=by decide)(hs:da!:=by intro _;rfl)
  (j5:swapsWith j6! (some eJ_) pos.line X.env=pure true:=by rfl)
  (hf:X.fn x=true\/X.env.scope.names.lookup x=some .local:=by first|exact .inl rfl|exact .inr rfl|assumption):
  MS X own own (.Assign eJ! j6! pos) (An i zX_):=
 nA (b8w hN ez hx cj cg j4 gr cap calm ar.ok hg hi we! hs j5 hf) λM0 G0 F0 E Z G H ρ M R sr e k1 k2=>⟨G,ρ,M,_,sr.st,e,λds ck M1 af G1 H1 r1 x1 m1 gn=>by
  obtain⟨hb,r1⟩:=r1;have pe:=sr.st.grow x1 m1;refine a8d hb gn nj zY! r1 λjl ys M' G' H' r x m q _ p hp=>?_;exact k1 _ M' _ _ _ r ((((zG_).grow x m).grow (.ext gd!) (m.ext gd!)).set b8 (cP m3! q))⟩
end
end DL
namespace DL
open PySem PySem.Spec PyProof.Rows L2
section
variable{X:Cx}{own:List Nat}{a b:Expr}{pos q1 q2 q3 q4 q5:Pos}{s1 s2 s3:Str}{j1 j2 j3:Nat}{fa fb:Ae->Option D}
def oX{ba:n!}{rest:d2_}:Rz X own ba rest fU_:=⟨λM0 G0 F0 J s Z H E I ⟨G,ρ,M,R,sr,e,k1,k2⟩=>e.elim⟩
end
end DL
namespace XS
open PySem
abbrev frA(l:af!):List Addr:=l.filterMap (·.frame)
structure Kp(av fr:ax_)(h h':Heap):Prop where
 old:∀b o,b∉av->b∉fr->h.get? b=some o->h'.get? b=some o
 frm:∀b o,b∈fr->h.get? b=some o->∃sl,h'.get? b=some {o with slots:=sl}
 thr:∀b o,h.get? b=some o->∃o',h'.get? b=some o'
 sz:bD_<=j5!
def Kp.trans(a:BL_)(b:Kp av fr h2 h3):Kp av fr Y h3:=
 ⟨λx o l m e=>b.old x o l m BM!,λx o m e=>by
  obtain⟨sl,e1⟩:=a.frm x o m e;obtain⟨f7,e2⟩:=b.frm x _ m e1;exact⟨f7,e2⟩,λx o e=>by obtain⟨o1,e1⟩:=a.thr x o e;exact b.thr x o1 e1,JG a.sz b.sz⟩
def Kp.weak(a:Kp av fr h h')(hb:∀b∈av,b∈xv):Kp xv fr h h':=⟨λx o l m e=>a.old x o (λz=>l (hb x z)) m e,a.frm,a.thr,a.sz⟩
def Kp.skip(a:BL_)(b:Kp xv fr h2 h3)(hb:∀x∈xv,x∈av\/Y.get? x=none):Kp av fr Y h3:=
 ⟨λx o l m e=>b.old x o (λz=>(hb x z).elim l λq=>by rw[q]at e;cases e) m BM!,λx o m e=>by
  obtain⟨sl,e1⟩:=a.frm x o m e;obtain⟨f7,e2⟩:=b.frm x _ m e1;exact⟨f7,e2⟩,λx o e=>by obtain⟨o1,e1⟩:=a.thr x o e;exact b.thr x o1 e1,JG a.sz b.sz⟩
def EC(o:Obj)(cls:wY!):Prop:=o.cls=cls/\o.dict=none/\W.notCls o=true
def EC.mapF{cls:wY!}{f:ty_}(h:EC o cls):EC (Obj.mapFields f o) cls:=by
 obtain⟨Y,h2,h3⟩:=h;refine⟨(Obj.cls_mapFields _ _).trans Y,?_,?_⟩
 .unfold Obj.mapFields;split<;>exact h2
 .unfold Obj.mapFields;split
  .rfl
  .exact h3
structure XN(n:Heap)(h:Heap)(e:qT!)(cls:wY!):Prop where
 new:n.get? e=none
 ex:∃oe vs,h.get? e=some oe/\EC oe cls/\oe.data=.fields vs/\vs[1]?=some .none
structure XF(n:Heap)(h:Heap)(e T:qT!)(cls fl:wY!):Prop where
 new:n.get? e=none
 ex:∃oe vs oT ts,h.get? e=some oe/\EC oe cls/\oe.data=.fields vs/\vs[1]?=some (.ref T)/\n.get? T=none/\T≠e/\h.get? T=some oT/\oT.data=.fields ts/\ts[3]?=some fl
section
variable{M:Model}{A:wX!}{E:Value->Shared->Prop}{s:xR!}{base:Heap}{env:Env}{outer:List Env}{L e:qT!}{n:Heap}{cls fl:wY!}{Q:Unit->Shared->Prop}
def c2j(hl:fi_)(hn:fj!)(he:BM_):e∉frA bC_:=λhm=>by obtain⟨o,q⟩:=hn e hm;rw[he]at q;cases q
def c2l{oe:Obj}{vs:bD!}{YM:Bool}(du:gW!)(hl:fi_)(hf:gW_)(hn:fj!)(cm:gX!)
  (a9:BM_)(he:s.heap.get? e=some oe)(hc:EC oe cls)(hd:oe.data=.fields vs)(bn:1<vs.size)
  (k:BN!):
  wpAny M A (do setField aw_ 1 (<-EntryCells.newEntry TM (<-frameOf env) .none pk_ .none (<-entryPlaceOf L YM))) Q E s:=by
 have TN:=c2j hl hn a9;refine HP (wpAny_frameOf_fun du hl hf λY so=>?_);refine HP (wpAny_entryPlaceOf λpl a7=>?_);unfold EntryCells.newEntry newFields;refine HP (KS ?_ (a7.sizeOk5 _ _ _ _ _));have e1:=(so.2.1 e TN).trans he;have eT:=IT e1;generalize hob:({cls:=.type "traceback",dict:=none,data:=.fields (BO!).toArray}:Obj)=ob;have TQ:ob.data=.fields (BO!).toArray:=by rw[<-hob]
 have YN:=NC TQ;have e2:(Y.push ob).get? e=some oe:=HU _ e1;refine OT e2 hd bn ?_;have d3:=LX hd BO_;have e3:=LF BP! e2 (NC d3);have cu:∀b o,b≠e->Y.get? b=some o->(BP_).get? b=some o:=λb o hb eb=>by
  rw[JE _ _ fS!];exact HU _ eb
 have tT:(BP_).get? Y.objs.size=some ob:=by
  rw[JE _ _ (JH eT)];exact IL _ YN
 have s1:=so.1.symm;refine k _ Y.objs.size (by rw[s1];exact IH _) ⟨a9,_,_,ob,_,e3,hc.mapF,d3,by simp[bn],cm _ a!,MX eT,tT,TQ,?_⟩ ⟨λb o hb YO eb=>?_,λb o hb eb=>?_,λb o eb=>?_,by rw[OA,NE,s1];exact NM _⟩ (hl.of_keeps λb o eb t6=>?_)
 .obtain rfl|⟨_,_,_,_,_,_,_,rfl⟩:=a7<;>simp
 .refine cu b o fj_ ?_;rw[so.2.1 b YO];exact eb
 .show"!y";exact⟨sl,cu b _ (λz=>TN fk!) oj⟩
 .show"!y";by_cases dw:b=e
  .subst dw;exact⟨_,e3⟩
  .exact⟨_,cu b _ dw oj⟩
 .show"!y";exact⟨_,cu b _ (λz=>by subst z;rw[he]at eb;rcases eb;exact t6 _ hd) oj,rfl⟩
def a0u(du:gW!)(hl:fi_)(hf:gW_)(hn:fj!)(cm:gX!)(x:XN n s.heap e cls)
  (k:BN!):wpAny M A j9_ Q E s:=by
 obtain⟨a9,oe,vs,he,hc,hd,Y⟩:=x;unfold noteFrame;simp only[hf];refine HP ka!;rw[IF (show¬((Value.none != Value.none)=true)by decide)];exact c2l du hl hf hn cm a9 he hc hd (KP.mp Y).1 k
variable{T:qT!}
def uV(du:gW!)(hl:fi_)(hf:gW_)(hn:fj!)(cm:gX!)(x:pm_)(YQ:fl≠rawInt L)
  (k:∀h' T',i!<=T'->XF n h' e T' cls pk_->Kp [e,T] gX_ s.heap h'->h'.FunFrames base bC_->Q () {s with heap:=h'}):wpAny M A j9_ Q E s:=by
 obtain⟨a9,oe,vs,oT,ts,he,hc,hd,Y,hT,qk,ht,kh,h3⟩:=x;unfold noteFrame;simp only[hf];refine HP ka!;rw[po!];refine HP (JX ht kh h3 ?_);rw[IF (show¬((fl==rawInt L)=true)by simpa using YQ)];refine HP (OT ht kh (KP.mp h3).1 ?_);have cu:∀b,b≠T->(gY!).get? b=s.heap.get? b:=λb hb=>JE _ _ fS!;have xw:=c2j hl hn hT;have kp:Kp [e,T] gX_ s.heap gY!:=
  ⟨λb o hb _ eb=>by rw[cu b fj_];exact eb,λb o hb eb=>pp_,λb o eb=>by
   by_cases hb:b=T
   .subst hb;exact⟨_,LF _ ht pq_⟩
   .exact⟨o,by rw[cu b hb];exact eb⟩,NO (OA ..).symm⟩
 have qe:(gY!).FunFrames base bC_:=hl.of_keeps λb o eb t6=>⟨o,by
  rw[pr_];exact eb,rfl⟩
 have hz:(gY!).objs.size=i!:=OA ..;refine c2l du qe hf hn (by rw[hz];exact cm) a9 ((ps!).trans he) hc hd (KP.mp Y).1 λh' T' a0 a1 a2 a3=>k h' T' (by rw[<-hz];exact a0) a1 (kp.trans (a2.weak c!)) a3
def yT(hl:s.heap.FunFrames base l)(hn:∀b∈frA l,∃o,n.get? b=some o)(x:pm_)
  (k:∀h',XF n h' e T cls pt!->Kp [T] (frA l) s.heap h'->h'.FunFrames base l->j5!=i!->Q () {s with heap:=h'}):wpAny M A (setFlight aw_ fo) Q E s:=by
 obtain⟨a9,oe,vs,oT,ts,he,hc,hd,Y,hT,qk,ht,kh,h3⟩:=x;have bn:=(KP.mp h3).1;unfold setFlight;refine HP ka!;rw[po!];have cu:∀b,b≠T->(s.heap.update T ps_).get? b=s.heap.get? b:=λb hb=>JE _ _ fS!;have xw:T∉frA l:=λhm=>by obtain⟨o,q⟩:=hn T hm;rw[hT]at q;cases q
 have self:=LF ps_ ht pq_;refine OT ht kh bn (k _ ⟨a9,oe,vs,_,_,(ps!).trans he,hc,hd,Y,hT,qk,self,LX kh _,by simp[bn]⟩
  ⟨λb o hb _ eb=>by rw[cu b fj_];exact eb,λb o hb eb=>pp_,λb o eb=>by
   by_cases hb:b=T
   .subst hb;exact⟨_,self⟩
   .exact⟨o,by rw[cu b hb,eb]⟩,NO (OA ..).symm⟩
  (hl.of_keeps λb o eb t6=>⟨o,by rw[pr_];exact eb,rfl⟩) (OA ..))
inductive Xq(n:Heap)(h:Heap)(e:qT!)(cls:wY!)(L:qT!):List Addr->Prop
 |new:XN n h e cls->Xq n h e cls L [e]
 |on {T:qT!}:XF n h e T cls .none->Xq n h e cls L [e,T]
def c7x(du:gW!)(hl:fi_)(hf:gW_)(hn:fj!)(cm:gX!)(x:Xq n s.heap e cls L av)
  (k:∀h' T,pv!->XF n h' e T cls .none->Kp av gX_ s.heap h'->h'.FunFrames base bC_->Q () {s with heap:=h'}):wpAny M A (leaving env aw_) Q E s:=by
 have TR:∀{T:qT!},i!<=T->s.heap.get? T=none:=λ{T} hT=>by
  cases q:s.heap.get? T with
  |none=>rfl
  |some o=>exact absurd (IT q) (Nat.not_lt.mpr hT)
 unfold leaving;cases x with
 |new x=>
  refine HP (a0u du hl hf hn cm x λY T a0 a1 a2 a3=>?_);show"!v"
 |on x=>
  refine HP (uV du hl hf hn cm x pw_ λY T a0 a1 a2 a3=>?_);show"!v"
end
end XS
namespace XS
open PySem PySem.Spec PyProof.Rows L2
def Zk(base:Heap)(P:xc!)(w:wZ!):Yu:=λouter H s E e s'=>∃(a T:qT!) (cls:wY!) (H':Hp),e=.ref a/\s'.os=s.os/\AllBare s'.gens/\Un (frs outer) [] H H' s.heap s'.heap/\Js P w H' s'.heap/\
 XF s.heap s'.heap a T cls .none/\H' a=none/\H' T=none/\s'.heap.FunFrames base outer/\E cls none H'
def Lo(m n:Heap):Prop:=∀b,n.get? b=none->m.get? b=none
def In(n h:Heap):Prop:=∀b,bD_<=b->n.get? b=none
def Lo.in(l:Lo n h):In n h:=λb z=>l b (Heap.get?_none_of_le z)
def Lo.of(k:∀b o,h.get? b=some o->∃o',h'.get? b=some o'):Lo h h':=λb z=>by
 cases y:h.get? b with
 |none=>rfl
 |some o=>obtain⟨o',e⟩:=k b o y;rw[z]at e;rcases e
def XF.low(x:XF n h e T cls fl)(l:Lo m n):XF m h e T cls fl:=by obtain⟨a9,oe,vs,oT,ts,he,hc,hd,Y,hT,r⟩:=x;exact⟨l _ a9,oe,vs,oT,ts,he,hc,hd,Y,l _ hT,r⟩
def Xq.ge(x:px_):∀b∈av,n.get? b=none:=by
 intro b hb;cases x with
 |new x=>simp at hb;subst hb;exact x.new
 |on x=>
  obtain⟨a9,oe,vs,oT,ts,he,hc,hd,Y,hT,r⟩:=x;simp at hb;obtain rfl|rfl:=hb
  .exact a9
  .exact hT
structure Nw(X:Cx)(J:u_)(n:Heap):Prop where
 s0:∀b o,b∉X.ex->X.s₀.heap.get? b=some o->∃o',n.get? b=some o'
 loc:∃o,n.get? X.env.locals=some o
 cel:∀x c,X.env.cells.lookup x=some c->∃o,n.get? c=some o
 pin:∀p∈X.pn++J,∃o,n.get? p.1=some o
 frm:∀b∈frA X.stack,∃o,n.get? b=some o
def Dg.there(x:kg!):∃u,h.get? a=some u:=by
 cases o with
 |lst xs=>obtain⟨_,_,_,_,e⟩:=x;exact a7_
 |tup xs=>obtain⟨_,_,_,_,e,_⟩:=x;exact a7_
 |dK h1=>obtain⟨_,_,_,_,o,_,_,e,_⟩:=x;exact a7_
 |dT h1=>obtain⟨_,_,_,_,o,_,_,e,_⟩:=x;exact a7_
 |set S n=>obtain⟨o,_,_,_,e,_⟩:=x;exact a7_
 |ins C dx fs=>obtain⟨_,_,_,e,_⟩:=x;exact a7_
 |own y=>obtain⟨_,e⟩:=x;exact a7_
 |xd fs=>obtain⟨_,⟨_,_,_,e,_⟩,_⟩:=x;exact a7_
 |rng lo hi=>obtain⟨_,_,_,e⟩:=x;exact a7_
 |frz ob u=>obtain⟨e,_⟩:=x;exact a7_
 |tbl ps=>exact⟨_,gZ_⟩
 |met f y=>exact⟨_,gZ_⟩
 |ext φ=>obtain⟨_,⟨_,e⟩,_⟩:=x;exact a7_
def Js.none(x:aP_)(e:h.get? a=none):H a=none:=by
 cases q:H a with
 |none=>rfl
 |some u=>
  obtain⟨o,ho⟩:=Dg.there (x a u q);rw[e]at ho;rcases ho
section
variable{X:Cx}{J:List (Addr×Obj)}{Z:L2.St}{H H':Hp}{s:xR!}{h':Heap}{av:List Addr}{n:Heap}
def Nw.here(I:b_):Nw X J s.heap where
 s0:=λb o hx e=>I.base.there b o e hx
 loc:=by obtain⟨m,⟨o,_,_,ho,_⟩,_⟩:=I.loc;exact kg_
 cel:=λx c h=>by
  obtain⟨v,o,ho,_⟩:=I.cell x c h;exact kg_
 pin:=λp hp=>⟨_,(kR_).1⟩
 frm:=λb hb=>by
  obtain⟨_,o,ho,_⟩:=I.stack.mem hb;exact kg_
def c0r(I:b_):∀b∈frA X.stack,H b=none:=I.stkFree
def b7f(I:b_)(N:Nw X J n)(u:Un ha! av H H' s.heap h')(hok:g6_)(hg:kr!)(hb:∀b∈av,n.get? b=none):
  Inv X J Z H' {s with heap:=h',gens:=g',drawn:=d',toks:=t'}:=by
 have nb:∀b∈av,∀o,n.get? b≠some o:=λb h o z=>by rw[hb b h]at z;rcases z
 have n0:∀b∈av,b∈X.ex\/X.s₀.heap.get? b=mi!:=λb h=>by
  by_cases hx:b∈X.ex
  .exact .inl hx
  .refine .inr ?_;cases q:X.s₀.heap.get? b with
   |none=>rfl
   |some o=>obtain⟨o',e⟩:=N.s0 b o hx q;exact absurd e (nb b h o')
 have nl:∀b∈av,b≠X.env.locals:=λb h z=>by subst z;obtain⟨o,e⟩:=N.loc;exact nb _ h o e
 have nc:∀b∈av,∀x c,X.env.cells.lookup x=some c->c≠b:=λb h x c hc z=>by subst z;obtain⟨o,e⟩:=N.cel x c hc;exact nb _ h o e
 have np:∀b∈av,∀p∈X.pn++J,p.1≠b:=λb h p hp z=>by subst z;obtain⟨o,e⟩:=N.pin p hp;exact nb _ h o e
 have nf:∀b∈av,b∉frs X.stack:=λb h z=>by obtain⟨o,e⟩:=N.frm b z;exact nb _ h o e
 have YR:∀b∈av,b∉X.fs:=λb h z=>by
  refine nf b h ?_;obtain e|⟨e,ef⟩:=kq_
  .rw[e];exact z
  .rw[e];simp only[frs,PP,ef];exact HR _ z
 have ok:=I.ok
 let X':Cx:={X with ex:=X.ex++av}
 have k1:∀b∈X.ex++av,b≠X.env.locals/\∀x c,X.env.cells.lookup x=some c->c≠b:=λb fq=>by
  obtain q|q:=IM.mp fq
  .exact ok.exf b q
  .exact⟨nl b q,nc b q⟩
 have k2:∀b o,X.base.get? b=some o->b∉X.ex++av:=λb o e z=>by
  obtain q|q:=IM.mp z
  .exact ok.noex b o e q
  .obtain r|r:=n0 b q
   .exact ok.noex b o e r
   .rw[(ok.bs b o e).1]at r;rcases r
 have k3:∀b∈X.ex++av,b∉X.fs:=λb fq=>by
  obtain q|q:=IM.mp fq
  .exact ok.exfs b q
  .exact YR b q
 have YS:X'.Ok:=⟨ok.mod,ok.kind,ok.glob,ok.blt,hh_,ok.inj,ok.has,ok.cab,ok.hd,hh!,ok.stk,k1,ok.bs,ok.bsz,k2,k3,ok.funs,ok.frf⟩;have I':Inv X' J Z H s:=⟨YS,I.os,I.bare,I.base.mono g0! (λ_ z=>IP _ z),I.loc,I.cell,I.free,I.freeC,I.pin,I.hok,I.len⟩;have J':=I'.call (t':=t') (d':=d') u hok hg λb h=>⟨.inl (HX _ h),nl b h,nc b h,np b h⟩;have out:∀b o,X.s₀.heap.get? b=some o->b∉X.ex->b∉X.ex++av:=λb o e hx z=>by
  obtain q|q:=IM.mp z
  .exact hx q
  .obtain r|r:=n0 b q
   .exact hx r
   .rw[e]at r;rcases r
 have B:=J'.base;exact⟨ok,J'.os,J'.bare,⟨λb o e m hf hx=>B.keep b o e m hf g1!,λb o e m hf hx=>B.slot b o e m hf g1!,λb o e m hx=>B.free b o e m g1!,λb o e hx=>B.there b o e g1!,B.tups,B.frzs,B.tbls⟩,
  J'.loc,J'.cell,J'.free,J'.freeC,J'.pin,J'.hok,J'.len⟩
def c6m(kp:kh!):Un ha! av H H s.heap h' where
 keep:=λb o e _ hf hb=>kp.old b o hb hf e
 slot:=λb o e _ hf _=>kp.frm b o hf e
 free:=λ_ _ _ n _=>n
 there:=λb o e _=>kp.thr b o e
 tups:=λ_ _ e=>e
 frzs:=λ_ _ _ e=>e
 tbls:=λb ps e=>kx!
def c5a(I:b_)(kp:kh!)(hb:∀b∈av,H b=none):Js X.prog X.w H h':=λb u e=>
 (kx_).stay (λd o hd eo=>by
  have jw:∃u,H d=some u:=by
   obtain rfl|hd:=hd
   .exact⟨u,e⟩
   .exact⟨_,hd⟩
  obtain⟨v,hv⟩:=jw;exact kp.old d o (λz=>by rw[hb d z]at hv;rcases hv) (λz=>by rw[c0r I d z]at hv;rcases hv) eo) g1_ λ_ _ q=>q
def yO(I:b_)(N:Nw X J n)(kp:kh!)(hb:∀b∈av,H b=none/\n.get? b=none):Inv X J Z H {s with heap:=h'}:=
 b7f I N (c6m kp) (c5a I kp λb h=>(hb b h).1) I.bare λb h=>(hb b h).2
end
def c0u{h base:Heap}{outer:af!}(x:h.FunFrames base bC_):h.FunFrames base outer:=x.2.2
section
variable{P:xc!}{w:wZ!}{KF:zM!}{mg:Str->Option Value}{base:Heap}{N:List Str}{qual:Str}{scope:Scope}{f:qT!}{cd:wY!}{A:wX!}{outer:List Env}{s s1:xR!}{H H1:Hp}{E E':XK}{J:List (Addr×Obj)}{Z:L2.St}{n:Heap}{e:qT!}{cls:wY!}{av:List Addr}
def b4t(I:Inv g2_ J Z H1 s1)(Nn:Nw g2_ J n)(cm:In n s1.heap)
  (x:Xq n s1.heap e cls s.heap.objs.size av)(hb:∀b∈av,H1 b=none)(q:E cls none H1):
  (g2_).xe aw_ s1:=by
 refine c7x I.ok.frames I.stack rfl Nn.frm cm x λh' T hT xf kp ff=>?_;have af:=yO I Nn kp λb h=>pF_;refine⟨e,T,cls,H1,rfl,af.os,af.bare,af.base,af.hok,xf.low ub!,?_,?_,c0u ff,q⟩
 .cases y:s.heap.get? b with
  |none=>rfl
  |some o=>
   obtain⟨o',e'⟩:=Nn.s0 b o (λz=>by exact(HY z).elim) y;rw[z]at e';rcases e'
 .cases x with
  |new _=>exact hb e c!
  |on _=>exact hb e c!
 .obtain h|h:=hT
  .exact hb T h
  .exact I.hok.fresh h
end
def GQ:List Value:=[pH_,pI!,pI_,pJ!]
structure DZ(KF:zM!)(N:qT!):Prop where
 mk::
 at_:∃c d es ep sl,KF.lookup N=some ⟨c,d,.dict es ep,sl⟩/\(es.all λe=>match e.key with|.str _ _=>true|_=>false)=true
 no:W.nsIn KF N "__init__"=some none
def AV(KF:zM!)(C:qT!):Prop:=∃B N nm q bs hdct sn sub ab col dd k0 k1 k2 k3 k5 c0 d1 cd sl,KF.lookup C=some (excClassObj nm q C N bs (.ref B::GQ) hdct sn sub ab col dd k0 k1 k2 k3 k5 "ValueError.__new__")/\KF.lookup B=some ⟨c0,d1,.cls cd,sl⟩/\DZ KF N/\DZ KF cd.ns
def b5x{KF:zM!}{sub:l_}{k0 k1 k2 k3 k5:pJ_}
  (la:KF.lookup C=some (excClassObj nm q C N bs [.ref B,pH_,pI!,pI_,pJ!] hdct sn sub ab col dd k0 k1 k2 k3 k5 "ValueError.__new__"))(lb:KF.lookup B=some ⟨c0,d1,.cls {name:=nm1,bases:=bs1,mro:=mro1,ns:=N1,qualname:=q1,hasDict:=hdct1,slotNames:=sn1,subclasses:=sub1,abstract:=ab1,collection:=col1,hasDel:=del1},sl⟩)
  (lc:KF.lookup N=some ⟨c2,d2,.dict es ep,s2⟩)(ld:(es.toList.all λe=>match e.key with|.str _ _=>true|_=>false)=true)(le:W.nsIn KF N "__init__"=some none)(lf:KF.lookup N1=some ⟨c3,d3,.dict YT xx,s3⟩)(lg:(YT.toList.all λe=>match e.key with|.str _ _=>true|_=>false)=true)(lh:W.nsIn KF N1 "__init__"=some none):AV KF C:=
 ⟨B,N,nm,q,bs,hdct,sn,sub,ab,col,dd,k0,k1,k2,k3,k5,c0,d1,_,sl,la,lb,⟨⟨_,_,_,_,_,lc,by rw[<-Array.all_toList];exact ld⟩,le⟩,⟨⟨_,_,_,_,_,lf,by rw[<-Array.all_toList];exact lg⟩,lh⟩⟩
def DZ.ok{KF:zM!}(n:DZ KF N):W.nsOkIn KF N=true:=by obtain⟨⟨c,d,es,ep,sl,e1,e2⟩,_⟩:=n;unfold W.nsOkIn;rw[e1];exact e2
def c5f{KF:zM!}(X:eT!)(q:AV KF C):∃bm N nm q bs hdct sn sub ab col dd k0 k1 k2 k3 k5 mN,h.get? C=some (excClassObj nm q C N bs bm hdct sn sub ab col dd k0 k1 k2 k3 k5 "ValueError.__new__")/\h.Ns N mN/\mN "__init__"=none/\OwnTail h GQ bm:=by obtain⟨B,N,nm,q,bs,hdct,sn,sub,ab,col,dd,k0,k1,k2,k3,k5,c0,d1,cd,sl,l1,l2,n1,n2⟩:=q;exact⟨_,N,nm,q,bs,hdct,sn,sub,ab,col,dd,k0,k1,k2,k3,k5,_,X _ _ l1,.of_isNs (W.isNs_of_in X n1.ok),W.nsMap_none_of_in X n1.ok n1.no,.own (X _ _ l2) (.of_isNs (W.isNs_of_in X n2.ok)) (W.nsMap_none_of_in X n2.ok n2.no) .base⟩
section
variable{X:Cx}{J:List (Addr×Obj)}{Z:L2.St}{H:Hp}{s:xR!}{h':Heap}{e C:qT!}{cls:wY!}{args:List Value}
def made(I:b_)(m:Heap.MadeExcOf s.heap h' e cls args):Inv X J Z H {s with heap:=h'}/\XN s.heap h' e cls/\H e=none:=by refine⟨I.un (Un.kept m.keeps) (I.hok.kept m.keeps),⟨m.new,?_⟩,Js.none I.hok m.new⟩;obtain⟨t,ht,_⟩:=m.there;exact⟨_,_,ht,nO_,rfl,rfl⟩
def b2l{R:pM_}(hC:kn!)(hh:kn_)(hg:G_)(hm:fL!)(he:PE X ex te)
  (hR:∀(J:u_) (Z:L2.St) (H:Hp) (s:xR!) (h':Heap) (e:qT!) (n:Heap),Inv X J Z H {s with heap:=h'}->Nw X J n->In n h'->XN n h' e P!->H e=none->R P! H->X.xe aw_ {s with heap:=h'})
  (a8:y_:=by decide)(bc:pN_:=by rfl):
  PS X pO_ pP!:=by
 intro J s Z H D I h;obtain⟨bm,N,nm,q,bs,hdct,sn,sub,ab,col,dd,k0,k1,k2,k3,k5,mN,c1,c2,YU,c3⟩:=c5f I.ok.mod.kin hC;refine wpAny_Raise_call_subU (nm:=nm) (q:=q) (N:=N) (bs:=bs) (hdct:=hdct) (sn:=sn) (sub:=sub) (ab:=ab) (col:=col) (dd:=dd) (k0:=k0) (k1:=k1) (k2:=k2) (k3:=k3) (k5:=k5) PySem.F.excBase_ValueError a_ PySem.F.excBase_ValueError (c3.hasType a_) hh (by rw[bc];rfl) YU (gR I hg hm h_ a8);rw[bc];refine OQ (LY bY_);rintro u s1 ⟨v,H1,I1,r1,q1⟩;refine OM ?_;refine⟨rfl,by simp[sizeLine],I1.bk _ _ c1,c2.keeps I1.bk,c3.keeps I1.bk,λh' e m=>?_⟩;obtain⟨af,xn,hn⟩:=made I1 m;exact hR J Z H1 s1 h' e s1.heap af (Nw.here I1) (Lo.of λb o y=>⟨o,m.keeps b o y⟩).in xn hn q1
end
def Xq.at(x:px_):Xq n h e cls L' av:=by
 cases x with
 |new x=>exact .new x
 |on x=>exact .on x
section
variable{M:Model}{A:wX!}{E:Value->Shared->Prop}{s:xR!}{base:Heap}{env:Env}{outer:List Env}{L e:qT!}{n:Heap}{cls fl:wY!}{Q:Unit->Shared->Prop}{av:List Addr}
def c9e(du:gW!)(hl:fi_)(hf:gW_)(hn:fj!)(cm:gX!)(x:Xq n s.heap e cls L0 av)
  (k:∀h' T fl,pv!->XF n h' e T cls fl->Kp av gX_ s.heap h'->h'.FunFrames base bC_->Q () {s with heap:=h'}):wpAny M A j9_ Q E s:=by
 cases x with
 |new x=>exact a0u du hl hf hn cm x λY T a0 a1 a2 a3=>k Y T _ gZ! a1 a2 a3
 |on x=>exact uV du hl hf hn cm x pw_ λY T a0 a1 a2 a3=>k Y T _ gZ! a1 a2 a3
end
def Lv(X:Cx)(R:pM_):Prop:=∀(J:u_) (Z:L2.St) (H:Hp) (s:xR!) (n:Heap) (a:qT!) (cls:wY!) (av:ax_),Inv X J Z H s->Nw X J n->In n s.heap->Xq n s.heap a cls 0 av->(∀b∈av,H b=none)->R cls H->X.xe D_ s
def c7t{KF:zM!}:
  Lv g2_ λcls H'=>E cls none H':=λJ Z H1 s1 n a cls av I Nn i x hb q=>b4t I Nn i x.at hb q
def b9i(hX:Lv X R)(hE:∀cls H',E' cls none H'->R cls H'):Ih (Zk X.base X.prog X.w) X E':=by
 intro J Z H s e s' I h;obtain⟨a,T,cls,H',rfl,os,bare,un,hok,xf,ha,hT,ff,q⟩:=h;obtain⟨hh,g,d,t,v6⟩:=s';obtain rfl:v6=s.os:=os;have af:=I.call (d':=d) (t':=t) un hok bare sk!;refine hX J Z H' _ s.heap a cls _ af (Nw.here I) (Lo.of λb o y=>un.there b o y c!).in (.on xf) ha_ (hE _ _ q);simp at hb;obtain rfl|rfl:=hb
 .exact ha
 .exact hT
def a8y(hX:Lv X R)(hC:kn!)(hh:kn_)(hg:G_)(hm:fL!)(he:PE X ex te)
  (a8:y_:=by decide)(bc:pN_:=by rfl):
  PS X pO_ pP!:=
 b2l hC hh hg hm he (λJ Z H s h' e n I N i x hn q=>hX J Z H _ n e _ _ I N i (.new x) (λb hb=>by simp at hb;subst hb;exact hn) q) a8 bc
end XS
namespace XS
open PySem PySem.Spec PyProof.Rows PySem.W L2
abbrev Zl(X:Cx)(pn:u_)(f:I!):Cx:={X with pn:=pn,xe:=f}
abbrev Ym(X:Cx)(e:qT!)(pn:u_):Cx:={X with A:=X.A.mark (some aw_),calm:=false,pn:=pn,xe:=λ_ _=>False}
section
variable{X:Cx}{J rf pn:List (Addr×Obj)}{Z ae:L2.St}{H:Hp}{s:xR!}{f:Value->Shared->Prop}{e a:qT!}{oe:Obj}
def sO(I:b_)(ok:g7.Ok)(hY:g7={X with A:=g7.A,calm:=g7.calm,pn:=g7.pn,xe:=g7.xe})(hp:∀p∈g7.pn++rf,s.heap.get? p.1=some p.2/\H p.1=none/\p.1≠X.env.locals/\p.1∉X.fs/\∀v,kp_≠.cell v)
  (hl:ae.length=dZ_)(hs:∀(i:Nat) (v:V),ae[i]?=some bX!->Z[i]?=some bX!):Inv g7 rf ae H s:=by
 obtain⟨m,hn,h⟩:=I.loc;have:=I.len;rw[hY];exact⟨hY▸ok,I.os,I.bare,I.base,⟨m,hn,λi x v e1 e2 e3=>h i x v e1 (hs i v e2) e3⟩,I.cell,I.free,I.freeC,hp,I.hok,hl.trans I.len⟩
def c9a(ok:X.Ok):(d0!).Ok:=hg_
def c4b(ok:(d0!).Ok):X.Ok:=hg_
def c7j(ok:X.Ok):(Ym X e pn).Ok:=⟨ok.mod,ok.kind,ok.glob,ok.blt,hh_,ok.inj,ok.has,ok.cab,λz=>Bool.noConfusion z,hh!,ok.stk,ok.exf,ok.bs,ok.bsz,ok.noex,ok.exfs,ok.funs,ok.frf⟩
def c9b(ok:(Ym X e pn).Ok)(hd:kq!):X.Ok:=⟨ok.mod,ok.kind,ok.glob,ok.blt,hh_,ok.inj,ok.has,ok.cab,hd,hh!,ok.stk,ok.exf,ok.bs,ok.bsz,ok.noex,ok.exfs,ok.funs,ok.frf⟩
end
structure Xe(KF:zM!)(C0:qT!):Prop where
 tup:W.instIn KF cr_ aX!=some false
 cls:∃cd,W.clsIn KF C0=some cd
 exc:W.subIn KF cr_ pS!=some true
def c5v{KF:zM!}(ta:W.instIn KF cr_ aX!=some false)(tb:W.clsIn KF C0=some cd)(tc:W.subIn KF cr_ pS!=some true):Xe KF C0:=⟨ta,⟨_,tb⟩,tc⟩
def a4d{KF:zM!}(X:KF.In s.heap)(C:Xe KF C0)(he:s.heap.get? a=some oe)(hc:oe.cls=.ref c)(hs:W.subIn KF c0! cr_=some true)
  (h:Q true s):wpAny M A (excMatches D_ cr_) Q E s:=by
 obtain⟨hh,g,d,tk,os⟩:=s;obtain⟨Y,h2,h3⟩:=C;have L1:=W.looks_instIn (M:=M) X Y;have L2:=W.looks_subIn (M:=M) X h3;have L3:=W.looks_subIn (M:=M) X hs;have Lt:Looks M hh (isType cr_) true:=by
  obtain⟨cd,h2⟩:=h2;unfold W.clsIn at h2;split at h2
  .rename_i ho;intro A' Q' E' s' k q;unfold isType loadHead;exact HP (wpAny_loadPart (k _ _ (X _ _ ho)) (HS q))
  .rcases h2
 have Le:Looks M hh (isExcClass cr_) true:=Lt.andThen L2;have Ly:Looks M hh (typeOf D_) c0!:=λA' Q' E' s' k q=>HP (wpAny_loadPart (k _ _ he) (HS (hc▸q)));unfold excMatches;refine HP (L1.at ?_);rw[IF a_];show"##";rw[NU];refine HP (HP (HP (Le.at ?_)));simp only[PL,JK,KC];refine HS ?_;dsimp only;rw[RA];refine HS (HP (Ly.at ?_));rw[NU];refine HP (HP (HP (L3.at ?_)));dsimp only[_root_.if_true];exact HS nR!
section
variable{X:Cx}{J:List (Addr×Obj)}{D:Qr}{xC en xn:Str}{cp xp ap hp:Pos}{he:Expr}{C0 L:qT!}{ie ix:Nat}{hv:Addr->Option V}
nonrec def xT(X:Cx)(J:u_)(D:Qr)(h0:ExceptHandler):Value->Shared->Prop:=λe al=>wpAny d_ X.A (noteFrame e X.env) (λ_ ao=>wpAny d_ X.A (setFlight e none) (λ_ c8=>wpAny d_ X.A (handleBy e X.env [h0]) kD! X.xe c8) X.xe ao) X.xe al
end
end XS
namespace DL
open PySem PySem.Spec PyProof.Rows L2 XS
abbrev EK:=Addr->Mh->Prop
abbrev Uj:=List D->Mh->n3!->EK->Prop
def XR(P:xc!)(w:wZ!)(KF:zM!)(M0:Mh)(G0 F0:Hp)(E:EK):Value->Hp->Prop:=λcls H'=>∃c M' G',cls=.ref c/\E c M'/\XM M0 G0 F0 M' G' H'/\MR P w KF M' G' H'
def HE(P:xc!)(w:wZ!)(KF:zM!)(n:Nat)(g:Uj):Sp:=λvs H Q E=>aR_=n/\∃G ds M R EM,At G H/\MR P w KF M G H/\Ak KF G ds vs/\g ds M R EM/\(∀d M' v G' H',R d M'->XM M G H M' G' H'->MR P w KF M' G' H'->Ao KF G' d v->Q v H')/\∀cls H',XR P w KF M G H EM cls H'->E cls none H'
def Vi(P:xc!)(w:wZ!)(KF:zM!)(mg:L_)(base:Heap)(k:Nat)(x:Str)(ps:E_)(g:Uj):Prop:=
 ∃ag fd,Eb P w KF mg base kk! k ag fd ps (HE P w KF ps.length g)/\Do KF fd ps []/\mg x=some aW!/\W.keepIn KF aW!=true
section
variable{P:xc!}{w:wZ!}{KF:zM!}{mg:Str->Option Value}{base:Heap}{k:Nat}{x:Str}{N ps:List Str}{st:Stmt}
def Vi.m(h:Vi P w KF mg base k x ps g):Hl P w KF mg base k x ps λds M R=>g ds M R λ_ _=>False:=by
 obtain⟨ag,fd,F,h2,h3,h4⟩:=h;refine⟨ag,fd,⟨λvs H Q E z=>z.1,?_⟩,h2,h3,h4⟩;rintro A outer s H args us vs Q E hr e0 hb hv ⟨hl,G,ds,M,R,sub,m,r,e,kk⟩;refine QN (F.run A outer s H args us vs Q fU_ hr e0 hb hv ⟨hl,G,ds,M,R,_,sub,m,r,e,kk,by rintro cls H' ⟨_,_,_,_,z,_⟩;exact z⟩) λr s' z=>?_;cases r with
 |ok f=>cases f<;>exact z
 |error e=>obtain⟨_,_,_,_,_,_,_,_,_,_,_,_,_,z⟩:=z;exact z
def jD{q:EK->WS}(d:nJ_)(S:cI!)
  (hb:∀{ag:qT!} {ah:wY!} {A:wX!} {outer:af!} {s:xR!} {H:Hp} {E:XK} {M0:Mh} {G0 F0:Hp} {EM:EK},Ai k i6_->Lv pX_ (XR P w KF M0 G0 F0 EM)->N.Nodup->
   Nf pX_ a8! (BD P w KF M0 G0 F0 [] [] (q EM))):
  Vi P w KF mg base J_ x ps λds M R E=>Bd N ps.length (q E) ds M R:=by
 obtain⟨ag,fd,F,B,m⟩:=d;refine⟨ag,fd,?_,B,m,F.kp⟩;show"!G";refine c2k lk bz S wv! λA outer s H vs Q E hr h=>?_;obtain⟨hl,G,ds,M,R,EM,sub,m,r,e,kk,ke⟩:=h;refine⟨_,hb hr (λJ Z H1 s1 n a cls av I Nn i y z q=>c7t J Z H1 s1 n a cls av I Nn i y z (ke cls H1 q)) S.nd,?_⟩;have er:=qT (N:=N) sub r;exact z5!
end
section
variable{X:Cx}{own ba g8:List Nat}{st:Stmt}{rest body b1 b2:List Stmt}{e c:Expr}{es:List Expr}{pos p2:Pos}{f:WE}{fs:WA}{ft:WT}{q1 q2:WS}{M0:Mh}{G0 F0:Hp}{E:EK}
abbrev TX(X:Cx)(M0:Mh)(G0 F0:Hp)(own ce:n!)(q:WS):TS:=BD X.prog X.w X.K M0 G0 F0 own ce q
def qD(h:oq!):PS X st g9!:=h.ok M0 G0 F0
def lZ(h:Rz X.nox own ba rest q1):Nf X rest g9!:=Nf.nox (h.ok M0 G0 F0)
def cV(Y:PS X st g9!)(h2:Nf X rest (TX X M0 G0 F0 ba g8 q2)):Nf X hi_ (TX X M0 G0 F0 own g8 (Af q1 q2)):=λJ s Z H D I ⟨G,ρ,M,R,sr,e,k1,k2⟩=>
 rD Y h2 J s Z H D I zC_
def kB(hc:jo!)(Y:Nf X b1 g9!)(h2:Nf X b2 (TX X M0 G0 F0 own ba q2)):PS X m7! (TX X M0 G0 F0 own ba zE!):=by
 rintro J s Z H D I ⟨G,ρ,M,R,sr,e,k1,k2⟩;refine b2m hc.ok Y h2 J s Z H D I zE_;cases b with
 |true=>exact jR jG!
 |false=>exact jS jG!
def Jc(C:qT!)(E:EK)(f:WE):WS:=λρ M _=>f ρ M λ_ M1=>E C M1
def mY(hX:Lv X kv!)(hC:kn!)(hh:kn_)(hg:G_)(hm:fL!)(he:bc_)
  (a8:y_:=by decide)(bc:starEach [e] X.env=[dj!]:=by rfl):
  PS X (.Raise (some (.Call pO! [e] [] ai)) none pos) (TX X M0 G0 F0 own ba (Jc C E f)):=λJ s Z H D I ⟨G,ρ,M,R,sr,e',k1,k2⟩=>
 a8y hX hC hh hg hm he.ok a8 bc J s Z H D I ⟨G,ρ,M,_,sr.st,e',λd M' v G' H' r x m q=>⟨C,M',G',rfl,r,sr.x.trans x or!,m⟩⟩
def Qw(P:xc!)(w:wZ!)(KF:zM!)(M0:Mh)(G0 F0:Hp)(own:n!)(f:WE):TE:=λZ H Q=>∃G ρ M R,Hf P w KF own M0 G0 F0 M G H Z ρ/\f ρ M R/\∀d M' v G' H',R d M'->XM M G H M' G' H'->MR P w KF M' G' H'->Ao KF G' d v->Q v H'
def Cs(n:Nat)(g:Uj)(E:EK)(fs:WA):WE:=λρ M R=>fs ρ M λds M1=>g_=n/\g ds M1 R E
def fW(hX:Lv X kv!)(F:Vi X.prog X.w X.K X.mg X.base k x ps g)(hr:aL!)(hg:G_)(ha:dP_)
  (a8:y_:=by decide)(he:Y!:=by rfl)(a7:au!:=by rfl):
  PE X aT! (Qw X.prog X.w X.K M0 G0 F0 own (Cs ps.length g E fs)):=by
 show"#!";rintro J s Z H Q I ⟨G,ρ,M,R,sr,e',k⟩;refine wR Y hr hg h3 h4 h2 .nil (b9i (E':=λcls _ H'=>XR X.prog X.w X.K M0 G0 F0 E cls H') hX λ_ _ z=>z) ha.ok a8 he a7 J s Z H Q I ⟨G,ρ,M,_,sr.st,e',z0!⟩;rw[JC];refine⟨z0_,G1,ds,M1,R,E,x1.sub,m1,q1,r1.2,n7!,?_⟩;rintro cls H' ⟨c,M',G',h5,h6,h7,h8⟩;exact⟨c,M',G',h5,h6,(sr.x.trans x1 or!).trans h7 m1,h8⟩
def b3z(hN:a3!)(hi:ac_)(hx:a3_)(h:kv_)(b8:aM!:=by decide)(hs:m6!:=by rfl)
  (hf:X.fn x=true\/X.env.scope.names.lookup x=some .local:=by first|exact .inl rfl|exact .inr rfl|assumption):PS X (.Assign [.Name x p2] e pos) (TX X M0 G0 F0 own own (An i f)):=λJ s Z H D I ⟨G,ρ,M,R,sr,e',k1,k2⟩=>
 wP hN hi hx h hs hf J s Z H D I ⟨G,ρ,M,_,sr,e',zD_⟩
def jE(h:kv_)(hs:kL_:=by rfl):PS X kM! (TX X M0 G0 F0 own own (Az f)):=λJ s Z H D I ⟨G,ρ,M,R,sr,e',k1,k2⟩=>
 mT h hs J s Z H D I ⟨G,ρ,M,_,sr,e',zF!⟩
end
end DL
namespace DL
open PySem PySem.Spec PyProof.Rows L2
end DL
namespace DL
open PySem PySem.Spec PyProof.Rows L2 XS
section
variable{X:Cx}{own ba g8:List Nat}{st:Stmt}{rest body b1 b2:List Stmt}{e c tg:Expr}{es:List Expr}{pos p2:Pos}{f:WE}{fs:WA}{ft:WT}{fi:WI}{q1 q2:WS}{M0:Mh}{G0 F0:Hp}{E:EK}
def c4i(h:kv_):PS X hj_ (TX X M0 G0 F0 own ba (Aq f)):=λJ s Z H D I ⟨G,ρ,M,R,sr,e',k1,k2⟩=>
 wQ h J s Z H D I ⟨G,ρ,M,_,sr,e',zD!⟩
end
def Zd:D->Prop
 |.int i=>cz!<10 ^ 60
 |.str x=>cB_<=1000
 |.tup [.int i,.int j]=>cz!<10 ^ 60/\j.natAbs<10 ^ 60
 |_=>False
def b4p{v:Int}(h:v.natAbs<10 ^ 60):v.natAbs.log2<1920:=by
 by_cases z:v.natAbs=0
 .rw[z];decide
 .exact(Nat.log2_lt z).mpr (RY h k_)
def b4s{i:Int}(h:cz!<10 ^ 60):(Str.ofString p2_).length<=61:=by rw[PySem.ofString_length];exact int_text_length_le10 a_ h
section
variable{X:Cx}{own:List Nat}{pos p1 p2 p3:Pos}{g:Ae->Prop}{es:List Expr}{n:Nat}
def c0s(hr:aL!)(I:b_)(sub:E!)(r:Ao X.K G d v)(rv:aQ!)(hd:Zd d)
  (hQ:∀x t s',cB_<=1000->Inv X J Z H s'->Q fk_ s'):wpAny d_ X.A (formatField u Str.empty) Q X.xe s:=by
 have big:100000<=sizeLine:=by decide
 unfold Zd at hd;split at hd
 .rename_i i;obtain rfl:=aU r;obtain⟨t,rfl⟩:=rv;have:=b4s hd;exact formatField_int_small (b4p hd) (hQ _ _ _ a! ((eh_).tok _))
 .rename_i x;obtain rfl:=cB r;obtain⟨t,rfl⟩:=rv;exact formatField_str (λt' tk=>hQ _ _ _ hd (I.tok tk)) a!
 .rename_i i j;obtain⟨a,vs,rfl,qa,rr⟩:=bD r;obtain⟨v1,t1,rfl,r1,rr⟩:=bB rr;obtain⟨v2,t2,rfl,r2,rr⟩:=bB rr;obtain rfl:=cK rr;obtain rfl:=aU r1;obtain rfl:=aU r2;cases (show u=Value.ref a from rv);obtain⟨its,vr,⟨o,Y,h2,n,h3⟩,_⟩:=I.tuple (bK sub qa);obtain⟨u1,u2,rfl,w1,w2⟩:=zR vr;obtain⟨k1,rfl⟩:=w1;obtain⟨k2,rfl⟩:=w2;have l1:=b4s hd.1;have l2:=b4s hd.2;have ls:(p4!).shown.length<=1000:=by
   show((Str.ofString "(")++(Str.ofString p2_++Str.ofString ", "++Str.ofString (toString j))++Str.ofString ")").length<=1000;have e1:(Str.ofString "(").length=1:=by decide+kernel
   have e2:(Str.ofString ", ").length=2:=by decide+kernel
   have e3:(Str.ofString ")").length=1:=by decide+kernel
   simp only[Str.length_append];omega
  have un:=hr.un;have dp:(p4!).depth<=5:=by simp[PyData.depth,PyData.depthAll]
  refine formatField_of_reads (.tuple Y h2 h3 (.cons (.int i k1) (.cons (.int j k2) .nil))) (by simp[PyData.showable,PyData.showableAll,b4p hd.1,b4p hd.2]) (λz=>by simp[PyData.hasDict,PyData.hasDictAll]at z) hr.gd a! (λb o e=>e) (λh' u tk hk=>?_) a!;exact hQ _ _ _ ls ((I.un (t':=s.toks) (Un.kept hk) (I.hok.kept hk)).tok tk)
 .exact hd.elim
nonrec def g0:Ae->Prop:=λ_=>True
nonrec def gN(i:Nat)(g:ky_):Ae->Prop:=λρ=>(∃d,ρ[i]?=some cK_/\Zd d)/\g ρ
structure FJ(X:Cx)(own:n!)(n:Nat)(es:ct_)(g:ky_):Prop where
 ok:∀(J:u_) (s:xR!) (Z:St) (G H:Hp) (ρ:Ae) (out:Str) (Q:I!),Inv X J Z H s->OR X.K own G H Z ρ->g ρ->out.length+n<=100000->(∀x t s',Inv X J Z H s'->Q fk_ s')->wpAny d_ X.A (joinParts out (evalEach es X.env)) Q X.xe s
def b5t:FJ X own 0 [] g0:=⟨λJ s Z G H ρ out Q I er _ hl hQ=>by
 have big:100000<=sizeLine:=by decide
 exact joinParts_nilE (joinParts_nil (hQ _ _ _ eh_) a!)⟩
def c5e(h:p7!):FJ X own (s2.length+n) (.Constant (.str s2) j p1::es) g:=⟨λJ s Z G H ρ out Q I er hg hl hQ=>by
 have big:100000<=sizeLine:=by decide
 exact joinParts_consE (joinParts_cons (Calls.Constant_str ⟨p7_,h.ok J _ Z G H ρ _ Q eh_ er hg p8! hQ⟩))⟩
def c8e(hr:aL!)(hN:ac_)(hv:cu!)(hi:aM!)(h:p7!)(hd:y_:=by decide)(bz:cu_:=by decide):
  FJ X own (1000+n) (.FormattedValue (.Name x p1) (-1) none p2::es) (gN i g):=⟨by
 rintro J s Z G H ρ out Q I er ⟨⟨d,e1,hs⟩,hg⟩ hl hQ;have big:100000<=sizeLine:=by decide
 obtain⟨v,f1,f2⟩:=er.at_ i _ e1 hi;refine joinParts_consE (joinParts_cons (FormattedValue_plain (cZ (lW hN hv hd bz J s Z H (λw H'=>w=v/\H'=H) I ⟨_,f1,rfl,rfl⟩) ?_)));rintro u s' ⟨y,H',I',r,rfl,rfl⟩;exact c0s hr I' er.sub f2 r hs λy t s2 hy I2=>⟨p7_,h.ok J _ Z G _ ρ _ Q I2 er hg p8! hQ⟩⟩
def Xo(g:ky_):WE:=λρ M R=>g ρ/\∀x,R bX_ M
def b4j(h:FJ X own n qb! g)(hn:n<=100000:=by decide):ME X own (.JoinedStr qb! pos) (Xo g):=⟨λJ s Z H Q I ⟨G,ρ,M,R,st,⟨e1,e2⟩,k⟩=>
 JoinedStr_many (h.ok J s Z G H ρ Str.empty _ I st.or e1 (by show 0+n<=_;omega) λx t s' I'=>⟨.str x,H,I',G!,k _ M _ G H (e2 x) jl! st.mr Ao.str⟩)⟩
end
section
variable{X:Cx}{own:List Nat}{e a b o:Expr}{es:List Expr}{pos p1 p2 p3 p4 p5 p6:Pos}{f fa fb fo:WE}{fs:WA}{M0:Mh}{G0 F0:Hp}
def b9t{k:Nat}{ps:E_}{g:WF}{ax:Pos}{pl:Sem Bool}(F:ow!)(hr:aL!)(ho:PE X o (Qw X.prog X.w X.K M0 G0 F0 own fo))(ha:dP_)
  (bc:Y!:=by rfl)(a7:au!:=by rfl)
  (ht:eval en! X.env=(do
   let ov <-eval o X.env
   standAt ei_
   let(f,first) <-holding [ov] ej!
   callWith pos f first lz! di!):=by rfl):PE X en! (Qw X.prog X.w X.K M0 G0 F0 own z1!):=by
 show"!~";intro J s Z H Q I ⟨G,ρ,M,R,sr,e',k⟩;refine a6i ho cl Y h2 hr h3 .nil pQ ha.ok bc a7 ht J s Z H Q I ⟨G,ρ,M,_,sr,e',ox!⟩;show"!:";refine⟨p,dx,vs,rfl,hH,hl,G1,ρ,M1,_,sr.st.grow x1 m1,r1,z2!⟩;rw[JC];exact z3!
end
end DL
namespace DL
open PySem PySem.Spec PySem.Calls PyProof.Rows L2 XS
end DL
namespace DL
open PySem PySem.Spec PyProof.Rows L2 XS
end DL
namespace DL
open PySem PySem.Spec PyProof.Rows L2
def GJ:Option kz_->Array Value
 |none=>#[]
 |some (b,t)=>#[.int b t,.int b t]
def Ws(k:Int):Option kz_->List Int->Int
 |some (b,_),xs=>xs.foldl max b
 |none,x::xs=>xs.foldl max x
 |none,[]=>k
section
variable{P:xc!}{w:wZ!}{A:wX!}{R:Result->Shared->Prop}{s:xR!}{l I S:qT!}{kw:List (Str×Value)}{full:List Value}{k:Int}
def qQ{h h':Heap}(k:∀b o,b∉[I]->h.get? b=some o->h'.get? b=some o):∀b o,b≠I->b≠S->h.get? b=some o->(h'.update S f).get? b=some o:=λb o b1 b2 e=>(JE _ _ (JF b2)).trans (k b o kA! e)
def b1d:(GJ (some (b,t))).size<=sizeLine:=by show 2<=sizeLine;rw[KA];decide
def a6v(hh:bh!)(xy:l≠I)(t9:S≠I)(xz:S≠l):∀(xs:u!) (us:l_) (j:Nat) (σ:Option kz_) (h:Heap) (tk c:Nat),full.drop j=us->j<=kA_->IntsAre us xs->(σ=none->xs=[]->∃t,kw=[(Str.ofString "default",.int k t)])->
  h.IsListIter I l j->h.IsList l hc!->h.get? S=some (seqObj "list" (GJ σ) c)->
  (∀t h' fw,qe!->R (.ok (.ret (.int (Ws k σ xs) t))) {s with heap:=h',toks:=fw})->
  codeAny B_ A qf_ R {s with heap:=h,toks:=tk}
 |[],us,j,σ,h,tk,c,hd,hj,hi,ha,it,il,hS,hR=>by
  have W:=Walks.list (prog:=P) (w:=w) (A:=A.in1) hh I l xy hc!;cases hi;have e1:=List.drop_eq_nil_iff.mp hd;have ej:j=full.toArray.size:=by rw[HZ];omega
  refine RI PySem.F.entry_max_loop ?_;rw[qg!];refine HP qg_;refine HP (RQ (W.done _ _ _ ⟨by rw[<-ej];exact it,il⟩ λh' fw k=>?_))
  match σ,ha with
  |none,ha=>
   obtain⟨t,rfl⟩:=ha rfl rfl;exact HP (LJ (HS (hR t _ _ λb o b1 b2 e=>k b o kA! e)))
  |some (b,t),_=>
   exact HP (wpAny_updateSeq (hz:=b1d) (k S _ qh! hS) rfl (HP (PK (HS (hR t _ _ (qQ k))))))
 |x::xs,us,j,σ,h,tk,c,hd,hj,hi,ha,it,il,hS,hR=>by
  have W:=Walks.list (prog:=P) (w:=w) (A:=A.in1) hh I l xy hc!;have nm:qi_="max.loop":=by decide
  cases hi with
  |@cons _ t us _ hi=>
   have bd:j<kA_:=by
    obtain z|z:=LM j kA_
    .exact z
    .rw[List.drop_eq_nil_iff.mpr z]at hd;rcases hd
   have hv:full[j]?=some (.int x t):=by
    have:=congrArg (·[0]?) hd;simpa[RK]using this
   have jw:full.drop (j+1)=us:=by
    rw[<-List.tail_drop,hd];rfl
   refine RI PySem.F.entry_max_loop ?_;rw[qg!];refine HP qg_;have go:∀(y:Int) (ty:Tok),y=max (Ws k σ [x]) y->∀(h':Heap) (fw c':Nat),qe!->h'.IsListIter I l (j+1)->h'.IsList l hc!->h'.get? S=some (seqObj "list" #[.int y ty,.int y ty] c')->Ws k σ ek_=xs.foldl max y->
     codeAny B_ A qf_ R {s with heap:=h',toks:=fw}:=λy ty _ h' fw c' k YV YW jr e=>
    a6v hh xy t9 xz xs us (j+1) (some (y,ty)) h' fw c' jw bd hi (λz=>by rcases z) YV YW jr λt' h2 YX k2=>by
     have:=hR t' h2 YX λb o b1 b2 e=>k2 b o b1 b2 (k b o b1 b2 e);rw[e]at this;exact this
   refine HP (RQ (W.item j _ _ _ (by rw[HZ];exact bd) ⟨it,il⟩ λv h' fw hP st k=>?_));have ev:v=.int x t:=by
    have:full[j]?=some v:=by simpa using hP
    rw[hv]at this;exact(JO this).symm
   subst ev;have jr:=k S _ qh! hS;have kk:∀b o,b≠I->b≠S->h.get? b=some o->h'.get? b=some o:=λb o b1 _ e=>k b o kA! e
   match σ,hR,jr,go with
   |none,hR,jr,go=>
    show wpAny _ A.in1 (updateSeq S (λ_=>#[.int x t,.int x t])>>=_) _ _ _;refine HP (wpAny_updateSeq jr rfl ?_);rw[nm];refine HS ⟨PZ ML _,go x t (by simp[Ws]) _ _ _ (qQ k) ?_ ?_ qk_ rfl⟩
    .obtain⟨o,e1,e2⟩:=st.1;exact ql_
    .obtain⟨o,e1,e2⟩:=st.2;exact qm_
   |some (b,tb),hR,jr,go=>
    show wpAny _ A.in1 (tryCatch (holding [.int x t,.int x t] (richCompare .Gt (.int x t) (.int b tb)>>=_)) _>>=_) _ _ _;refine HP (RQ (JS (HP (CmpOf.ints_gt (prog:=P) (w:=w) (A:=A.in1) (P:=λi v=>∃t,v=.int (if i=0 then x else b) t) (λi=>if i=0 then x else b) (λi v h=>h) 0 1 _ _ _ _ _ dw! ⟨tb,rfl⟩ ?_))));refine HP (JS (JW ?_));refine HP (PK Q!);show wpAny _ A.in1 (if decide (x>b)=true then _ else _) _ _ _;by_cases g:x>b
    .rw[IN g,D!];refine HP (wpAny_updateSeq (hz:=b1d) jr rfl (HP (PK ?_)));rw[nm];refine HS ⟨PZ ML _,go x t qo! _ _ _ (qQ k) ?_ ?_ qk_ (by show(ek_).foldl max b=_;rw[OV,show max b x=x by omega])⟩
     .obtain⟨o,e1,e2⟩:=st.1;exact ql_
     .obtain⟨o,e1,e2⟩:=st.2;exact qm_
    .rw[IG g,bw_];refine HP (PK ?_);rw[nm];exact HS ⟨PZ ML _,go b tb qo! _ _ _ kk st.1 st.2 jr (by show(ek_).foldl max b=_;rw[OV,show max b x=b by omega])⟩
end
end DL
namespace DL
open PySem PySem.Spec PyProof.Rows L2
def b0q:∀(a:wY!) (k:pJ_),argsOk "max" ⟨[a],(k.map λv=>qp!).toList⟩
 |_,none=>by unfold argsOk;kernel_rfl
 |_,some _=>by unfold argsOk;kernel_rfl
def c5y:bootBuiltins "max"=some qq!:=by decide+kernel
section
variable{P:xc!}{w:wZ!}{A:wX!}{E:Value->Shared->Prop}{Q:Value->Shared->Prop}{s:xR!}{l:qT!}{dv:Option Value}{k:Int}
def b4l(hh:bh!)(hl:Bq!)(hi:IntsAre us xs)(a9:xs=[]->∃t,dv=some (.int k t))
  (hQ:∀t h' fw,qs!->Q (.int (Ws k none xs) t) {s with heap:=h',toks:=fw}):
  wpAny B_ A (call qq! [.ref l] (qt!).toList) Q E s:=by
 have nm:qi_="max.loop":=by decide
 obtain⟨ol,YY,_⟩:=id hl;have TU:=IT YY;refine kmb_tree PySem.F.kind_max PySem.F.plain_max PySem.F.entry_max (b0q _ _) ?_;refine HP (wpAny_of_eq (show Builtin.Builtins.bindParams "max" ["key","default"] 0 ⟨[],(qt!).toList⟩=pure [none,dv]by cases dv<;>rfl) ?_);refine HP (HS (HP (wpAny_pyIter_list hl (HP pa_))));rw[nm];generalize hG:s.heap.push {cls:=.type "list_iterator",data:=.fields #[.ref l,.int 0 0]}=G;have hS:G.objs.size=i!+1:=by rw[<-hG];exact size_push' ..
 have gI:G.get? i!=some {cls:=.type "list_iterator",data:=.fields #[.ref l,.int 0 0]}:=by rw[<-hG];exact IL _ rfl
 have gk:∀b o,s.heap.get? b=some o->G.get? b=some o:=λb o e=>by rw[<-hG];exact HU _ e
 refine HS ⟨PZ ML _,a6v hh (JH TU) (by rw[hS];exact MX (PH _)) (by rw[hS];exact MX (QI TU)) xs us 0 none _ _ 0 rfl bw! hi (λ_ z=>by obtain⟨t,rfl⟩:=a9 z;exact dw!)
  ⟨_,HU _ gI,rfl,rfl⟩ ?_ i3! λt h' fw k=>hQ t h' fw λb o e=>?_⟩
 .obtain⟨o,e1,e2⟩:=hl;exact⟨o,HU _ (gk _ _ e1),e2⟩
 .have hb:=IT e;exact k b o (JH hb) (by rw[hS];exact JH (QI hb)) (HU _ (gk b o e))
end
section
variable{X:Cx}{own:List Nat}{e:Expr}{fa:WE}{p p2 kp pos:Pos}{k:Int}{j:Nat}
def a1p:∀{xs:u!} {us:l_},Ar (xs.map V.int) us->IntsAre us xs
 |[],_,.nil=>.nil
 |x::xs,_,.cons r t=>by obtain⟨tk,rfl⟩:=r;exact .cons x tk (a1p t)
def Wu(k:an_):List D->Option D
 |[.lst ds]=>(Kh ds).bind λxs=>if xs=[]then k.map .int else some qx!
 |_=>none
def c7o{k:an_}(h:(if xs=[]then k.map D.int else some qx!)=some d):∃i,d=.int (Ws i none xs)/\(xs=[]->k=some i):=by
 match xs with
 |[]=>obtain⟨i,e,rfl⟩:=IA.mp h;exact⟨i,rfl,λ_=>e⟩
 |x::xs=>cases h;exact⟨0,rfl,λz=>by rcases z⟩
def b9z(YZ:Gl X "max")(xt:X.mg "max"=none)(hc:aq_)(ha:ME X own e fa)(he:ge_:=by rfl):
  ME X own (.Call (.Name "max" p) [e] [⟨some "default",.Constant c8! j p2,kp⟩] pos) (w1 (λ_=>Wu jO_) (Ab fa Ac)):=⟨by
 rintro J s Z H Q I ⟨G,ρ,M,R,st,e1,kq⟩;refine LW (iE I YZ xt c5y ?_ a_ a_);refine callWith_kw (cZ ((aB ha aH he).ok pos J s Z H _ I ⟨G,ρ,M,_,st,e1,λds M1 vs G1 H1 r1 x1 m1 q1=>(⟨ds,M1,G1,r1,x1,m1,q1⟩:∃ds M1 G1,Ed (Wu jO_ ds) (λd=>R d M1)/\XM M G H M1 G1 H1/\MR X.prog X.w X.K M1 G1 H1/\Ak X.K G1 ds vs)⟩) ?_) j3! j3! rfl rfl;rintro us s1 ⟨vs,H1,I1,r,ds,M1,G1,r1,x1,m1,q1⟩;refine kws_cons (wpAny_Constant_int Bt!);obtain⟨d,Y,h2⟩:=cW r1;unfold Wu at Y;split at Y
 .rename_i pi;obtain⟨xs,e2,Y⟩:=HQ.mp Y;obtain⟨v,t,rfl,rv,rr⟩:=bB q1;obtain rfl:=cK rr;obtain⟨l,vs,rfl,sq,rx⟩:=bJ rv;rw[kZ rx e2]at sq;obtain⟨its,hv,pl,hz⟩:=I1.list Bt_;obtain⟨u,rfl,ru⟩:=mL r;subst ru;obtain⟨i,rfl,hi⟩:=c7o Y;exact b4l (dv:=some _) (I1.ok.hd hc) pl.isList (a1p hv) (λz=>⟨_,by obtain rfl:=JO (hi z);rfl⟩) λt h' fw kp=>⟨.int _,H1,I1.kept kp,dw!,kq _ M1 _ G1 H1 h2 x1 m1 Ao.int⟩
 .rcases Y⟩
end
end DL
namespace DL
open PySem PySem.Spec PyProof.Rows L2
abbrev En(h:Heap)(e it:qT!)(f:wY!)(b:Bool)(i:Int)(old:wY!):Prop:=
 h.get? e=some {cls:=.type "enumerate",dict:=none,data:=.fields #[f,.bool b,.ref it,rawInt i,.none,old],slots:=#[]}
section
variable{prog:xc!}{w:wZ!}{A:wX!}{E:Value->Shared->Prop}{s:xR!}
def zQ(h:Q (s.heap.get? a) s):wpAny l! A (loadIfAlive a) Q E s:=λΓ p hG=>h
def a1w{i T:Nat}{Q:I!}
  (he:En s.heap e it d6_ b i old)(hT:s.heap.get? T=some oT)(Y0:T≠it)(qk:T≠e)(ar:kJ_)(hl:kK!)(hx:qC_)(a9:gM!)
  (hQ:∀h',En h' e it d6_ true e7! old->h'.IsListIter it l ag!->
   h'.get? i!=some {cls:=.type "tuple",data:=.seq #[.int i s.toks,x]}->j5!=i!+1->
   qB_->Q a4_ {s with heap:=h',toks:=s.toks+1}):
  wpAny l! A (Builtin.«enumerate.__next__» ⟨[.ref e],[]⟩) w9_ E s:=by
 show"#:";show wpAny _ _ qE_ _ _ _;refine HP qD_;refine HP (wpAny_nextOf_list_item ar hl hx λh₁ TV ql=>?_)
 replace ql:Heap.SameBut it hp h₁:=ql
 have ve:=(ql.2 e a9).trans he;refine HP qE!;refine HP qE!;refine HP (wpAny_mkInt ?_);refine HP (LI ve c! λji vf qm=>?_)
 replace qm:Heap.SameBut e h₁ ji:=qm
 replace vf:En ji e it d6_ b e7! old:=vf
 refine HP (LI vf c! λg6 vg qo=>?_)
 replace qo:Heap.SameBut e ji g6:=qo
 replace vg:En g6 e it d6_ b e7! old:=vg
 show wpAny _ _ (newTuple [.int i tk,x]>>=_) _ _ ⟨g6,g,d,tk+1,os⟩;refine HP (RS ?_);have ua:En (g6.push {cls:=.type "tuple",data:=.seq #[.int i tk,x]}) e it d6_ b e7! old:=HU _ vg;generalize ub:g6.push {cls:=.type "tuple",data:=.seq #[.int i tk,x]}=jk at ua;have bn:g6.objs.size=ft!:=by rw[qo.1,qm.1,ql.1]
 have Y1:e<ft!:=IT he;have Y2:jk.get? ft!=some {cls:=.type "tuple",data:=.seq #[.int i tk,x]}:=by rw[<-ub,<-bn];exact IL _ rfl
 have Y3:jk.objs.size=ft!+1:=by rw[<-ub,NE,bn]
 have TW:∀b o,b≠e->b≠it->hp.get? b=some o->jk.get? b=some o:=λb o dw x5 hb=>by
  rw[<-ub];exact HU _ (qo.extBut b o dw (qm.extBut b o dw (ql.extBut b o x5 hb)))
 have Y4:jk.IsListIter it l ag!:=by
  rw[<-ub];obtain⟨o,ho,r⟩:=(TV.extBut qm.extBut (JF a9)).extBut qo.extBut (JF a9);exact⟨o,HU _ ho,r⟩
 have Y5:=TW T oT qk Y0 hT;show wpAny _ _ (Builtin.SmallTypes.ownedTupleIsFree aw_>>=_) _ _ ⟨jk,g,d,tk+1,os⟩;rw[bn];clear ub vg qo vf qm ve ql TV bn g6 ji h₁;refine HP ?_;unfold Builtin.SmallTypes.ownedTupleIsFree;refine HP (JX ua rfl (x:=rawInt T) rfl ?_);show wpAny _ _ (loadIfAlive (((T:Nat):Int).toNat)>>=_) _ _ _;rw[NZ];refine HP (zQ ?_);show wpAny _ _ (if(jk.get? T).isNone=true then _ else _) _ _ _;rw[Y5];show wpAny _ _ (field aw_ 1>>=_) _ _ _;refine HP (JX ua rfl (x:=.bool b) rfl ?_);have fin:∀j0,En j0 e it d6_ true e7! old->Heap.SameBut e jk j0->Q (.ref ft!) ⟨j0,g,d,tk+1,os⟩:=λj0 x6 qq=>
  hQ j0 x6 (Y4.extBut qq.extBut (JF a9)) (qq.extBut _ _ (MX Y1) Y2) (by rw[qq.1,Y3]) λb o dw x5 hb=>qq.extBut b o dw (TW b o dw x5 hb)
 cases b with
 |true=>exact HS (HS ⟨_,rfl,fin jk ua ⟨rfl,fu!⟩⟩)
 |false=>
  show wpAny _ _ (setField aw_ 1 eu!>>=_) _ _ _;exact HP (LI ua c! λj0 x6 qq=>HS (HS ⟨_,rfl,fin j0 x6 qq⟩))
def c0x(a:qT!)(xs:bD!)(name:Str)(u:Tok)(TY:typeLookup kO! name=pure none)(Y6:(["__module__","__name__","__qualname__","__doc__","__annotations__"]:List Str).contains name=false)(bn:name.length+100<=sizeLine):
  Meets (Builtin.«object.__getattribute__» ⟨[dg!,.str name u],[]⟩) (λA R s=>s.heap.get? a=some {cls:=.type "enumerate",dict:=none,data:=.fields xs,slots:=#[]}/\raisesAttr D_ name A R s):=
 Meets.of_wp λprog w A R s hs=>by
  show"#:";obtain⟨hx,hs⟩:=hs;unfold Builtin.«object.__getattribute__»
  repeat (any_goals (first|assumption|wp_step))
  simp only[Y6,JK,KC]
  repeat (any_goals (first|assumption|wp_step))
  exact wpAny_raiseAttrError hs.1 hs.2 (attrMsg_fits k_ bn)
def b6e:entryFor table "enumerate.__getattribute__"=some Builtin.«object.__getattribute__»:=
 entryFor_alias (id':="object.__getattribute__") ar! k_ k_ ar!
def a4q(hx:s.heap.get? a=some {cls:=.type "enumerate",dict:=none,data:=.fields xs,slots:=#[]})(hA:bh!)
  (h:∀h' tk,qs!->Q none {s with heap:=h',toks:=tk}):wpAny l! A (getAttr? D_ "keys") Q E s:=by
 show"#:";have hT:∀fw,(⟨hp,g,d,fw,os⟩:xR!).TypeIs D_ "enumerate":=λ_=>⟨_,hx,rfl⟩;have TY:typeLookup kO! "keys"=pure none:=am_miss_of_fast k_;have f1:=sub_AttributeError;have f3:=PU.lookup;have f4:=PU.bind D_;have f5:typeLookup kO! "__getattr__"=pure none:=F.plainAttrs_enumerate.noGetattr;unfold getAttr? getAttrBy? getAttrBy
 repeat (any_goals (first|assumption|exact hT _|((with_reducible show wpAny _ _ (call (Value.builtin "enumerate.__getattribute__") _ _) _ _ _);refine RM PU (hT _) b6e (F.args_enumerate_getattribute_2 _ _) (c0x a xs _ _ TY k_ gl!) ⟨hx,hA,λh' fw e iz=>?_⟩)|wp_step))
 obtain⟨t',u',he⟩:=iz.there;show wpAny _ _ (getattributeRaised _ _ _ _ _ _ _) _ _ _;unfold getattributeRaised
 repeat (any_goals (first|assumption|wp_step))
 exact h _ _ iz.keeps
end
def vS:entryFor table "dict.update.loop"=some Builtin.«dict.update.loop»:=entryFor_of_tree ar!
def vR:plainId "dict.update.loop"=true:=by decide+kernel
section
variable{X:Cx}{J:List (Addr×Obj)}{Z:St}{G H:Hp}{M:Mh}{s:xR!}{A:wX!}{R:Result->Shared->Prop}{e it c l:qT!}{vs:List V}{xs:List D}
def BI(X:Cx)(J:u_)(H:Hp)(h:Heap)(e it:qT!)(i:Nat):Prop:=
 Ah!\/∃T b old o,En h e it (rawInt (T:Nat)) b i old/\h.get? T=some o/\(∀v,o.data≠.cell v)/\T≠it/\T≠e/\Eo X J H T
def b6c(I:b_)(st:qL!)(ar:kJ_)(hl:kK!)(hx:qC_)(a9:gM!)
  (hQ:∀h',BI X J H h' e it ag!->h'.IsListIter it l ag!->h'.get? i!=some {cls:=.type "tuple",data:=.seq #[.int i s.toks,x]}->
   (∀b o,b∉cX_->s.heap.get? b=some o->h'.get? b=some o)->Q (some a4_) {s with heap:=h',toks:=s.toks+1}):
  wpAny d_ A qL_ Q E s:=by
 have kp:∀{h':Heap},qB_->∀b o,b∉cX_->s.heap.get? b=some o->h'.get? b=some o:=λk b o hb eo=>k b o fj_ fj_ eo;obtain⟨old,he⟩|⟨T,b,old,o,he,hT,hd,Y,h2,hf⟩:=st
 .have Y7:i!≠e:=λz=>LL _ (z▸IT he);have wk:i!≠it:=λz=>by
   obtain⟨o,q,_⟩:=ar;exact LL _ (z▸IT q)
  exact wpAny_pyNext_enum_item he ar hl hx a9 λh' a b c d k=>hQ h' (.inr ⟨_,_,_,_,qM!,c,λv z=>(by cases z),wk,Y7,I.fpOk p! en_⟩) b c (kp k)
 .have TZ:s.TypeIs aw_ "enumerate":=qM_;exact HP (OK (JV TZ PQ
   (JR PQ TZ F.entry_enumerate_next
    (a1w he hT Y h2 ar hl hx a9 λh' a b c d k=>HS (hQ h' (.inr ⟨T,_,_,o,qM!,k T o h2 Y hT,hd,Y,h2,hf⟩) b c (kp k))) qN!)))
def c0w(hh:bh!)(st:qL!)(ar:kJ_)(hl:kK!)(hx:ak[i]?=none)
  (hQ:Ae_):wpAny d_ A qL_ Q E s:=by
 have hg:∃f b old,En s.heap e it f b i old:=by
  obtain⟨old,he⟩|⟨T,b,old,o,he,_⟩:=st
  .exact qO!
  .exact qO!
 obtain⟨f,b,old,he⟩:=hg;have hT:s.TypeIs aw_ "enumerate":=qM_;refine HP (OK (JV hT PQ
  (JR PQ hT F.entry_enumerate_next ?_ qN!)))
 show wpAny _ _ qE_ _ _ _;refine HP qD_;refine HP (wpAny_nextOf_list_end hh ar hl hx λh' x iw iz=>?_);obtain⟨o,ho,hc⟩:=iz;refine HP (wpAny_isInstance ⟨o,ho,hc⟩ isSubtype_stop ?_);exact HS (hQ _ iw)
def b6d(st:BI X J H h e it i)(ar:h.IsListIter it l i)(hf:qO_):
  ∃fp:List Addr,(∀b∈cX_,b∈fp)/\kS!/\(∀b∈fp,∃o,h.get? b=some o/\∀v,o.data≠.cell v)/\∀(h2:Heap) (H2:Hp),(∀b∈fp,∀o,h.get? b=some o->h2.get? b=some o)->(∀b∈fp,Eo X J H2 b)->BI X J H2 h2 e it i:=by
 obtain⟨oi,q1,_,q2⟩:=ar;have hi:∃o,h.get? it=some o/\∀v,o.data≠.cell v:=⟨oi,q1,λv z=>by rw[q2]at z;cases z⟩;obtain⟨old,he⟩|⟨T,b,old,o,he,hT,hd,Y,h2,Y8⟩:=st
 .refine⟨cX_,λb hb=>hb,hf,bE_,λh2 H2 k _=>.inl ⟨old,k e c! _ he⟩⟩;simp only[HW,HY,OH]at hb;obtain rfl|rfl:=hb
  .exact qP_
  .exact hi
 .refine⟨[T,e,it],λb hb=>HR _ hb,bE_,bE_,λl9 H2 k k2=>.inr ⟨T,b,old,o,k e c! _ he,k T c! _ hT,hd,Y,h2,k2 T c!⟩⟩
  .obtain rfl|hb:=HW.mp hb
   .exact Y8
   .exact hf b hb
  .simp only[HW,HY,OH]at hb;obtain rfl|rfl|rfl:=hb
   .exact⟨o,hT,hd⟩
   .exact qP_
   .exact hi
def b0s(hi:i<f_):qR!=hn!++[(D.int (i:Nat),xs[i])]:=by rw[NA hi,List.zipIdx_append,JA,LH,SK a!];simp
def a5f:D.int (i:Nat)∉(hn!).map c_:=λz=>by
 rw[JZ]at z;show"#9";have:=List.snd_lt_of_mem_zipIdx hq;have h2:=D.int.inj e;rw[LH]at this;omega
def b6g(hc:aq_)(hA:bh!)(hu:A.in1.units<cLine)(a9:gM!)(hq:∀{H:Hp},At G H->Eh X.K H l vs)(rl:qT_)(hl:f_<=1000):∀(n i:Nat) (j:Int) (s:xR!) (H:Hp) (M:Mh),f_ - i=n->i<=f_->Inv X J Z H s->MR X.prog X.w X.K M G H->At G H->M c=some (.dct hn! i)->
  (∀b∈cX_,Eo X J H b)->BI X J H s.heap e it i->s.heap.IsListIter it l i->
  (∀H' s',Inv X J Z H' s'->XM M G H qU! G H'->MR X.prog X.w X.K qU! G H'->R (.ok Bd!) s')->
  codeAny d_ A (.builtin "dict.update.loop" ⟨[.ref c,.ref e,rawInt j,cG_],[]⟩) R s:=by
 intro n
 induction n with
 |zero=>
  intro i j s H M hn hi I m sub hM hf st ar hR;obtain⟨its,rv,pl,hz⟩:=I.list (hq sub);have Y:=aG rl;have h2:=d9_;refine RI vS ?_;refine HP (c0w hA st ar pl.isList be_ λh' eb=>?_);have I':Inv X J Z H {s with heap:=h',toks:=s.toks}:=gH I hf λc o hc eo=>eb c o hb! eo;have hx:mup M c cx_=M:=by
   have ei:i=f_:=by omega
   subst ei;rw[List.take_length]at hM;show"#'";split
   .rename_i z;rw[z,hM]
   .rfl
  have:=hR H _ I';rw[hx]at this;exact HP (HS (HS (this (.refl sub) m)))
 |succ n ih=>
  intro i j s H M hn hi I m sub hM hf st ar hR;obtain⟨its,rv,pl,hz⟩:=I.list (hq sub);have ez:i<f_:=by omega
  obtain⟨v,gv,Y9⟩:=gA rl (IE ez);obtain⟨u,om,ru⟩:=rv.get gv;refine RI vS ?_;refine HP (b6c I st ar pl.isList (by simpa using om) a9 λh' ac i' hT kp=>?_);have I':Inv X J Z H {s with heap:=h',toks:=s.toks+1}:=gH I hf kp;obtain⟨fp,f1,f2,f3,f4⟩:=b6d ac i' hf;have I2:=I'.pinned f2 f3;have Y':({s with heap:=h',toks:=s.toks+1}:xR!).TypeIs a4_ "tuple":=⟨_,hT,rfl⟩;refine HP (JS ?_);refine HP (RQ ?_);refine HP (RG Y' ?_);refine HP (LR hT rfl Q!);refine JS (a4y hu I2 m sub hM ⟨_,Ao.int,G!⟩ rfl ⟨v,Y9,ru⟩ (by rw[IK,RJ,LH];exact IQ (show min i f_<1001 by omega) a_) λbh s' I3 c'=>?_);have qc:Hq hn! fw! i=i+1:=by unfold Hq;rw[nL a5f];rfl
  rw[qc]at I3 c';rw[iW a5f,<-b0s ez]at c';have m':=m.write hM c';have x':XM M G H qW! G qW_:=XM.write m sub hM;have ZA:∀b∈fp,b≠c:=λb hb z=>m.has (by rw[hM];simp:M c≠none) (z▸(da_).1);have fk:∀b∈fp,Eo X J qW_ b:=λb hb=>⟨by rw[aS (ZA b hb)];exact(da_).1,(da_).2⟩;have pk:∀b∈fp,∀o,h'.get? b=some o->s'.heap.get? b=some o:=λb hb o eo=>(I3.pin ea_ (HX _ (HX _ (iD hb eo)))).1;have ZB:s'.heap.IsListIter it l ag!:=by
   obtain⟨o,q1,q2⟩:=i';exact⟨o,pk it (f1 it c!) o q1,q2⟩
  refine HS ⟨PZ vR _,ih ag! (j+1) s' _ _ a! ez I3.unpinned m' x'.sub mup_same (λb hb=>fk b (f1 b hb)) (f4 _ _ pk fk) ZB λH4 s4 I4 x4 m4=>?_⟩;have gb:mup qW! c cx_=mup M c cx_:=by
   show"#'";split<;>rfl
  rw[gb]at x4 m4;exact hR H4 s4 I4 (x'.trans x4 m') m4
end
end DL
namespace DL
open PySem PySem.Spec PyProof.Rows L2
def c1l:bootBuiltins "dict"=some qY_:=by decide+kernel
section
variable{X:Cx}{J:List (Addr×Obj)}{Z:St}{G H:Hp}{M:Mh}{s:xR!}{e it l:qT!}{vs:List V}{xs:List D}{E:Value->Shared->Prop}{Q:Value->Shared->Prop}
def a2i(hc:aq_)(hu:ah_)(I:b_)(m:by!)(sub:E!)(q:Eh X.K G l vs)(rl:qT_)(hl:f_<=1000)(he:IsEnum s.heap e it 0 .none)(ar:s.heap.IsListIter it l 0)(hf:qO_)(a9:gM!)
  (k:∀p H' s',M p=none->Inv X J Z H' s'->XM M G H qZ_ G H'->MR X.prog X.w X.K qZ_ G H'->Q b3! s'):wpAny d_ X.A (call qY_ [.ref e]) Q E s:=by
 have du:=I.fresh;refine callType_codes (Q₁:=λobj al=>obj=.ref i!/\al={s with heap:=s.heap.push {cls:=.type "dict",data:=.dict #[]}}) F.kt_called_dict (F.kt_typeCall_dict_1 _) F.entry_dict_init (kt_code_dict_new _ aH_) ?_;rintro obj al ⟨rfl,rfl⟩;have D0:Ms jC! s.heap.objs.size [] 0:=om!;have I1:Inv X J Z cW_ {s with heap:=s.heap.push {cls:=.type "dict",data:=.dict #[]}}:=by
  refine om_;show"!V"
 have x0:XM M G H gJ! G cW_:=.laid sub du;have m0:MR X.prog X.w X.K gJ! G cW_:=m.laid du sub on!;have u0:({s with heap:=s.heap.push {cls:=.type "dict",data:=.dict #[]}}:xR!).TypeIs a4_ "dict":=iX_;have x8:IsEnum jC! e it 0 .none:=HU _ he;refine⟨u0,F.args_dict_init_2 _ _,?_⟩;refine HP ?_;refine HP (PN u0 ?_);refine HS ?_;refine HP (RG ⟨_,x8,rfl⟩ ?_);refine HP (a4q x8 az! λh' tk kp=>?_);refine HP eR!;have I2:Inv X J Z cW_ {s with heap:=h',toks:=tk}:=I1.kept kp;have m8:=kp _ _ x8;refine HP (wpAny_pyIter_enum m8 (HS ⟨PZ vR _,?_⟩));have fk:∀b∈cX_,Eo X J cW_ b:=λb hb=>by
  refine⟨?_,(fw_).2⟩;have:b≠i!:=λz=>by
   subst z;simp only[HW,HY,OH]at hb;obtain z|z:=hb
   .exact LL _ (z▸IT he)
   .obtain⟨o,q1,_⟩:=ar;exact LL _ (z▸IT q1)
  rw[aS this];exact(fw_).1
 have ZC:h'.IsListIter it l 0:=by
  obtain⟨o,q1,q2⟩:=ar;exact⟨o,kp _ _ (HU _ q1),q2⟩
 refine b6g (A:=X.A.in1) hc az! (by have:=gW X.A;have:=gW X.A.in1;omega) a9 (λsb=>sb.seq q) rl hl xs.length 0 0 _ _ _ a! bw! I2 m0 x0.sub mup_same fk (.inl ⟨_,m8⟩) ZC λH4 s4 I4 x4 m4=>?_;have gb:mup gJ! s.heap.objs.size cx_=mup M s.heap.objs.size cx_:=by
  show"#'";split<;>rfl
 rw[gb]at x4 m4;exact⟨rfl,k _ H4 s4 (m.nocell du) I4 (x0.trans x4 m0) m4⟩
variable{own:List Nat}{a:Expr}{pos uc p p2:Pos}{fa:WE}
def Tw(f:WE):WE:=λρ M R=>f ρ M λd M1=>match d with
 |.lst xs=>f_<=1000/\∀p,M1 p=none->R x! q5!
 |_=>False
def a9z(hu:ah_)(hg:Gl X "dict")(hm:X.mg "dict"=none)(wm:Aj_)(wp:Ak!)(hc:aq_)(h:ap_)(hs:Ak_:=by rfl)(a7:(backTo uc lA_).any c_=false:=by rfl)
  (bu:starEach q6_ X.env=(false,eval (.Call q6! [a] [] uc) X.env)::starEach [] X.env:=by rfl)(ZD:Al!:=by rfl):
  ME X own (.Call (.Name "dict" p) q6_ [] pos) (Tw fa):=⟨by
 rintro J s Z H Q I ⟨G,ρ,M,R,st,e,k⟩;refine Call_ (iE I hg hm c1l (KJ ?_ bu ZD));refine LY ?_;refine Call_ (iE I wm wp boot_enumerate (KJ (cZ (dB h.ok fK hs uc J s Z H (λvs H1=>∃v xs M1 G1,vs=[v]/\(f_<=1000/\∀p,M1 p=none->R x! q5!)/\XM M G H M1 G1 H1/\MR X.prog X.w X.K M1 G1 H1/\Ao X.K G1 H! v) I ⟨G,ρ,M,_,st,e,ox!⟩) λus s1 ⟨vs,H1,I1,r1,v,xs,M1,G1,q1,t1,x1,m1,rr⟩=>?_) hs a7))
 .cases d<;>first|exact r1.elim|skip
  exact⟨v,_,M1,G1,rfl,r1,x1,m1,q1⟩
 subst q1;obtain⟨l,ys,rfl,q,rl⟩:=bJ rr;obtain⟨u,rfl,ru⟩:=mL r1;subst ru;obtain⟨its,rv,pl,hz⟩:=I1.list (x1.sub.seq q);refine call_enumerate_list pl.isList λh' he ar bn hk=>?_;have jo:∀b∈[x_+1,x_],x_<=b:=λb hb=>by
  simp only[HW,HY,OH]at hb;obtain rfl|rfl:=hb<;>omega
 refine OM ?_;exact a2i hc hu (I1.kept hk) m1 x1.sub q rl t1.1 he ar (λb hb=>I1.fpOk oC_ Am_) Am! λp H' s' hp I2 x2 m2=>⟨.ref p,H',I2,rfl,k _ _ _ G1 H' (t1.2 p hp) cl! m2 Ao.fn⟩⟩
end
end DL
namespace DL
open PySem PySem.Spec PyProof.Rows L2
def GK:List D->Option D
 |[.int i,.int j]=>some (.int (if j>i then j else i))
 |_=>none
section
variable{X:Cx}{own:List Nat}{b:Expr}{es:List Expr}{pos p2:Pos}{fs:WA}{fb:WE}
def Mm(fs:WA)(fb:WE):WE:=λρ M R=>fs ρ M λds M1=>g_<=1000/\fb ρ M1 λy M2=>match y with
 |.int k=>AA_/\R AB! M2
 |_=>False
def a6y(ha:eY!)(hb:bU!):ME X own AB_ (Mm fs fb):=
 eF AC! λZ G H Q ρ M R st e k=>⟨G,ρ,M,_,st,e,λds M1 vs G1 H1 r1 x1 m1 q1=>⟨by rw[<-aG q1];exact eG r1.1,λp hp=>by
  have xj:Bn G1 H1 G1 AC_:=a1v x1.sub hp;have hM:=m1.nocell hp;refine AD!;cases y<;>first|exact r2.elim|skip
  rename_i n;obtain rfl:=aU q2;obtain⟨⟨hn,gw,hl⟩,r2⟩:=r2;have xi:=x2.keep p _ bI hM;refine AD_;have xk:=(AE!).trans x2 oL!;have xl:Bn G2 H2 (upd G2 c q7_) (upd H2 c q7_):=Bn.laid x2.sub hc;exact k _ _ _ _ _ r2 (xk.trans (.ext xl) m2) (m2.ext xl) (cP (x2.sub.free hc) (rA bx_ _))⟩⟩
end
end DL
namespace L2
open PySem PySem.Spec PyProof.Rows
def Tu(lo c:Int)(n:Nat):It:=⟨q0!,λi H x H'=>H'=H/\x=.int kW_,q0_⟩
def zT(it:qT!)(lo c:Int)(n:Nat):Pf P w KF tg (Tu lo c n) [it] it (λi h=>IsRangeIter h it kW_ q4_ c) where
 mem:=by simp
 obj:=λi h st b hb=>by
  have e:b=it:=by simpa using hb
  subst e;exact⟨_,st,λv z=>by
   have z':Data.fields _=Data.cell v:=z;cases z'⟩
 keep:=λi h h' st k=>k it c! _ st
 item:=by
  show"!1";have W:=Walks.range (prog:=X.prog) (w:=X.w) az! it lo c n;show"!6";exact⟨_,rfl,a7q ac rfl rfl a_ ⟨.int kW_,H,I1,dw!,aH_,ac,hp_⟩⟩
 done:=by
  show"!1";exact wpAny_pyNext_range_end az! st (by have:n<=i:=hg;omega) λh' eb=>Af!
 self:=λ_ _ _ _ _ st h=>wpAny_pyIter_rangeiter st h
nonrec def szS(lo hi c:Int):Nat:=if lo<hi then(q9_ / c+1).toNat else 0
def b6m{x c:Int}(hx:0<=x)(hc:0<c):0<=x / c/\x / c<=x/\x / c*c<=x:=by have Y:=Int.ediv_nonneg hx (RZ hc);have h2:=Int.ediv_mul_le x (Int.ne_of_gt hc);refine⟨Y,?_,h2⟩;have:x / c*1<=x / c*c:=Int.mul_le_mul_of_nonneg_left a! Y;omega
def c6q{lo hi c:Int}(hc:0<c):Builtin.Range.rangeSize lo hi c=rb_:=by
 unfold Builtin.Range.rangeSize szS;rw[IB hc];by_cases h:lo<hi
 .rw[IB h,IB h];have:=(b6m (x:=hi - lo - 1) a! hc).1;omega
 .rw[IF h,IF h];rfl
def b8e{lo hi c:Int}(Y:0<=lo)(h2:lo<2 ^ 40)(h3:0<=hi)(h4:hi<2 ^ 40)(hc:0<c)(ir:c<2 ^ 40):Builtin.Range.small lo hi c=true:=by
 unfold Builtin.Range.small Builtin.Range.rangeSize;rw[IB hc];rw[IB hc];simp only[Builtin.Range.rangeFitsLong,JD,Bool.or_eq_true,IZ,LP];by_cases h:lo<hi
 .obtain⟨d1,d2,d3⟩:=b6m (x:=hi - lo - 1) a! hc;rw[IB h];generalize q9_ / c=q at *;generalize q*c=m at *;omega
 .rw[IF h];omega
section
variable{X:Cx}{tg:Expr}
def a8w{lo hi c:Int}(I:b_)(Y:0<=lo)(h2:lo<2 ^ 40)(h3:0<=hi)(h4:hi<2 ^ 40)(hc:0<c)(ir:c<2 ^ 40)
  (q:R (Tu lo c rc!) H):wpAny d_ X.A q8_ kS_ E {s with heap:=s.heap.push {cls:=.type "range",data:=.fields #[.int lo t,.int hi u,.int c v]},toks:=tk}:=by
 refine wpAny_pyIter_range q8! (b8e Y h2 h3 h4 hc ir) ?_;have I1:Inv X J Z H {s with heap:=s.heap.push {cls:=.type "range",data:=.fields #[.int lo t,.int hi u,.int c v]},toks:=tk}:=I.kept λb o e=>HU _ e;refine⟨(kY!).objs.size,[(kY!).objs.size],_,_,H,rfl,
  I1.kept λb o e=>HU _ e,zT _ lo c rc!,?_,λb hb=>?_,q⟩
 .have e1:lo+cy_*c=lo:=by simp
  have e2:rb_ - cy_=Builtin.Range.rangeSize lo hi c:=by rw[c6q hc];rfl
  rw[e1,e2];exact IL _ rfl
 .have e:b=(kY!).objs.size:=by simpa using hb
  show"!N"
def CS(ta:TA):TI:=λZ H R=>ta Z H λvs H1=>∃i j c:Int,vs=[aG_,.int j,.int c]/\(0<=i/\i<2 ^ 40/\0<=j/\j<2 ^ 40/\0<c/\c<2 ^ 20)/\R (Tu i c (szS i j c)) H1
def a9b(hg:hq_)(hm:hr!)(ha:PA X dX! ta)(hs:rd!:=by rfl)(bu:re_:=by rfl):
  PI X tg rf_ (CS ta):=by
 intro J s Z H R I h;refine Call_ (iE I hg hm boot_range (KJ (cZ fy_ λus s1 ⟨vs,H1,I1,r1,q1⟩=>?_) hs (by rw[bu];rfl)));obtain⟨i,j,k,e,⟨q1,q2,q3,q4,q5,q6⟩,q⟩:=q1;subst e;cases r1 with
 |cons r rr=>
  cases rr with
  |cons r' rr=>
   cases rr with
   |cons ZE rr=>
    cases rr;obtain⟨t,rfl⟩:=r;obtain⟨t',rfl⟩:=r';obtain⟨t'',rfl⟩:=ZE;exact call_range_3 a! (a8w I1 q1 q2 q3 q4 q5 a! q) (Or.inl rs_)
end
end L2
namespace DL
open PySem PySem.Spec PyProof.Rows L2
section
variable{X:Cx}{own:List Nat}{tg a b c:Expr}{fa fb fc:Ae->Option D}{p pos:Pos}
def Py(a c:Int)(n:Nat):List D:=(mZ!).map λi=>.int (a+(i:Nat)*c)
def Ol(f g h:j!):Ae->Option aD!:=λρ=>(V_).bind λx=>(g ρ).bind λy=>(h ρ).bind λz=>match x,y,z with|.int i,.int j,.int c=>if 0<=i/\i<=100000/\0<=j/\j<=100000/\0<c/\c<=1000 then some (Py i c (szS i j c))else none|_,_,_=>none
def b0o(hg:hq_)(hm:hr!)(ha:N_)(hb:ce!)(hc:ng_)(hs:rd!:=by rfl)(bu:re_:=by rfl)
  (de:starEach (a::dR_) X.env=c9_::starEach dR_ X.env:=by rfl)(jm:starEach (b::[c]) X.env=nH!::starEach [c] X.env:=by rfl)(jn:starEach (c::[]) X.env=rd_::starEach [] X.env:=by rfl):DI X own tg rf_ (Ol fa fb fc):=
 a2b (a9b hg hm (dB ha.ok (dB hb.ok (dB hc.ok fK jn) jm) de) hs bu) λZ G H R ρ ds er e k=>by
  obtain⟨x,e1,e3⟩:=HQ.mp e;obtain⟨y,e2,e5⟩:=HQ.mp e3;obtain⟨z,e6,e4⟩:=HQ.mp e5;clear e e3 e5;split at e4
  .rename_i i j c;split at e4
   .rename_i h;rcases e4;refine⟨G,ρ,_,er,e1,λv G1 H1 s1 r1=>⟨G1,ρ,_,cM!,e2,λw G2 H2 s2 r2=>⟨G2,ρ,_,(er.grow s1).grow s2,e6,λw3 G3 H3 s3 r3=>?_⟩⟩⟩;obtain rfl:=aU r1;obtain rfl:=aU r2;obtain rfl:=aU r3;refine⟨i,j,c,rfl,p_,k _ G3 H3 ((dB!).trans s3) ?_⟩;intro n G' H' g1 g2;unfold Py;refine v5!;rw[JL]at hd;obtain⟨m,hj,rfl⟩:=IA.mp hd;obtain⟨hl,he⟩:=IS.mp hj;rw[List.getElem_range]at he;subst he;rw[NX]at hl;refine v5_;obtain⟨z1,z2⟩:=hy;subst z1 z2;exact⟨G',Bn.refl g2,Ao.int⟩
   .rcases e4
  .rcases e4
end
end DL
namespace DL
open PySem PySem.Spec PyProof.Rows L2
def b9d(l:n!)(a:Nat):∀m:Nat,((List.range m).map λk=>a+k).filterMap (λk=>l[k]?)=(l.drop a).take m:=λm=>by
 induction m with
 |zero=>rfl
 |succ m ih=>
  rw[List.range_succ,JA,List.filterMap_append,ih,List.take_succ,RK];cases e:l[a+m]?<;>simp[e]
def c0i{i j n:Nat}(h:i<=j):Builtin.Str.strSliceIndices db! rk_ 1 n=(List.range (min j n - min i n)).map λk=>min i n+k:=by
 rw[<-StrLaws.strSliceIndices_plain (len:=n) a! a!];unfold Builtin.Str.strSliceIndices;have e:∀k:Nat,max (0:Int) (min (if(k:Int)<0 then(k:Int)+n else k) n)=max 0 (min (if kZ!<0 then kZ!+n else kZ!) n):=λk=>by
  rw[dq!,dq!];omega
 simp only[h5!,KZ];rw[e i,e j]
def zW{i j:Nat}(h:i<=j):Txt.slice z db! rk_=⟨((kZ_).take (j - i)).toArray⟩:=by
 have hl:aw!=lX!:=by rfl
 have e:((z.cps.toList.drop (min i aw!)).take (min j aw! - min i aw!))=(kZ_).take (j - i):=by
  rw[hl];generalize z.cps.toList=l;obtain c|c:=Nat.le_total i ab_
  .rw[SK c];obtain d|d:=Nat.le_total j ab_
   .rw[SK d]
   .rw[Nat.min_eq_right d,rm!,rm!]
  .rw[Nat.min_eq_right c,List.drop_eq_nil_of_le p!,List.drop_eq_nil_of_le c,List.take_nil,List.take_nil]
 unfold Txt.slice;rw[c0i h];split
 .rename_i c;simp only[LS,Bool.true_and,LP,IK,NX]at c;have h0:min i aw!=0:=by omega
  rw[<-e,c,h0,List.drop_zero,hl,List.take_length]
 .rw[<-e,<-b9d];congr 2;refine congrArg (λf=>List.filterMap f _) (funext λk=>?_);simp
def b8f{i:Nat}:Txt.slice z db! none=⟨(kZ_).toArray⟩:=by
 have hl:aw!=lX!:=by rfl
 have e:Txt.slice z db! none=Txt.slice z db! rn!:=by
  unfold Txt.slice;have e2:Builtin.Str.strSliceIndices db! none 1 aw!=Builtin.Str.strSliceIndices db! rn! 1 aw!:=by
   unfold Builtin.Str.strSliceIndices;simp only[h5!,KZ];congr 1;rw[dq!];omega
  rw[e2]
 rw[e,zW (Nat.le_max_left _ _),MM (by rw[OI,<-hl];omega)]
section
variable{X:Cx}{own:List Nat}{a:Expr}{te:TE}{tl th:TO}{pos p2:Pos}{fa:Ae->Option D}{ol oh:Ae->Option (Option Int)}{lo hi:Option Expr}
def FA:V->Option Int->Option Int->Hp->VK->Prop:=λx lo hi H Q=>∃z i,x=.str z/\lo=some i/\aw!<=sizeLine/\Q (.str ro_) H
def a9d(he:PE X a te)(hl:PO X lo tl)(hu:PO X hi th):PE X mR_ (GG FA te tl th):=by
 intro J s Z H Q I h;refine Subscript_ bY_;rintro v s1 ⟨x,H1,I1,r1,q1⟩;refine wpAny_Slice s7_;rintro vu s3 ⟨u,H3,I3,pu,q3⟩;rw[evalPart_none];refine HS ?_;obtain⟨z,i,rfl,rfl,hz,q⟩:=q3;obtain⟨t,rfl⟩:=r1;cases pl;have kp:KeptH λh=>Inv X J Z H3 {s3 with heap:=h}:=λh ob p=>p.kept λb u q=>HU _ q;have fin:∀(h':Heap) (t':Tok) (k:Nat),Inv X J Z H3 {s3 with heap:=h'}->EP X J Z Q (.str (Txt.slice z h0! u) t') {s3 with heap:=h',toks:=k}:=λh' t' k p=>⟨.str _,H3,p.tok k,G!,q⟩;cases pu with
 |none=>
  obtain⟨T,id,hT,ht,hg⟩:=PySem.SBH.sliceItem_sn kp I3 fin hz;exact tail_any ht hT hg lR_
 |int j tj=>
  obtain⟨T,id,hT,ht,hg⟩:=PySem.SBH.sliceItem_ss kp I3 fin hz;exact tail_any ht hT hg lR_
def Xa(z:Str)(i:Int)(hi:an_):Option D:=if 0<=i/\aw!<=big then(match hi with
 |none=>some (.str ⟨(rq!).toArray⟩)
 |some j=>if i<=j then some (.str ⟨((rq!).take (j.toNat - i.toNat)).toArray⟩)else none)else none
def c1i{hi:an_}(h:Xa z i hi=some d):d=.str ro_/\aw!<=big:=by
 unfold Xa at h;split at h
 .rename_i c;obtain⟨n,hn⟩:∃n:Nat,(n:Int)=i:=⟨i.toNat,p_⟩;subst hn;refine⟨?_,c.2⟩;cases hi with
  |none=>rw[b8f];exact(JO h).symm
  |some j=>
   have h:(if(n:Int)<=j then some (D.str ⟨((z.cps.toList.drop ((n:Int)).toNat).take (j.toNat - ((n:Int)).toNat)).toArray⟩)else none)=some d:=h;split at h
   .rename_i c2;obtain⟨m,hm⟩:∃m:Nat,(m:Int)=j:=⟨j.toNat,p_⟩;subst hm;rw[zW a!];exact(JO h).symm
   .rcases h
 .rcases h
def Px(d:D)(l h:an_):Option D:=match d,l with
 |.str z,some i=>Xa z i h
 |_,_=>none
def Qo(f:j!)(ol oh:mR!):Ae->Option D:=λρ=>(V_).bind λd=>(ol ρ).bind λl=>(oh ρ).bind λh=>Px d l h
def vT(ha:N_)(hl:vN!)(hh:vN_):DE X own mR_ (Qo fa ol oh):=
 eE (a9d ha.ok hl hh) λZ G H Q ρ d er e k=>by
  show"!;";show"!?";unfold Px at e;show"!8"
  .obtain rfl:=cB r3;obtain⟨c1,c2⟩:=c1i e;rw[c1]at k;exact⟨_,_,rfl,rfl,JG c2 k_,k _ _ _ s4 Ao.str⟩
  .rcases e
end
end DL
namespace XS
open PySem PySem.Spec PyProof.Rows PySem.W L2
section
variable{X:Cx}{J:List (Addr×Obj)}{D:Qr}{xD:Str}{cp mi hp:Pos}{rx:Expr}{v0:V}{D0 L:qT!}
def b8v{body:d2_}{t:(Value->Hp->Prop)->TS}(bc:rt!)(hf:kp!=some L)(x9:kq!)(ya:rt_)
  (hg:Gl X xD)(hm:ru!)(Cc:Xe X.K D0)
  (hb:∀pn f R,Lv d0! R->Nf d0! body (t R))(a8:ru_:=by decide):
  PS X rw_ λD Z H=>t rx! D Z H:=by
 intro J s Z H D I h;have lv:Lv rx_ rx!:=by
  intro rf ae H' s' n a cls av I Nn i x hb q;obtain⟨c,rfl,SS,hD⟩:=q;have du:X.A.frames=some k6!:=by rw[<-bc];exact I.ok.frames
  have cm:∀b∈frA k6!,∃o,n.get? b=some o:=by rw[<-bc];exact Nn.frm
  have hl:s'.heap.FunFrames X.base k6!:=by rw[<-bc];exact I.stack
  refine c9e du hl hf cm i x λY T fl a0 a1 a2 a3=>?_;have ZF:H' T=none:=by
   obtain z|z:=a0
   .exact hb T z
   .exact I.hok.fresh z
  have ZG:n.get? T=none:=let⟨_,_,_,_,_,_,_,_,_,z,_⟩:=a1;z;rw[<-bc]at a2;have J1:=yO I Nn a2 λb h=>pF_;have tk:∀b∈[T],H' b=none/\n.get? b=none:=λb h=>by simp at h;subst h;exact⟨ZF,ZG⟩
  refine yT (s:={s' with heap:=Y}) (fo:=none) a3 cm a1 λh2 b1 b2 b3 b4=>?_;rw[<-bc]at b2;have J2:=yO J1 Nn b2 tk;refine wpAny_handleBy_cons (codeAny_handlers_test ?_) (by intro q;cases q);have I2:Inv k6_ [] ae H' {s' with heap:=h2}:=sO (ok:=c7j (c4b J2.ok)) J2 rfl (λp hp=>J2.pin p (IP _ hv!)) rfl λ_ _ z=>z;refine gR (X:=Ym X a bk_) I2 hg hm ?_ a8;obtain⟨ii,oe2,z0,oT2,ts2,e2,c2,d2,r2⟩:=id b1;refine a4d I2.kIn Cc e2 c2.1 SS ?_;dsimp only;refine codeAny_handlers_suite ?_;refine yT (s:={s' with heap:=h2}) (fo:=none) b3 cm b1 λh3 c1' UA c3 c4=>?_;rw[<-bc]at UA;have J3:=yO J2 Nn UA tk;have I3:Inv k6_ [] ae H' {s' with heap:=h3}:=sO (ok:=c7j (c4b J3.ok)) J3 rfl (λp hp=>J3.pin p (IP _ hv!)) rfl λ_ _ z=>z;have P:=cR (wQ (X:=Ym X a bk_) (pos:=mi) (ya a bk_));refine LB (P [] _ ae H' D I3 hD) (λf s5 z=>?_) λ_ _ z=>z.elim;have km:∀{bj H1},Inv k6_ [] bj H1 s5->Inv X J bj H1 s5:=λaf=>sO (ok:=c9b af.ok x9) af rfl rz_ rfl λ_ _ z=>z;cases f with
  |next=>obtain⟨bj,H1,af,q⟩:=z;exact ec!
  |brk=>obtain⟨bj,H1,af,q⟩:=z;exact ec!
  |cont=>obtain⟨bj,H1,af,q⟩:=z;exact ec!
  |ret u=>obtain⟨v,bj,H1,af,r,q⟩:=z;exact rA!
 refine wpAny_Try_except (LB (hb _ _ _ lv [] s Z H D (sO (ok:=c9a I.ok) I rfl (λp hp=>I.pin p hv!) rfl λ_ _ z=>z) h) (λf s1 z=>?_) λe s1 z=>z);have km:∀{bj H1},Inv rx_ [] bj H1 s1->Inv X J bj H1 s1:=λaf=>sO (ok:=c4b af.ok) af rfl rz_ rfl λ_ _ z=>z;cases f with
 |next=>obtain⟨bj,H1,af,q⟩:=z;exact QC ec!
 |brk=>obtain⟨bj,H1,af,q⟩:=z;exact ec!
 |cont=>obtain⟨bj,H1,af,q⟩:=z;exact ec!
 |ret u=>obtain⟨v,bj,H1,af,r,q⟩:=z;exact rA!
end
def AX(K:zM!)(l:ax_)(D0:qT!):Prop:=∀c,decide (c∈l)=true->W.subIn K c0! fC!=some true
def b7d{K:zM!}{D0:qT!}:AX K [] D0:=λc h=>absurd (KB h) c!
def vW{K:zM!}{a D0:qT!}{l:ax_}(h:W.subIn K D_ fC!=some true)(t:AX K l D0):AX K (a::l) D0:=λc hc=>by
 obtain z|z:=HW.mp (KB hc)
 .subst z;exact h
 .exact t c (IN z)
end XS
namespace DL
open PySem PySem.Spec PyProof.Rows L2 XS
section
variable{X:Cx}{own:List Nat}{e a o:Expr}{es:List Expr}{body:List Stmt}{pos ax ai:Pos}{f fo fa:WE}{fs:WA}{M0:Mh}{G0 F0:Hp}{E:EK}
def Vq(vh:Addr->Bool)(d:D)(q:EK->WS):WS:=λρ M R=>q (λc M2=>vh c=true/\R ae_ M2) ρ M R
def b9w{xD:Str}{cp mi hp:Pos}{rx:Expr}{v0:V}{D0 L:qT!}{vh:Addr->Bool}{q:EK->WS}
  (bc:rt!)(hf:kp!=some L)(x9:kq!)(ya:rt_)(ZH:∀G,Ao X.K G d0 v0)
  (hg:Gl X xD)(hm:ru!)(Cc:Xe X.K D0)(ZI:∀c,vh c=true->W.subIn X.K c0! fC!=some true)
  (hb:∀pn f M0 G0 F0 E,Lv d0! kv!->Nf d0! body (TX X M0 G0 F0 own own (q E)))
  (a8:ru_:=by decide):
  MS X own own rw_ (Vq vh d0 q):=⟨λM0 G0 F0 J s Z H D I ⟨G,ρ,M,R,sr,e,k1,k2⟩=>by
 refine b8v (t:=λRR D Z H=>∃E,(∀cls H',XR X.prog X.w X.K M0 G0 F0 E cls H'->RR cls H')/\TX X M0 G0 F0 own own (q E) D Z H) bc hf x9 ya hg hm Cc
  (λpn f RR lv J s Z H D I ⟨E,hE,h⟩=>hb pn f M0 G0 F0 E (λp1 p2 p3 p4 p5 p6 p7 p8 p9 mi ZJ ZK ZL z=>lv p1 p2 p3 p4 p5 p6 p7 p8 p9 mi ZJ ZK ZL (hE _ _ z)) J s Z H D I h) a8 J s Z H D I ⟨_,?_,G,ρ,M,R,sr,e,k1,k2⟩
 rintro cls H' ⟨c,M',G',h5,⟨h6,h7⟩,x,m⟩;exact⟨c,h5,ZI c h6,k2 _ M' _ G' H' h7 x m (ZH _)⟩⟩
def b9u(ho:cn_)(ha:PE X a (Qw X.prog X.w X.K M0 G0 F0 own fa))(bc:iI!:=by rfl)(gg:((og_).all b8_&&(b9!).all b9_
   &&decide oh!)=true:=by rfl) (gh:dv!:=by rfl)
  (gf:zf_:=by rfl) (gi:gf!:=by rfl):PE X zg! (Qw X.prog X.w X.K M0 G0 F0 own (Mo fo fa)):=
 λJ s Z H Q I ⟨G,ρ,M,R,sr,e,k⟩=>uQ NG QF QE oW ho.ok (dB ha fK bc) gf gg gh bc gi J s Z H Q I
  ⟨G,ρ,M,_,sr.st,e,λd M1 v G1 H1 r1 x1 m1 q1=>by
   obtain⟨c1,e1,r1⟩:=cW r1;obtain⟨rfl,rfl,_,xb,hH,_⟩:=kR m1 q1 e1;refine⟨zh!,G1,ρ,M1,_,sr.grow x1 m1,r1,zh_⟩;obtain⟨⟨p2,XD⟩,e2,r2⟩:=cW r2;obtain⟨z1,z2,z3,vs,Y,h2⟩:=kR m2 bx_ e2;cases z2;refine zi_;exact k _ _ _ _ _ r2.2 zj_ zk! Ao.non⟩
end
end DL
namespace K14
open PySem L2 DL
def Ec(i:Nat):Stmt:=PySem.Challenge.pw_manyhands_k14_whole_nothing_lost.main.body.getD i rF!
def Jj(i j:Nat):Stmt:=match Ec i with
 |.ClassDef _ _ _ b _ _ _ _ _ _ _=>b.getD j rF!
 |s=>s
structure As where
 mk::
 A0:Addr
 A7:Addr
 A8:Addr
 A9:Addr
 B0:Addr
 B1:Addr
 B2:Addr
 B3:Addr
 B4:Addr
 B5:Addr
 B6:Addr
 B7:Addr
 HandsError:Addr
 NotThere:Addr
 Nothing:Addr
abbrev Qz:Stmt:=Ec 12
abbrev Rb:Stmt:=Ec 13
abbrev Nt:Stmt:=Ec 14
abbrev Sr:Stmt:=Ec 15
abbrev Mv:Stmt:=Ec 16
abbrev Ss:Stmt:=Ec 17
abbrev Ov:Stmt:=Ec 18
abbrev Pr:Stmt:=Ec 19
abbrev So:Stmt:=Ec 20
abbrev Nr:Stmt:=Ec 21
abbrev Ra:Stmt:=Ec 22
abbrev Ky:Stmt:=Ec 24
abbrev Su:Stmt:=Ec 25
abbrev Mw:Stmt:=Ec 26
abbrev Lu:Stmt:=Ec 27
abbrev Rc:Stmt:=Ec 28
abbrev Ut:Stmt:=Jj 30 0
abbrev Pt:Stmt:=Jj 30 1
abbrev Kz:Stmt:=Jj 30 2
abbrev Ox:Stmt:=Jj 30 4
abbrev Oy:Stmt:=Jj 31 0
abbrev Ny:Stmt:=Jj 31 1
abbrev Jy:Stmt:=Jj 31 2
abbrev Nv:Stmt:=Jj 31 4
abbrev Lx:Stmt:=Jj 31 7
abbrev Ir:Stmt:=Jj 31 9
abbrev Je:Stmt:=Jj 31 10
abbrev Hz:Stmt:=Jj 31 11
abbrev Fx:Stmt:=Jj 31 12
abbrev Gi:Stmt:=Jj 31 13
abbrev Iu:Stmt:=Jj 31 14
abbrev Ki:Stmt:=Ec 33
abbrev Ou:Stmt:=Ec 34
abbrev Um:Stmt:=Ec 35
abbrev Xu:Stmt:=Ec 36
abbrev Uo:Stmt:=Ec 37
abbrev Sw:Stmt:=Jj 40 0
abbrev Pv:Stmt:=Jj 40 1
abbrev Ps:Stmt:=Ec 41
abbrev Ot:Stmt:=Ec 42
abbrev Po:Stmt:=Ec 43
abbrev Sq:Stmt:=Ec 44
abbrev Pq:Stmt:=Ec 45
abbrev Lw:Stmt:=Ec 46
abbrev Nu:Stmt:=Ec 47
abbrev Hm:Stmt:=Ec 48
abbrev Us:Stmt:=Ec 49
abbrev Gy:Stmt:=Ec 50
abbrev Sl:Stmt:=Ec 51
abbrev Xt:Stmt:=Ec 52
abbrev Ub:Stmt:=Ec 53
abbrev Nq:Stmt:=Ec 55
abbrev Zx:Stmt:=Ec 56
abbrev Mu:Stmt:=Ec 58
abbrev Jd:Stmt:=Ec 59
abbrev Hy:Stmt:=Ec 60
abbrev Vu:Stmt:=Ec 61
abbrev Uq:Stmt:=Ec 62
abbrev Re:Stmt:=Ec 63
abbrev Xs:Stmt:=Ec 64
abbrev Ur:Stmt:=Ec 65
abbrev Mp:Stmt:=Ec 66
abbrev Kx:Stmt:=Ec 68
abbrev Xv:Stmt:=Ec 69
abbrev Zw:Stmt:=Ec 70
abbrev Vv:Stmt:=Ec 71
abbrev Ua:Stmt:=Ec 72
abbrev Pp:Stmt:=Ec 73
abbrev Qy:Stmt:=Ec 74
abbrev Qx:Stmt:=Ec 75
abbrev Vz:Stmt:=Ec 77
abbrev Xw:Stmt:=Ec 78
abbrev Rf:Stmt:=Ec 87
abbrev Sv:Stmt:=Ec 88
abbrev Rg:Stmt:=Ec 89
abbrev Vy:Stmt:=Ec 92
abbrev Vw:Stmt:=Ec 93
abbrev La:Stmt:=Ec 94
abbrev Jf:Stmt:=Ec 95
abbrev Lz:Stmt:=Ec 96
abbrev Vx:Stmt:=Ec 97
abbrev Sn:Stmt:=Ec 98
def iZ:Ei rF_ [db_] (Aj Sn):=e_
def Tb:Ae->Option Fl:= (De (He (Mf "int" w_) (He (Zj (Mf "bool" w_)) (f2 Sh (f1 Yp al!) rH!))))
def Fi:List D->Option D:=Fm z! 1 (Tb)
def Td:Ae->Option Fl:= (De (He (f1 Fi al!) (Ea Kt Sh A_ w_ s_)))
def Gr:List D->Option D:=Fm lf! 2 (Td)
def Oz:Ae->Option Fl:= (De (He (f1 Fi al!) (f2 GP w_ C!)))
def Di:List D->Option D:=Fm z! 1 (Oz)
def Uz:Ae->Option Fl:= (Ib (Sx (Wx hy_ (fT (f2 Xg cA_ al_))) cB! Mx) (De (He (f1 Gr (Ad a5_ (Ad a6! Ah))) (f1 Di (Ad fD! Ah)))))
def Ek:List D->Option D:=Fm z! 1 (Uz)
def Oa:Ae->Option Fl:= (Ib (Sx (Wx hy_ (fT (f2 Xg cA_ az_))) cB! Mx) (De (He rO! (f1 Gr (Ad fD_ (Ad a6! Ah))))))
def Dr:List D->Option D:=Fm z! 1 (Oa)
def Va:Ae->Option Fl:= (De (Lm (f1 Ek al!) (Lm (f2 Aw w_ fE!) (f2 Aw w_ lg!))))
def Jv:List D->Option D:=Fm z! 1 (Va)
def Qd:Ae->Option Fl:= (De (Lm rQ_ (f1 Ek al!)))
def Gc:List D->Option D:=Fm z! 1 (Qd)
def Rm:Ae->Option Fl:= (De (Lm rQ_ (f1 Dr al!)))
def Hb:List D->Option D:=Fm z! 1 (Rm)
def Ux:Ae->Option Fl:= (De (He (Ea Kt Kt (fC lh!) w_ (fC lh_)) (f2 Xg (f1 AO al!) (fC (.int 37)))))
def Ca:List D->Option D:=Fm ee! 1 (Ux)
def Uw:Ae->Option Fl:= (Ib (Sx (Wx (Cp li_) (Cp lj_)) cB! Mx) (De (f1 Nc (Ad (Fz 1 [] (Pe w_) F! aA! b1!) Ah))))
def Ju:List D->Option D:=Fm z! 1 (Uw)
def Tc:Ae->Option Fl:= (De (f1 Gr (Ad w_ (Ad de! Ah))))
def Cb:List D->Option D:=Fm z! 1 (Tc)
def Dh(t:As):List bQ_:=[("put",.tup [de_,.fn t.A7]),("move",.tup [de_,de_,.fn t.A7]),("drop",.tup [de_]),("write",.tup [de_,.fn t.A8,.fn t.A9]),("cut",.tup [de_,.fn t.B0,.fn t.B1]),("set",.tup [de_,.fn t.B2,.fn t.B3]),("undo",.tup [.fn t.B4]),("redo",.tup [.fn t.B4])]
def Hu(t:As):Addr->Option ni_:=λa=>if a=t.A0 then some Jv else if a=t.A7 then some Gc else if a=t.A8 then some Hb else if a=t.A9 then some Ju else if a=t.B0 then some Dr else if a=t.B1 then some Di else if a=t.B2 then some Cb else if a=t.B3 then some Fi else if a=t.B4 then some Ek else none
def Ro(t:As):Ae->Option Fl:= (Ib (Sx (fT (f2 Xg cA_ lk_)) cB! Mx) (De (f1 Nc (Ad (Fz 2 [] (AQ s_ w_) hD! aA! hC!) Ah))))
def El(t:As):List D->Option D:=Fm ll! 2 (Ro t)
def Vb(t:As):Ae->Option Fl:= (Ib (Sx (Wx hy_ (fT (f2 Aw cA_ A_))) cB! Mx) (Ib (Sx (Wx rV! rV_) cB! Mx) (Ib (Sx (Cp rW!) cB! Mx) (De (Lm rX! rX_)))))
def Ht(t:As):List D->Option D:=Fm z! 1 (Vb t)
def Ob(t:As):Ae->Option Fl:= (Ib (Sx (Wx hy_ (fT (f2 Xg cA_ de!))) cB! Mx) (De (He rO! (He (f1 Di (Ad fD_ Ah)) (f1 (Ht t) (Ad fE_ Ah))))))
def Bl(t:As):List D->Option D:=Fm z! 1 (Ob t)
def Mz:Ae->Option Fl:= (De (Ci (Ad fD_ (Ad a5_ Ah))))
def Cr:List D->Option D:=Fm bg! 1 (Mz)
def Oc:Ae->Option Fl:= (De (Tl Cr w_))
def Cn:List D->Option D:=Fm b2! 1 (Oc)
def Wq(t:As):WS:= (Af (Ez t.B7 "following" g! r0_) (Ez t.B7 "preceding" g! r0_))
def Et(t:As):WF:=Bd bG_ 1 (Wq t)
def Jh(t:As):WS:= (Aq (Tz (wl (f2 Du s_ bP!)) (w2 dg_ q_ cD!)))
def Hc(t:As):WF:=Bd aA_ 2 (Jh t)
def Mb(t:As):WS:= (Af (An 3 (DO r3_ C_ b2_)) (Af (An 4 (w2 Ce cD! aB!)) (Af (Bq cD! aB! q_) (Af (Bq ln_ q_ aB!) (Af (Bq cD! q_ am!) (Bq ln_ am! q_))))))
def Ch(t:As):WF:=Bd [aJ!,T_,a6_,"ahead","follower"] 3 (Mb t)
def Lc(t:As):WS:= (Af lp! (Af (An 2 (w2 Ce cD! b2_)) (Af (Jb r6! r7!) cD_)))
def Gd(t:As):WF:=Bd [aJ!,fF_,T_] 1 (Lc t)
def Qe(t:As):WS:= (Af (Ez t.B6 "parents" g! (Mn (Da lp_ b2_ (Da lq_ b2_ Kv)))) (Af (Ez t.B6 "rows" g! (Mn (Da lp_ fG! (Da lq_ fG! Kv)))) (Af (Ez t.B6 "texts" g! Fa) (Af (Ez t.B6 "numbers" g! Fa) (Af (Ez t.B6 "written" g! Fa) (Ez t.B6 "hidden" g! Fa))))))
def Ge(t:As):WF:=Bd bG_ 1 (Qe t)
def Kf(t:As):WS:= (Aq (w2 dg_ q_ hG_))
def Bk(t:As):WF:=Bd aA_ 2 (Kf t)
def Gj(t:As):WS:= (Aq (w2 dg_ q_ ej_))
def Bs(t:As):WF:=Bd aA_ 2 (Gj t)
def Pb(t:As):WS:= (Af (An 4 (DO (wT (Ay t.B6 "has" 2 fG_ g! dh!)) C_ lq_)) (Af sd! (Af sc! (Af sc_ (Af pS_ pW!)))))
def Hj(t:As):WF:=Bd [aJ!,aS_,"parent",ls_,el!] 4 (Pb t)
def Ij(t:As):WS:= (Af (Ap (Jx (wT (Ay t.B6 "has_item" 2 (Bs t) g! dh!))) Vr Bj) (Af (An 5 aB!) (Bw (Gh (Tk U_)) (Ui 6 7) (Af lt! (Af si! (Af si_ (An 5 el_)))))))
def Ft(t:As):WF:=Bd [aJ!,sj!,aS_,lv!,"text","ahead","k","sign",T_] 5 (Ij t)
def Ji(t:As):WS:= (Ap (wT (Ay t.B6 "has_item" 2 (Bs t) g! as_)) (Bq sj_ C_ aB!) Bj)
def Ds(t:As):WF:=Bd lv_ 4 (Ji t)
def Fy(t:As):WS:= (Aq (w2 Ce sb! q_))
def Dz(t:As):WF:=Bd aA_ 2 (Fy t)
def Fb(t:As):WS:= (Aq (Ay t.B7 "listed" 1 (Gd t) (w2 Ce hG_ q_) Ac))
def Dk(t:As):WF:=Bd aA_ 2 (Fb t)
def Kl(t:As):WS:= (Aq (Bb 1 [0] (Bo (Ay t.B7 "listed" 1 (Gd t) (w2 Ce ej_ q_) Ac)) F! (wT (w2 hL! g! (Au t.B6 "hidden" q_))) g!))
def Br(t:As):WF:=Bd b4_ 2 (Kl t)
def Ld(t:As):WS:= (Aq (No "" (Bb 1 [0] sm! F! fI_ (w2 Ce (Au t.B6 "written" q_) g!))))
def Eu(t:As):WF:=Bd b4_ 2 (Ld t)
def Fn(t:As):WS:= (Aq (w1 Ug (Ab sj_ Ac)))
def Dt(t:As):WF:=Bd b4_ 2 (Fn t)
def Lb:Ae->Option Fl:= (De (Lm so_ (f2 Aw ly! (fC ly_))))
def Am:List D->Option D:=Fm bg! 1 (Lb)
def Qc:WS:= (Af (An 1 Fa) (Af (Bw sp_ b5_ sq!) cD_))
def Es:WF:=Bd [eh!,"words",bG!] 1 (Qc)
def Wk:WS:= (Af (An 1 (Ag 1 Es an!)) (Af lB! (Af (Bw ss! B! hO!) dn!)))
def Gp:WF:=Bd [eh!,"words",fF_,bG!,T_] 1 (Wk)
def AJ(t:As):WS:= (Ap sw! (Az (Ay t.B6 "put" 4 (Hj t) g! (Ab q_ (Ab eo! (Ab hP_ Ac))))) (Ap sy! Bg (Ap sz_ Bg (Ap sC! (Az (Ay t.B6 "write" 5 (Ft t) g! (Ab q_ sD!))) (Ap sE! Bg (Ap sF! (Az (Ay t.B6 "set_number" 4 (Ds t) g! sD!)) Bj))))))
def Kr(t:As):WF:=Bd lE! 3 (AJ t)
def Wl(t:As):WS:= (Af sH! (Af (An 2 (Ag 1 Gp an!)) (Af (Bw sp_ B! (Af fK! sJ_)) cD_)))
def Jn(t:As):WF:=Bd [eh!,hQ_,do!,bG!,T_] 1 (Wl t)
def Vd(t:As):WS:= (Af (Ez t.B5 "ours" g! q_) (Af (Ez t.B5 "taken" g! Fa) (Af (Ez t.B5 "waiting" g! ep_) sL_)))
def Dw(t:As):WF:=Bd lF! 2 (Vd t)
def Rs(t:As):WS:= (Aq (w1 Qh (Ab sM_ Ac)))
def Cz(t:As):WF:=Bd lG! 2 (Rs t)
def Rp(t:As):WS:= (Af lp! (Af (Bw lI_ b5_ (Xp 1 lH_)) sO!))
def Cy(t:As):WF:=Bd [z_,eh!,a6_] 1 (Rp t)
def Qb(t:As):WS:= (Af (Ap (wT (w2 (λ_=>Oi) sO_ b2_)) (Ez t.B5 "outline" g! (Ag 1 (Jn t) lK!)) Bj) (Aq sO_))
def Cf(t:As):WF:=Bd au_ 1 (Qb t)
def Rj(t:As):WS:= (Aq (w2 (λ_=>Kt) hT_ sQ_))
def Fp(t:As):WF:=Bd bh_ 2 (Rj t)
def Uy(t:As):WS:= (Aq (w2 fL_ hT_ (w2 Kc sQ_ fP!)))
def Gg(t:As):WF:=Bd bh_ 2 (Uy t)
def Rl(t:As):WS:= (Af (Ap (wT (w2 fL_ (Ay t.B5 "have" 2 eo_ g! as_) aJ_)) (Aq aJ_) Bj) (Aq (w2 Ce (w2 Ce (w2 Ce fN_ q_) (wl fP_)) (wl al_))))
def Dq(t:As):WF:=Bd b7! 2 (Rl t)
def Na(t:As):WS:= (Af lB! (Af (Bw (Bo (w2 Kc sT! q_)) B! (Af fK! (Af sW_ sX!))) dn!))
def Df(t:As):WF:=Bd [z_,lN!,hY!,bG!,T_,"same"] 2 (Na t)
def Pa(t:As):WS:= (Af lB! (Bw (Bo (w1 Pw as_)) B! (Af sY! (Af s0! s0_))))
def Hi(t:As):WF:=Bd [z_,hY!,"times",T_,"time"] 2 (Pa t)
def Nb(t:As):WS:= (Af (Ap (Ck (Cp s2_)) Bg Bj) (Az (Ag 2 (Hi t) (Ab g! (Ab (Ag 2 (Df t) bL!) Ac)))))
def Ef(t:As):WF:=Bd dr! 2 (Nb t)
def Wp(t:As):WS:= (Af (Az (Mo (Hx fN_ hV! ep_) q_)) sL_)
def Jp(t:As):WF:=Bd bh_ 2 (Wp t)
def Ma(t:As):WS:= (Af (An 1 aJ_) (Af (An 2 (Bb 1 [0] (Bo sT!) F! (wT (Ag 2 (Gg t) lQ!)) g!)) (Af (Jb (Ck (fT (f2 Xh (f1 Bm bH_) A_))) Bg) cD_)))
def Dv(t:As):WF:=Bd [z_,"many","found"] 1 (Ma t)
def Uu(t:As):WS:= (Af s6_
 Bg)
def Hr(t:As):WF:=Bd [z_,bG!,"known"] 2 (Uu t)
def AI(t:As):WS:= (Af s7! (Af (An 2 aJ_) (Af (Bw er_ B! (Tx 2 s8_)) dn!)))
def Kq(t:As):WF:=Bd [z_,lN!,"many",bG!] 2 (AI t)
def AL(t:As):WS:= (Af (An 2 (Tw q_)) (Aq (Bb 1 [2] (Bo lJ_) F! (wT (w2 (λ_=>Xh) (wl fD!) (Ff q_ lS_ aJ_))) g!)))
def Gs(t:As):WF:=Bd [z_,"have",lT!] 2 (AL t)
def Uv(t:As):WS:= (Aq (Ag 2 dr_ (Ab g! (Ab tc! Ac))))
def Hs(t:As):WF:=Bd b7! 2 (Uv t)
def CI(t:As):WS:= (Af (An 2 (Ag 2 (Kq t) (Ab q_ (Ab (Ag 2 (Hs t) bL!) Ac)))) (Aq (w2 Kc C_ (Ag 2 (Kq t) (Ab g! (Ab (Ag 2 (Hs t) lQ!) Ac))))))
def Il(t:As):WF:=Bd ["one",a6_,"many"] 2 (CI t)
def My(t:As)(E:EK):WS:= (Af lU! tf!)
def Ee(t:As):Uj:=λds M R E=>Bd [z_,T_,hQ_] 2 (My t E) ds M R
def Gq(t:As):WF:=λds M R=>Ee t ds M R λ_ _=>False
def Jg(t:As)(E:EK):WS:= (Af lU! (Af (Ap tf_ te_ Bj) dn!))
def Bh(t:As):Uj:=λds M R E=>Bd [z_,aS_,hQ_] 2 (Jg t E) ds M R
def Cd(t:As):WF:=λds M R=>Bh t ds M R λ_ _=>False
def Ic(t:As)(E:EK):WS:= (Af th! (Aq ti!))
def Dd(t:As):Uj:=λds M R E=>Bd b7_ 3 (Ic t E) ds M R
def Dj(t:As):WF:=λds M R=>Dd t ds M R λ_ _=>False
def Yf(t:As):WS:= (Aq ti_)
def Jt(t:As):WF:=Bd aC! 2 (Yf t)
def Wm(t:As):WS:= (Aq (Ay t.B6 "parent_of" 2 (Dz t) lW_ as_))
def Li(t:As):WF:=Bd aC! 2 (Wm t)
def Te(t:As):WS:= (Aq (Ay t.B6 "children_of" 2 (Dk t) (Ag 2 (Gq t) bL!) as_))
def Gu(t:As):WF:=Bd aC! 2 (Te t)
def AH(t:As):WS:= (Aq (Ay t.B6 "text_of" 2 (Eu t) lW_ as_))
def Qm(t:As):WF:=Bd aC! 2 (AH t)
def Wn(t:As):WS:= (Aq (w2 Ce (Ay t.B6 "numbers_of" 2 (Dt t) (Ag 3 (Dj t) lX_) as_) C_))
def Jo(t:As):WF:=Bd b7_ 3 (Wn t)
def Ta(t:As):WS:= (Aq to_)
def Ko(t:As):WF:=Bd b7! 2 (Ta t)
def Rk(t:As):WS:= (Aq (w2 Kc fP! (w1 (λ_=>Wu (some 0)) (Ab tp_ Ac))))
def Ha(t:As):WF:=Bd au_ 1 (Rk t)
def AK(t:As):WS:= (Af (An 2 (Sk (Ab hX! (Ab (w2 Kc (Ay t.B5 "have" 2 eo_ g! (Ab hX! Ac)) fP!) Ac)))) (Af (Az (Ag 2 (Jp t) (Ab g! (Ab tr! Ac)))) dn!))
def Fh(t:As):WF:=Bd [z_,"deed",T_] 2 (AK t)
def AG(t:As)(E:EK):WS:= (Af (Az (Cs 2 (Ee t) E bL!)) (Aq (Ag 2 dt! (Ab g! (Ab (wl (Ci (Ad su_ ts!))) Ac)))))
def Ql(t:As):Uj:=λds M R E=>Bd lZ_ 3 (AG t E) ds M R
def Wj(t:As)(E:EK):WS:= (Af (Az (Cs 3 (Dd t) E lX_)) (Aq (Ag 2 dt! (Ab g! (Ab (wl (Ci (Ad sE_ (Ad s_ (Ad F_ fK_))))) Ac)))))
def Lh(t:As):Uj:=λds M R E=>Bd l0! 4 (Wj t E) ds M R
def Yd(t:As)(E:EK):WS:= (Af (An 1 (Ag 1 Gp lK!)) (Af (An 2 (Bb 1 [1] (Bo (Ag 2 (Ko t) (Ab g! (Ab hX! Ac)))) F! (wT (w2 hL! g! q_)) g!)) (Af (Ap (Ck (fT (f2 Aw (f1 Bm bH_) A_))) (Jc t.Nothing E (wl (fC (.str "there is nothing to undo")))) Bj) (Aq (Ag 2 dt! (Ab g! (Ab (wl (Ci (Ad fJ! (Ad (f2 Al F_ fP_) Ah)))) Ac)))))))
def Qj(t:As):Uj:=λds M R E=>Bd [z_,do!,fF_] 1 (Yd t E) ds M R
def Ye(t:As)(E:EK):WS:= (Af (An 1 lJ_) (Af (An 2 (Ag 1 Gp as_)) (Af (An 3 (Bb 1 [] er_ F! (Ck (fT so_)) (wl (f2 Al fE_ C!)))) (Af (An 4 (Bb 1 [0,2] (Gh (Go H_)) F! (Gb tw! (wT (w2 dg_ g! C_))) g!)) (Af (Ap (Ck (fT (f2 Aw et! A_))) (Jc t.Nothing E (wl (fC (.str "there is nothing to redo")))) Bj) (Aq (Ag 2 dt! (Ab g! (Ab (wl (Ci (Ad (fC ly_) (Ad (f2 Al U_ fP_) Ah)))) Ac)))))))))
def Qk(t:As):Uj:=λds M R E=>Bd [z_,eh!,do!,"named",fF_] 1 (Ye t E) ds M R
def Ri(t:As)(E:EK):WS:= (Af tz_ tB_)
def Gz(t:As):Uj:=λds M R E=>Bd [z_,aS_,el!,"found"] 3 (Ri t E) ds M R
def Wi(t:As)(E:EK):WS:= (Af tC! (Af tD_ (Af tE_ (Af (An 6 ep_) (Af (Bw tF_ fT! (Af tJ! (Af tK! tL!))) (Aq l4!))))))
def Om(t:As):Uj:=λds M R E=>Bd [z_,aS_,el!,"text","found",lv!,fF_,"start",T_] 4 (Wi t E) ds M R
def Yi:Ae->Option Fl:= (Ib (Sx (λρ=>((w_) ρ).bind BJ) (De (f2 Al w_ (f2 Er s_ cA_))) Mx) (De A_))
def Qn:List D->Option D:=Fm fT_ 2 (Yi)
def AM:Ae->Option Fl:= (Ib (Wb 2 (f2 Er (f2 Bv (f1 Qn (Ad w_ ee_)) (f2 Wt (fC (.int 104729)) (f2 Bv s_ C!))) (fC (.int 4294967291)))) (Ib (Wb 2 (f2 Er (f2 Wt F_ (fC (.int 48271))) (fC (.int 4294967279)))) (De (f2 Er (f2 Bv (f2 Wt (f2 Ev F_ (fC (.int 64))) (fC (.int 69621))) F_) (fC (.int 4294967231))))))
def Ks:List D->Option D:=Fm [db_,bZ_,hx!] 2 (AM)
def Tf:WS:= (Af lp! (Af (Bw ss! b5_ (Af tN_ (Af (Jb (Ck (Mi tO! tO_)) l5!) tP!))) cD_))
def Ej:WF:=Bd [cz_,"_law_found",bM!,hx_] 1 (Tf)
def Vc:WS:= (Af (An 1 Fa) (Af (Bw l5_ b5_ (Ap tR! tR_ Bj)) cD_))
def Jw:WF:=Bd [cz_,"_law_last",bM!] 1 (Vc)
def Yh:WS:= (Af (An 4 (Bb 1 [1] tS_ F! (Ck (fT tT_)) g!)) (Af (An 5 aJ_) (Af (Jb (Ck (Mi tU! tV!)) tV_) (Af (Bw (Gh (Fg et!)) (Bz 6) (Ap tZ_ t0! Bj)) (Bq g! fU! (wl (f2 Bv t0_ t1_)))))))
def Ni:WF:=Bd [cH_,bj_,t2_,l9!,"_law_rows",hx_,bZ_] 4 (Yh)
def Wr:WS:= (Af l9_ (Af ma_ (Ap sw! (Af t4_ (Af t5! (Af t5_ t6!))) (Ap sy! Bg (Ap sz_ Bg (Ap (Gb sF! me!) t6_ (Ap (Gb sC! me!) (Af t7! (Af (An 6 aJ_) (Af (Bw t8! fT! t9_) (Af (An 8 mf!) uc_)))) (Ap (Gb sE! me!) Bg Bj))))))))
def Uh:WF:=Bd [cH_,bM!,mf_,mg!,"_law_good","_law_rows",hx_,bZ_,"_law_new","_law_gone"] 2 (Wr)
def Ud:WS:= (Af uf_ (Af ug! (Af (Bw l5_ B! (Ap (Gb uh! uj!) uj_ Bj)) cD_)))
def Nh:WF:=Bd [cz_,cH_,"_law_undone_here",bM!] 1 (Ud)
def Rr:WS:= (Aq (Bb 1 [1] tS_ F! (Ck (fT (f2 Aw fD! s_))) lS_))
def Fq:WF:=Bd ew! 2 (Rr)
def Pc:WS:= (Aq (No "" (Bb 1 [] ul! F! (Ck (fT fD_)) (wl fD!))))
def Fk:WF:=Bd ew! 2 (Pc)
def Rq(t:As):WS:= (Af um! (Af (Bw un! B! (Ap up! ew_ Bj)) (Af (Bw (Ja mi_) B! (Af uq_ (Af ut_ uv_))) ux!)))
def Jq(t:As):WF:=Bd [cA!,cz_,cH_,bj_] 2 (Rq t)
def Yg(t:As):WS:= (Af uy! (Af (An 4 (w2 Ce C_ (w2 ml_ (wl (f2 Ev s_ ml!)) (w1 Qh dh!)))) (Af (Vq (λc=>decide (c∈[ig_,ih!])) I_ λE=>(Ap (Ck (fT uy_)) (Af (An 5 (w2 Ce C_ (w2 ml_ (wl mm_) (w1 Qh dh!)))) (Az (Mo C_ (Cs 3 (Ql t) E (Ab g! (Ab am! (Ab (wl (Xi (fT (f2 Aw V! fE!)) bP! V!)) Ac))))))) (Ap (Ck (fT (f2 Aw H_ al_))) (Az (Cs 4 (Om t) E (Ab g! (Ab am! (Ab aJ_ (Ab (wl (Qo mp! (Bi uB_) Cm)) Ac)))))) (Ap (Ck (fT (f2 Aw H_ az_))) (Az (Cs 4 (Lh t) E (Ab g! (Ab am! (Ab (wl uB_) (Ab (wl (f2 Er (f2 Ev s_ uC!) (fC (.int 50)))) Ac)))))) (Ap (Ck (fT uD!)) (Az (Cs 1 (Qj t) E an!)) (Az (Cs 1 (Qk t) E an!))))))) (Aq fP!))))
def Lj(t:As):WF:=Bd [cA!,hx!,lc!,"_law_way",bj_,l9!] 3 (Yg t)
def Wo(t:As):WS:= (Af uF! (Af uG! (Af (Bw uH_ B! (Af uI_ (Af uJ! uK_))) (Af (Bw mq_ B! (Af uL! (Az (Ag 2 dx! (Ab hT_ (Ab (wl (f2 Al s_ al_)) Ac)))))) (Af uL! (Af (An 4 (Ag 2 dr_ (Ab hV! ii_))) (Af (Bw er_ (Bz 5) uN_) mr!)))))))
def Zi(t:As):WF:=Bd rF_ 1 (Wo t)
structure Txt(P:xc!)(w:wZ!)(K:zM!)(mg:L_)(t:As):Prop where
 D2:Dx K mg "is_whole" Qz z!
 D3:Dx K mg "is_below" Rb lf!
 D4:Dx K mg "is_from_one" Nt z!
 D5:Dx K mg "is_name" Sr z!
 D6:Dx K mg "is_sign_name" Mv z!
 D7:Dx K mg "is_item" Ss z!
 D8:Dx K mg "is_sibling" Ov z!
 D9:Dx K mg "is_behind" Pr z!
 E1:Dx K mg "is_sign" So ee!
 E2:Dx K mg "is_text" Nr z!
 E3:Dx K mg "is_place" Ra z!
 E4:Dx K mg "are_parts" Ky ll!
 E5:Dx K mg "is_deed" Su z!
 E6:Dx K mg "is_operation" Mw z!
 E7:Dx K mg "time_and_hand" Lu bg!
 E8:Dx K mg "in_order" Rc b2!
 E9:Se K mg "Row" t.B7 "Row.__init__" Ut bG_
 F6:Cu K t.B7 "holds" "Row.holds" Pt aA_
 F7:Cu K t.B7 "put_behind" "Row.put_behind" Kz uO_
 F8:Cu K t.B7 "listed" "Row.listed" Ox bG_
 F9:Se K mg "Outline" t.B6 "Outline.__init__" Oy bG_
 G6:Cu K t.B6 "has" "Outline.has" Ny aA_
 G7:Cu K t.B6 "has_item" "Outline.has_item" Jy aA_
 G8:Cu K t.B6 "put" "Outline.put" Nv uP!
 G9:Cu K t.B6 "write" "Outline.write" Lx uP_
 H9:Cu K t.B6 "set_number" "Outline.set_number" Ir lv_
 J0:Cu K t.B6 "parent_of" "Outline.parent_of" Je aA_
 J4:Cu K t.B6 "children_of" "Outline.children_of" Hz aA_
 J5:Cu K t.B6 "signs_of" "Outline.signs_of" Fx b4_
 J6:Cu K t.B6 "text_of" "Outline.text_of" Gi b4_
 J7:Cu K t.B6 "numbers_of" "Outline.numbers_of" Iu b4_
 J8:Dx K mg "is_undo_or_redo" Ki bg!
 J9:Dx K mg "last_words" Ou b2!
 K0:Dx K mg "undone" Um b2!
 K3:Dx K mg "play" Xu lE!
 K4:Dx K mg "played" Uo b2!
 K5:Se K mg "Hand" t.B5 "Hand.__init__" Sw lF!
 K6:Cu K t.B5 "have" "Hand.have" Pv lG!
 K7:Dx K mg "all_taken" Ps au_
 K8:Dx K mg "outline_of" Ot au_
 K9:Dx K mg "was_taken" Po bh_
 L4:Dx K mg "is_next" Sq bh_
 L5:Dx K mg "last_time" Pq b7!
 L6:Dx K mg "not_yet_taken" Lw dr!
 L7:Dx K mg "check_times" Nu [z_,hY!]
 L8:Dx K mg "check_message" Hm dr!
 L9:Dx K mg "accept" Us bh_
 M9:Dx K mg "accept_waiting" Gy au_
 N0:Dx K mg "receive" Sl bh_
 N3:Dx K mg "take" Xt dr!
 N4:Dx K mg "give" Ub [z_,"have"]
 N5:Dx K mg "lacking" Nq b7!
 N6:Dx K mg "met" Zx ["one",a6_]
 N7:Dx K mg "outline_with" Mu mr_
 N8:Dx K mg "outline_with_item" Jd aC!
 N9:Dx K mg "outline_with_number" Hy b7_
 O0:Dx K mg "there" Vu aC!
 O3:Dx K mg "parent" Uq aC!
 O4:Dx K mg "children" Re aC!
 O5:Dx K mg "text" Xs aC!
 O6:Dx K mg "number" Ur b7_
 O7:Dx K mg "undoable" Mp b7!
 O8:Dx K mg "next_time" Kx au_
 O9:Dx K mg "make" Xv [z_,"deed"]
 P0:Dx K mg "put" Zw lZ_
 P1:Dx K mg "place" Vv l0!
 P2:Dx K mg "undo" Ua au_
 P3:Dx K mg "redo" Pp au_
 P4:Dx K mg "signs_at" Qy b7_
 P5:Dx K mg "write" Qx uQ_
 P6:Dx K mg "_law_cell" Vz fT_
 P7:Dx K mg "_law_mix" Xw fT_
 P8:Dx K mg "_law_ordered" Rf eB!
 P9:Dx K mg "_law_undone" Sv eB!
 Q0:Dx K mg "_law_hang" Rg uR!
 Q1:Dx K mg "_law_do" Vy [cH_,bM!]
 Q2:Dx K mg "_law_play" Vw eB!
 Q3:Dx K mg "_law_children" La ew!
 Q4:Dx K mg "_law_shown_text" Jf ew!
 Q5:Dx K mg "_law_shows" Lz [cA!,cz_]
 Q6:Dx K mg "_law_make" Vx uS!
 Q7:Dx K mg "law" Sn [db_]
 Q8:mg "abs"=none
 Q9:mg "all"=none
 R0:mg "bool"=none
 R3:mg "dict"=none
 R4:mg "enumerate"=none
 R5:mg "int"=none
 R6:mg "isinstance"=none
 R7:mg "len"=none
 R8:mg "list"=none
 R9:mg "max"=none
 S0:mg "ord"=none
 S7:mg "range"=none
 S8:mg "sorted"=none
 S9:mg "str"=none
 T0:mg "tuple"=none
 T1:mg "zip"=none
 T2:∃tk,mg "HANDS"=some uS_
 T3:∃tk,mg "SIGNS"=some uS_
 T4:∃tk,mg "PLACES"=some (.int 4 tk)
 T5:∃tk,mg "LEFT_OUT"=some (.int 37 tk)
 T6:∃tk,mg "MOST_WAITING"=some (.int 8 tk)
 T7:mg "is_item"=some (.ref t.A0)
 T8:mg "is_sibling"=some (.ref t.A7)
 T9:mg "is_behind"=some (.ref t.A8)
 U0:mg "is_text"=some (.ref t.A9)
 U2:mg "is_sign_name"=some (.ref t.B0)
 U3:mg "is_from_one"=some (.ref t.B1)
 U4:mg "is_place"=some (.ref t.B2)
 U5:mg "is_whole"=some (.ref t.B3)
 U6:mg "is_name"=some (.ref t.B4)
 U7:Sf K t.B5
 U8:Sf K t.B6
 U9:Sf K t.B7
 V0:mg "HandsError"=some ms_
 V1:mg "NotThere"=some (.ref ig_)
 V2:mg "Nothing"=some (.ref ih!)
 V3:XS.AV K ig_
 V4:XS.AV K ih!
 V5:XS.Xe K uT_
 V6:W.subIn K (.ref ig_) ms_=some true
 V7:W.subIn K (.ref ih!) ms_=some true
 V8:Cv K t.B7 "following"
 V9:Cv K t.B7 "preceding"
 W3:Cv K t.B6 "parents"
 W4:Cv K t.B6 "rows"
 W5:Cv K t.B6 "texts"
 W6:Cv K t.B6 "numbers"
 W7:Cv K t.B6 "written"
 W8:Cv K t.B6 "hidden"
 W9:Cv K t.B5 "ours"
 X4:Cv K t.B5 "taken"
 X5:Cv K t.B5 "waiting"
 X6:Cv K t.B5 "outline"
 X7:∀X:Cx,X.prog=P->X.w=w->X.K=K->X.mg=mg->Sc X "PARTS" ef_
end K14
namespace K14
open PySem L2 DL
open Classical
def iL:∀(l:r!) (d v:D),kget fY! d=some v
 |[],d,v=>by simp[Bf,kget]
 |(k,x)::r,d,v=>by
  unfold Bf;by_cases h:k=d
  .rw[IB h];simp[kget,h]
  .rw[IF h];simp[kget,h,iL r d v]
def lQ(h:d≠e):∀(l:r!) (v:D),kget fY! e=kget l e
 |[],v=>by simp[Bf,kget,h]
 |(k,x)::r,v=>by
  unfold Bf;by_cases hk:k=d
  .rw[b1_];subst hk;simp[kget,h]
  .rw[cC_];dsimp only[kget];rw[lQ h r v]
def b5a:∀{l:r!} {d:D},kget l d≠none↔d∈l.map c_
 |[],d=>by simp[kget]
 |(k,x)::r,d=>by
  unfold kget;by_cases hk:k=d
  .subst hk;simp
  .rw[cC_,b5a];simp[JF hk]
def a7g:∀{l:r!} {d v:D} {e:D},e∈(fY!).map c_↔e=d\/e∈l.map c_
 |[],d,v,e=>by simp[Bf]
 |(k,x)::r,d,v,e=>by
  unfold Bf;by_cases hk:k=d
  .rw[b1_];subst hk;simp
  .rw[cC_];simp only[IJ,HW];rw[a7g];constructor<;>(rintro(h|h|h)<;>simp[h])
def nJ:∀{l:r!} {d v:D},(eX!).Nodup->((fY!).map c_).Nodup
 |[],d,v,_=>by simp[Bf]
 |(k,x)::r,d,v,h=>by
  rw[IJ,IV]at h;unfold Bf;by_cases hk:k=d
  .rw[b1_];simp only[IJ,IV];exact h
  .rw[cC_];simp only[IJ,IV];refine⟨ck_,nJ h.2⟩;obtain z|z:=a7g.mp z
   .exact hk z
   .exact h.1 z
def mD:kget fY! z=if z=d then some v else kget l z:=by
 by_cases h:z=d
 .rw[IB h,h,iL]
 .rw[IF h,lQ (JF h)]
def Qs:D->List D->D->Option D
 |a,[],z=>if z=a then some .non else none
 |a,x::r,z=>if z=a then some x else Qs x r z
nonrec def lst:D->List D->D
 |a,[]=>a
 |_,x::u=>lst x u
def qH:∀{u:d!} {a:D},lst a u∈a::u
 |[],_=>HV
 |_::_,_=>HR _ qH
def xY:∀{u:d!} {a:D},lst a (u++[x])=x
 |[],_=>rfl
 |_::u,_=>xY (u:=u)
def xX:∀{u:d!} {a:D},u.reverse.headD a=lst a u
 |[],_=>rfl
 |x::u,a=>by
  rw[List.reverse_cons];refine Eq.trans ?_ (xX (a:=x));cases u.reverse<;>rfl
def b4q:∀{l:d!},Qs a l a=some (l.headD .non)
 |[]=>IB rfl
 |_::_=>IB rfl
def c4o(h:z≠a)(g:z≠b):∀{l:d!},Qs a l z=Qs b l z
 |[]=>(IF h).trans (IF g).symm
 |_::_=>(IF h).trans (IF g).symm
def a7d:∀{l:d!} {a z:D},Qs a l z≠none↔z∈a::l
 |[],a,z=>by unfold Qs;by_cases h:z=a<;>simp[h]
 |x::r,a,z=>by
  unfold Qs;by_cases h:z=a
  .simp[h]
  .rw[IF h,a7d,HW];simp[h]
def a7c:∀{l:d!} {a z v:D},Qs a l z=some v->v=.non\/v∈l
 |[],a,z,v,h=>by
  unfold Qs at h;split at h
  .rcases h;exact .inl rfl
  .rcases h
 |x::r,a,z,v,h=>by
  unfold Qs at h;split at h
  .rcases h;exact .inr HV
  .exact(a7c h).imp_right (HR _)
def a4i:∀{u:d!} {a:D},(a::u).Nodup->Qs a ag_ (lst a u)=some ij!
 |[],_,_=>b4q
 |x::u,a,nd=>by
  rw[IV]at nd;exact(IF λe:lst x u=a=>nd.1 (by rw[<-e];exact qH)).trans (a4i nd.2)
def a7e:∀{u:d!} {a:D},n∉a::u->(a::u).Nodup->∀z,Qs a ij_ z=if z=n then some ij! else if z=lst a u then some n else Qs a ag_ z
 |[],a,hn,_,z=>by
  show(if z=a then some n else Qs n v z)=if z=n then _ else if z=a then _ else Qs a v z
  by_cases c:z=n
  .subst c;rw[IF λe:z=a=>hn eB_,D!,b4q]
  .rw[IF c];by_cases d:z=a
   .rw[IB d,IB d]
   .rw[IF d,IF d];exact c4o c d
 |x::u,a,hn,nd,z=>by
  rw[HW,RU]at hn;rw[IV]at nd;show(if z=a then some x else Qs x ij_ z)=if z=n then _ else if z=lst x u then _ else(if z=a then some x else Qs x ag_ z)
  rw[a7e hn.2 nd.2];by_cases c:z=a
  .rw[IB c,IB c,IF λe:z=n=>hn.1 (e.symm.trans c),IF λe:z=lst x u=>nd.1 (by rw[<-c,e];exact qH)]
  .rw[IF c,IF c]
structure Gv(xs:d!)(k:r!):Prop where
 f:∀z,kget k z=Qs .non xs z
 kn:(k.map c_).Nodup
 nd:(D.non::xs).Nodup
 hk:∀x∈xs,∃k,Cg x=some k
def b3x:∀{l m:R_},l.Nodup->(∀a∈l,a∈m)->ab_<=m.length
 |[],_,_,_=>JJ _
 |a::l,m,h,hs=>by
  rw[IV]at h;have ha:=hs a HV;have:=b3x h.2 λb hb=>(List.mem_erase_of_ne λz:b=a=>h.1 fk!).mpr (hs b (HR _ hb));rw[List.length_erase_of_mem ha]at this;have:=List.length_pos_of_mem ha;rw[IW];omega
section
variable{xs u v:List D}{k k':List (D×D)}{n z:D}
def Gv.has(h:Gv xs k):kget k z≠none↔z∈D.non::xs:=by rw[h.f];exact a7d
def Gv.len(h:Gv xs k):ik!<=f_+1:=by have:=b3x h.kn λa ha=>h.has.mp (b5a.mpr ha);simpa using this
def Gv.key(h:Gv xs k)(hz:z∈D.non::xs):∃k,Cg z=some k:=by
 obtain rfl|hz:=HW.mp hz
 .exact G!
 .exact h.hk z hz
def Gv.ins(h:Gv ag_ k)(hn:n∉D.non::ag_)(hm:∃k,Cg n=some k)(kn:(k'.map c_).Nodup)(e:∀z,kget k' z=if z=n then some ij! else if z=lst .non u then some n else kget k z):Gv ij_ k':=by
 have nd:=h.nd;have p:(D.non::ij_).Perm (n::D.non::ag_):=(List.Perm.cons _ QO).trans (List.Perm.swap _ _ _);refine⟨ck_,kn,p.nodup_iff.mpr (IV.mpr ⟨hn,nd⟩),aC_⟩
 .rw[<-QP,IM,RU]at hn;rw[e,h.f,a7e hn.1 (mt!).1]
 .obtain z|z:=IM.mp hx
  .exact h.hk x hb_
  .obtain rfl|z:=HW.mp z
   .exact hm
   .exact h.hk x hr_
end
def a0b:Gv [] mt_:=⟨λz=>by show(if D.non=z then _ else _)=if z=D.non then _ else _;simp only[eq_comm];rfl,S!,S!,λ_ h=>by exact(cR!).elim⟩
def sU:∀{l:List (α×β)} {a:α} {b c:β},(eX!).Nodup->dU_∈l->(a,c)∈l->b=c
 |[],_,_,_,_,h,_=>by exact(cR!).elim
 |(x,y)::r,a,b,c,nd,Y,h2=>by
  rw[IJ,IV]at nd;obtain z|z:=HW.mp Y<;>obtain w|w:=HW.mp h2
  .cases z;cases w;rfl
  .cases z;exact absurd (IU w) nd.1
  .cases w;exact absurd (IU z) nd.1
  .exact sU nd.2 z w
def Ww(n a:D):List D->List D
 |[]=>[]
 |x::r=>if x=a then x::n::r else x::Ww n a r
def Lf(n a:D)(xs:d!):List D:=if a∈xs then Ww n a xs else n::xs
def jG:∀{u v:d!},a∉u->Ww n a (u++a::v)=u++a::n::v
 |[],v,_=>by simp[Ww]
 |x::u,v,h=>by
  rw[HW,RU]at h;dsimp only[_root_.List.cons_append,Ww];rw[jD_,jG h.2]
def kW:∀{l:R_},a∈l->∃u v,l=u++a::v/\a∉u
 |x::r,h=>by
  by_cases e:a=x
  .exact⟨[],r,rc_,S!⟩
  .obtain⟨u,v,rfl,hu⟩:=kW ((HW.mp h).resolve_left e);exact⟨x::u,v,rfl,by simp[e,hu]⟩
def lU(n o:D)(xs:d!):∃u v,xs=u++v/\Lf n o xs=u++n::v/\lst .non u=if o∈xs then o else .non:=by
 unfold Lf;by_cases h:o∈xs
 .obtain⟨u,v,rfl,hu⟩:=kW h;exact⟨u++[o],v,S!,by rw[IB h,jG hu];simp,by rw[IB h,xY]⟩
 .exact⟨[],xs,rfl,u3_,u3_⟩
def a7t:(Str.ofString "following"==Str.ofString "following")=true:=by decide+kernel
def lkP:List.lookup (Str.ofString "preceding") [(Str.ofString "following",a),(Str.ofString "preceding",b)]=some b:=by rfl
structure Io(t:As)(M:Mh)(r f p:qT!)(xs:d!):Prop where
 ob:M r=some mw_
 dc:∃kf ef kp ep,M f=some u6!/\M p=some Bz!/\Gv xs kf/\Gv xs.reverse kp
 ne:f≠p
def vI:Jl d=true↔d=.non:=by cases d<;>simp[Jl]
def sM(hd:d≠.non):Jl d=false:=by cases q:Jl d with|false=>rfl|true=>exact absurd (vI.mp q) hd
section
variable{t:As}{M:Mh}{r f p:qT!}{xs:List D}{R:D->Mh->Prop}
def b5l(h:im!)(hk:bc!)(hR:R (.bl (decide (d∈xs))) M):Hc t [.fn r,d] M R:=by
 obtain⟨kf,ef,kp,ep,hf,hp,K,_⟩:=h.dc;refine h_;by_cases hd:d=.non
 .subst hd;rw[IG (u8!).1]at hR;simpa[Jh,Aq,Tz,wT,wl,f2,Aa,fC,Du,Jl]using hR
 .have e3:(kget kf d).isSome=decide (d∈xs):=by
   have:=K.has (z:=d);cases q:kget kf d with
   |none=>rw[q]at this;simp[hd]at this;simp[this]
   |some v=>rw[q]at this;simp[hd]at this;simp[this]
  rw[<-e3]at hR;simpa[Jh,Aq,Tz,wT,wl,f2,Aa,fC,Du,sM hd,w2,Au,Gx,h.ob,Ed,Jm,hf,hk,a7t]using hR
structure RW(t:As)(M0 M:Mh)(r f p:qT!)(kf kp:r!):Prop where
 ob:M r=some mw_
 hf:∃e,M f=some (.dct kf e)
 hp:∃e,M p=some (.dct kp e)
 ne:f≠p/\r≠f/\r≠p
 fr:∀b,b≠f->b≠p->M b=M0 b
section
variable{M0:Mh}{kf kp:List (D×D)}{ρ:Ae}{fi fv:Ae->Option D}{y v:D}{k:MK}{Q:Fl->Mh->Prop}{i:Nat}
def RW.upF(h:dy_):RW t M0 (mup M f (.dct c e)) r f p c kp:=by obtain⟨n1,n2,n3⟩:=h.ne;obtain⟨ep,hp⟩:=h.hp;exact⟨(mup_ne n2).trans h.ob,u8_,⟨ep,(mup_ne (JF n1)).trans hp⟩,h.ne,λb b1 b2=>(mup_ne b1).trans u9!⟩
def RW.upP(h:dy_):RW t M0 (mup M p (.dct c e)) r f p kf c:=by obtain⟨n1,n2,n3⟩:=h.ne;obtain⟨ef,hf⟩:=h.hf;exact⟨(mup_ne n3).trans h.ob,⟨ef,(mup_ne n1).trans hf⟩,u8_,h.ne,λb b1 b2=>(mup_ne b2).trans u9!⟩
def RW.fol(h:dy_)(h0:in!)(K:v_):Au t.B7 "following" g! ρ M K=K (.fn f) M:=by simp[Au,wl,h0,Gx,h.ob,a7t,Ed]
def RW.pre(h:dy_)(h0:in!)(K:v_):Au t.B7 "preceding" g! ρ M K=K x! M:=by simp[Au,wl,h0,Gx,h.ob,lkP,Ed]
def RW.pf(h:dy_)(h0:in!)(hi:io!)(hv:va!)(hk:aZ!)(hl:kf.length<big)(q:∀M',RW t M0 M' r f p (Bf kf y v) kp->Q Z_ M'):Bq cD! (wl fi) (wl fv) ρ M Q:=by obtain⟨e,hf⟩:=h.hf;simpa[Bq,wl,hv,hi,h.fol h0,Jz,hf,hk,hl,Ed]using q _ h.upF
def RW.pp(h:dy_)(h0:in!)(hi:io!)(hv:va!)(hk:aZ!)(hl:kp.length<big)(q:∀M',RW t M0 M' r f p kf (Bf kp y v)->Q Z_ M'):Bq ln_ (wl fi) (wl fv) ρ M Q:=by obtain⟨e,hp⟩:=h.hp;simpa[Bq,wl,hv,hi,h.pre h0,Jz,hp,hk,hl,Ed]using q _ h.upP
def RW.of(h:im!):∃kf kp,RW t M M r f p kf kp/\Gv xs kf/\Gv xs.reverse kp:=by obtain⟨kf,ef,kp,ep,hf,hp,K,Kp⟩:=h.dc;exact⟨kf,kp,⟨h.ob,⟨ef,hf⟩,⟨ep,hp⟩,⟨h.ne,(λz=>by have:=h.ob;rw[z,hf]at this;rcases this),λz=>by have:=h.ob;rw[z,hp]at this;rcases this⟩,λ_ _ _=>rfl⟩,K,Kp⟩
def RW.at(h:dy_)(K:Gv xs kf)(Kp:Gv xs.reverse kp):Io t M r f p xs:=by obtain⟨ef,hf⟩:=h.hf;obtain⟨ep,hp⟩:=h.hp;exact⟨h.ob,⟨kf,ef,kp,ep,hf,hp,K,Kp⟩,h.ne.1⟩
def sq(h:q1 ρ M λr M1=>match r with|.nx cf=>q2 cf M1 Q|.rt d=>Q ae_ M1):Af q1 q2 ρ M Q:=h
end
def lL(h:im!)(hn:Cg n=some kn)(ho:Cg o=some ko)(nx:n∉D.non::xs)(hl:f_<5000)
  (hR:∀M',Io t M' r f p (Lf n o xs)->(∀b,b≠f->b≠p->M' b=M b)->R .non M'):Ch t [.fn r,n,o] M R:=by
 obtain⟨kf,kp,w,K,Kp⟩:=RW.of h;obtain⟨u,v,rfl,c2,ea⟩:=lU n o xs;have nd:=K.nd;have oo:=(K.f _).trans (a4i (mt!).1);have ma:lst D.non u∈D.non::ag_:=by rw[<-QP];exact IP _ qH
 have mb:v.headD D.non∈D.non::ag_:=by
  obtain z|z:=a7c ((K.f _).symm.trans oo)
  .rw[z];exact HV
  .exact HR _ z
 obtain⟨ka,UB⟩:=K.key ma;obtain⟨kb,oj⟩:=K.key mb;have nb:v.headD D.non≠n:=λz=>nx (z▸mb);have ev:v.headD D.non=lst .non v.reverse:=by rw[<-xX,List.reverse_reverse]
 have eu:lst D.non u=u.reverse.headD .non:=xX.symm;have L:=K.len;have L':=Kp.len;rw[List.length_reverse]at L';rw[List.reverse_append]at Kp;generalize ic:lst D.non u=a0 at *;generalize vi:v.headD D.non=b0 at *;have K1:=K.ins nx ⟨kn,hn⟩ (nJ (nJ K.kn)) λz=>by rw[mD,mD,vi,ic]
 have K2:=Kp.ins (k':=Bf vc! b0 n) (λz=>nx (by simpa[or_comm]using z)) ⟨kn,hn⟩ (nJ (nJ Kp.kn)) λz=>by
  rw[mD,mD,<-ev,<-eu];by_cases c:z=b0
  .rw[IB c,IF (c▸nb),IB c]
  .rw[IF c,IF c]
 have l1:kf.length<big:=by unfold big;omega
 have l2:kp.length<big:=by unfold big;omega
 have l3:(Bf kf a0 n).length<big:=KQ f0_ bn_;have l4:(vc!).length<big:=KQ f0_ bn_;refine h_;obtain⟨ef,hf⟩:=w.hf;have hm:Db t.B7 "holds" M in_:=by simp[Db,h.ob];exact⟨ak_,ak_⟩
 have e1:∀K:D->Mh->Prop,K a0 M->DO r3_ C_ b2_ [f1!,bo!,some o,none,none] M K:=λK hK=>by
  refine⟨hm,rfl,b5l h ho ?_⟩;rw[ea]at hK;by_cases c:o∈u++v
  .rw[IB c]at hK;rw[IN c];exact hK
  .rw[IF c]at hK;rw[IG c];exact hK
 refine e1 _ ?_;have e2:Ce M (.fn f) a0=some b0:=by simp[Ce,hf,UB,oo]
 have e3:∀K:D->Mh->Prop,K b0 M->w2 Ce cD! aB! [f1!,bo!,some o,some a0,none] M K:=λK hK=>by
  unfold w2;rw[w.fol rfl];simpa[wl,Aa,e2]using hK
 refine e3 _ ?_;refine sq (w.pf (ρ:=[f1!,bo!,some o,some a0,some b0]) rfl rfl rfl UB l1 λM1 w=>?_);refine sq (w.pp rfl rfl rfl hn l2 λM2 w=>?_);refine sq (w.pf rfl rfl rfl hn l3 λM3 w=>?_);exact w.pp rfl rfl rfl oj l4 λM4 w=>hR M4 (by rw[c2];exact w.at K1 (by simpa using K2)) w.fr
end
end K14
namespace K14
open PySem L2 DL
abbrev root:D:=.str "root"
abbrev binn:D:=.str "bin"
def b1y:root≠binn:=by intro z;simp only[D.str.injEq]at z;exact absurd z k_
def Jr(x:D):Prop:=∃a b,x=.tup vd!
def Nd(x:D):Prop:=∃a b c,x=.tup vd_
def Jr.key(h:Jr x):∃k,Cg x=some k:=by obtain⟨a,b,rfl⟩:=h;exact G!
def Nd.key(h:Nd x):∃k,Cg x=some k:=by obtain⟨a,b,c,rfl⟩:=h;exact G!
def Jr.nn(h:Jr x):x≠.non/\x≠root/\x≠binn:=by obtain⟨a,b,rfl⟩:=h;refine⟨?_,?_,?_⟩<;>(intro z;cases z)
def Nd.nn(h:Nd x):x≠.non:=by obtain⟨a,b,c,rfl⟩:=h;intro z;cases z
structure OW where
 rows:List ai_
 its:List D
 txt:D->List dz_
 num:D->List D
open Classical in
nonrec def chl(rows:r!)(x:D):List D:=(rows.filter λq=>q.2=x).map c_
open Classical in
nonrec def wo(rows:r!)(i:D):List ai_:=rows.filter λq=>q.1≠i
def Qv(rows:r!)(i p s:D)(bi:r!):Prop:=∃u v,wo rows i=u++v/\bi=u++bo_::v/\((s∉chl cL! p/\chl u p=[])\/∃u',u=u'++[cd!])
def Kn(W:OW)(x:D):Prop:=x∈W.its\/x=root\/x=binn
structure Ct(W:OW):Prop where
 nd:W.its.Nodup
 nm:∀x∈W.its,Jr x
 rnd:(my_).Nodup
 ri:∀x,x∈W.rows.map c_↔x∈W.its
 rp:∀i p,bo_∈W.rows->Kn W p
 rk:∃rk:D->Nat,∀i p,bo_∈W.rows->rk p<rk i
 snd:∀x∈W.its,(mz!).Nodup
 sg:∀x∈W.its,∀q∈W.txt x,Nd q.1
 su:∀x∈W.its,∀y∈W.its,∀q∈W.txt x,∀q'∈W.txt y,q.1=q'.1->x=y
 nl:∀x∈W.its,(bp!).length=4
section
open Classical
def a3z:q∈wo rows i↔q∈rows/\q.1≠i:=by unfold wo;rw[JQ];simp
def gQ:c∈chl rows x↔(c,x)∈rows:=by
 unfold chl;rw[IY];show"!{"
 .rintro⟨⟨a,b⟩,h,rfl⟩;rw[JQ]at h;have:=h.2;simp at this;rw[<-this];exact h.1
 .intro h;exact⟨(c,x),JQ.mpr ⟨h,S!⟩,rfl⟩
def fD:chl ag_ x=chl u x++chl v x:=by unfold chl;rw[PY,JA]
def lR:chl (bo_::v) p=i::chl v p:=by unfold chl;rw[KO c!];rfl
def qA(h:p≠x):chl (bo_::v) x=chl v x:=by unfold chl;rw[LD nd!]
def qL:((cL!).map c_).Sublist nO!:=by unfold wo;exact(NI).map _
def Qv.chl_same(h:f2!)(nd:i8_):chl bi p=Lf i s (chl cL! p):=by
 obtain⟨u,v,e,rfl,hc⟩:=h;rw[fD,lR];have kx:(ve_).Nodup:=by rw[<-e];exact nd.sublist qL
 obtain⟨Y,h2⟩|⟨u',rfl⟩:=hc
 .unfold Lf;rw[IF Y,e,fD,h2];rfl
 .rw[e];have hs:s∈chl ve! p:=gQ.mpr c!;unfold Lf;have h2:chl (u'++[cd!]) p=chl u' p++[s]:=by rw[fD,lR];rfl
  have h3:chl ve! p=chl u' p++s::chl v p:=by rw[fD,h2];simp
  rw[IB hs,h2,h3];have hu:s∉chl u' p:=λz=>by
   have:=gQ.mp z;simp only[JA,IJ,ON,KH]at kx;rw[JP]at kx;exact kx.2.2 _ (IU this) s c! rfl
  rw[jG hu];simp
def Qv.chl_ne(h:f2!)(hx:p≠x):chl bi x=chl cL! x:=by obtain⟨u,v,e,rfl,hc⟩:=h;rw[fD,qA hx,e,fD]
def Qv.mem(h:f2!):q∈bi↔q=bo_\/q∈wo rows i:=by
 obtain⟨u,v,e,rfl,hc⟩:=h;rw[e];simp only[IM,HW];show"!{"
 .rintro(z|z|z)<;>simp[z]
 .rintro(z|z|z)<;>simp[z]
def Qv.nd(h:f2!)(nd:i8_):(bi.map c_).Nodup:=by
 obtain⟨u,v,e,rfl,hc⟩:=h;have kx:(ve_).Nodup:=by rw[<-e];exact nd.sublist qL
 have ni:i∉(ag_).map c_:=λz=>by
  obtain⟨q,hq,hi⟩:=IY.mp z;rw[<-e]at hq;exact(a3z.mp hq).2 hi
 simp only[JA,IJ]at kx ni ⊢;rw[JP]at kx ⊢;rw[IM,RU]at ni;refine⟨kx.1,IV.mpr ⟨ni.2,kx.2.1⟩,λa ha b hb=>?_⟩;obtain rfl|hb:=HW.mp hb
 .exact λz=>ni.1 (z▸ha)
 .exact kx.2.2 a ha b hb
def c6i(h:(i,x)∉rows):chl cL! x=chl rows x:=by unfold chl wo;rw[MY];congr 1;apply LZ;intro q hq;simp only[ne_eq,decide_not,Bool.and_eq_left_iff_imp,IZ,Bool.not_eq_eq_eq_not,PL,decide_eq_false_iff_not];rintro rfl z;exact h vg_
def Hn(W:OW)(n:D)(bi:r!):OW:=⟨bi,W.its++[n],vh!,vh_⟩
def Qv.winv_put(h:Qv W.rows n p s bi)(w:Ct W)(hn:n∉W.its)(ht:Jr n)(hp:Kn W p):Ct eE!:=by
 have nn:n∉W.rows.map c_:=λz=>hn ((w.ri n).mp z);have vj:wo W.rows n=W.rows:=by
  refine KM.mpr λq hq=>?_;simp only[ne_eq,decide_not,Bool.not_eq_eq_eq_not,PL,decide_eq_false_iff_not];exact λz=>nn (z▸IU hq)
 have pn:p≠n:=λz=>by
  obtain q|q|q:=hp
  .exact hn (z▸q)
  .exact ht.nn.2.1 (z▸q)
  .exact ht.nn.2.2 (z▸q)
 have im:∀x,x∈(eE!).its↔x∈W.its\/x=n:=λx=>by simp[Hn]
 refine⟨?_,aC_,h.nd w.rnd,mB_,vi_,?_,aC_,aC_,ir_,aC_⟩
 .show(W.its++[n]).Nodup;rw[JP];exact⟨w.nd,S!,λa ha b hb=>by simp at hb;subst hb;exact λz=>hn (z▸ha)⟩
 .obtain z|rfl:=(im x).mp hx
  .exact w.nm x z
  .exact ht
 .rw[im,<-w.ri x];show"!{"
  .intro z;obtain⟨q,hq,rfl⟩:=IY.mp z;obtain rfl|hq:=h.mem.mp hq
   .exact .inr rfl
   .rw[vj]at hq;exact .inl (IU hq)
  .rintro(z|rfl)
   .obtain⟨q,hq,rfl⟩:=IY.mp z;exact IU (h.mem.mpr (.inr (by rw[vj];exact hq)))
   .exact IY.mpr ⟨_,h.mem.mpr X!,rfl⟩
 .have up:∀y,Kn W y->Kn eE! y:=λy hy=>by
   obtain q|q:=hy
   .exact .inl ((im y).mpr (.inl q))
   .exact .inr q
  obtain z|z:=h.mem.mp hm
  .cases z;exact up _ hp
  .rw[vj]at z;exact up _ (w.rp _ _ z)
 .obtain⟨rk,ZM⟩:=w.rk;refine⟨λx=>if x=n then rk p+1 else rk x,vi_⟩;obtain z|z:=h.mem.mp hm
  .cases z;dsimp only;rw[IF pn,D!];omega
  .rw[vj]at z;have ha:a≠n:=λq=>nn (q▸IU z);have hb:b≠n:=λq=>by
    obtain y|y|y:=w.rp _ _ z
    .exact hn (q▸y)
    .exact ht.nn.2.1 (q▸y)
    .exact ht.nn.2.2 (q▸y)
   dsimp only;rw[IF ha,IF hb];exact ZM _ _ z
 .show((is_).map c_).Nodup;split
  .decide
  .rename_i q;exact w.snd x mC!
 .show∀q∈is_,Nd q.1;split
  .intro q hq;exact(HY hq).elim
  .rename_i q;exact w.sg x mC!
 .show∀q∈is_,∀q'∈vk!,q.1=q'.1->x=y;split
  .intro q hq;exact(HY hq).elim
  .rename_i q1;split
   .intro q hq q' bf;exact(HY bf).elim
   .rename_i q2;exact w.su x ((mC_).resolve_right q1) y (((im y).mp hy).resolve_right q2)
 .show(vk_).length=4;split
  .rfl
  .rename_i q;exact w.nl x mC!
def Wv(b:D)(nw:bO_):List dz_->List dz_
 |[]=>[]
 |x::r=>if x.1=b then x::(nw++r)else x::Wv b nw r
nonrec def wrT(b:D)(nw l:bO_):List dz_:=if b∈l.map c_ then Wv b nw l else nw++l
def sQ(hq:q.1=b):b∉u.map c_->Wv b nw (u++q::v)=u++q::(nw++v):=by
 induction u with
 |nil=>intro _;simp[Wv,hq]
 |cons x u ih=>
  intro h;rw[IJ,HW,RU]at h;dsimp only[_root_.List.cons_append,Wv];rw[jD_,ih h.2]
def oB(b:D)(nw l:bO_):∃u v,l=u++v/\wrT b nw l=u++nw++v/\((u=[]/\b∉l.map c_)\/∃u' q,u=u'++[q]/\q.1=b/\b∉u'.map c_):=by
 by_cases h:b∈l.map c_
 .obtain⟨u,v,e,hu⟩:=kW h;obtain⟨u',r,e1,e2,e3⟩:=List.map_eq_append_iff.mp e;obtain⟨q,v',e4,e5,e6⟩:=List.map_eq_cons_iff.mp e3;subst e4;refine⟨u'++[q],v',by simp[e1],?_,.inr ⟨u',q,rfl,e5,by rw[e2];exact hu⟩⟩;unfold wrT;rw[IB h,e1,sQ e5 (by rw[e2];exact hu)];simp
 .exact⟨[],l,rfl,by unfold wrT;rw[IF h];rfl,.inl dA_⟩
nonrec def setT(W:OW)(a:D)(l:bO_):OW:={W with txt:=λx=>if x=a then l else W.txt x}
def uJ(w:Ct W)(ha:f4_)(Y:(eX!).Nodup)(h2:∀q∈l,Nd q.1)(h3:∀q∈l,∀y∈W.its,∀q'∈W.txt y,q.1=q'.1->y=a):Ct mD_:=by
 refine⟨w.nd,w.nm,w.rnd,w.ri,w.rp,w.rk,aC_,aC_,ir_,w.nl⟩
 .show((mE!).map c_).Nodup;split
  .exact Y
  .exact w.snd x hx
 .show∀q∈mE!,Nd q.1;split
  .exact h2
  .exact w.sg x hx
 .show∀q∈mE!,∀q'∈(if y=a then l else W.txt y),q.1=q'.1->x=y;split
  .rename_i e1;subst e1;split
   .rename_i e2;intro _ _ _ _ _;exact e2.symm
   .intro q hq q' bf e;exact(h3 q hq y hy q' bf e).symm
  .split
   .rename_i e2;subst e2;intro q hq q' bf e;exact h3 q' bf x hx q hq e.symm
   .exact w.su x hx y hy
def Xx(W:OW)(a:D)(l:d!):OW:={W with num:=λx=>if x=a then l else W.num x}
def a8s(w:Ct W)(hl:ab_=4):Ct (Xx W a l):=by
 refine⟨w.nd,w.nm,w.rnd,w.ri,w.rp,w.rk,w.snd,w.sg,w.su,aC_⟩;show(if x=a then l else W.num x).length=4;split
 .exact hl
 .exact w.nl x hx
end
end K14
namespace K14
open PySem L2 DL
open Classical
nonrec def oF(a1 a2 a3 a4 a5 a6:qT!):List bQ_:=[cM_,eF_,mF!,vn!,("written",.fn a5),("hidden",.fn a6)]
section
variable{a1 a2 a3 a4 a5 a6:qT!}
def oF1:List.lookup (Str.ofString "parents") a9_=some (D.fn a1):=by kernel_rfl
def oF2:List.lookup mF_ a9_=some (D.fn a2):=by kernel_rfl
def oF3:List.lookup mG! a9_=some (D.fn a3):=by kernel_rfl
def oF4:List.lookup mG_ a9_=some (D.fn a4):=by kernel_rfl
def oF5:List.lookup (Str.ofString "written") a9_=some (D.fn a5):=by kernel_rfl
def oF6:List.lookup (Str.ofString "hidden") a9_=some (D.fn a6):=by kernel_rfl
def oM1:List.lookup (Str.ofString "has") a9_=none:=by kernel_rfl
def oM2:List.lookup (Str.ofString "has_item") a9_=none:=by kernel_rfl
end
def rM:List.lookup (Str.ofString "put_behind") iv!=none/\List.lookup (Str.ofString "take_out") iv!=none/\List.lookup (Str.ofString "listed") iv!=none/\List.lookup (Str.ofString "holds") iv!=none:=⟨cN_,cN_,cN_,cN_⟩
inductive Qu
 |ob|par|dir (b:Bool)|nums|wri|hid|row (x:D) (b:Bool)|fol (x:D) (b:Bool)|pre (x:D) (b:Bool)|nm (x:D)
structure Ix where
 pr:D->D->Prop
 dm:Bool->D->Prop
 nd:D->Prop
 ls:D->Bool->List D
 wr:D->D->Prop
 hi:D->Prop
 nu:D->List D
def Hw(V:Ix):Qu->Prop
 |.row x b=>V.dm b x
 |.fol x b=>V.dm b x
 |.pre x b=>V.dm b x
 |.nm x=>V.nd x
 |_=>True
def Dc(B:Nat)(c:Cq)(P:List ai_->Prop):Prop:=∃k e,c=.dct k e/\ik!<=B/\P k
def TF(B:Nat)(c:Cq)(l:d!):Prop:=ab_<=B/\∃k e,c=.dct k e/\Gv l k
def Ty(t:As)(ad:mH_)(V:Ix)(B:Nat)(c:Cq):Qu->Prop
 |.ob=>c=.obj t.B6 vs_
 |.par=>Dc B c λk=>kget k root=some .non/\kget k binn=some .non/\∀i p,V.pr i p->kget k i=some p
 |.dir b=>Dc B c λk=>∀x,mJ_/\mK!
 |.nums=>Dc B c λk=>∀x,V.nd x->kget k x=some (.fn iw!)
 |.wri=>Dc B c λk=>∀s v,V.wr s v->kget k s=some v
 |.hid=>Dc B c λk=>∀s,(kget k s).isSome=true↔V.hi s
 |.row x b=>c=.obj t.B7 [("following",.fn mL!),("preceding",.fn lf_)]
 |.fol x b=>TF B c iy!
 |.pre x b=>TF B c (iy!).reverse
 |.nm x=>c=.lst (V.nu x)
structure Dp(t:As)(M:Mh)(ad:mH_)(V:Ix)(B:Nat):Prop where
 ty:∀r,Hw V r->∃c,M f6!=some c/\Ty t ad V B c r
 inj:∀r r',Hw V r->Hw V r'->ad r=ad r'->r=r'
def Vh(ad:mH_)(V:Ix)(b:qT!):Prop:=∃r,Hw V r/\ad r=b
def Sm(V V':Ix):Qu->Prop
 |.par=>V'.pr=V.pr
 |.dir b=>V'.dm b=V.dm b
 |.nums=>V'.nd=V.nd
 |.wri=>V'.wr=V.wr
 |.hid=>V'.hi=V.hi
 |.fol y b=>V'.ls y b=V.ls y b
 |.pre y b=>V'.ls y b=V.ls y b
 |.nm x=>V'.nu x=V.nu x
 |_=>0=0
def Sm.rfl{V:Ix}:Sm V V r:=by cases r<;>exact Eq.refl _
section
variable{t:As}{M M':Mh}{o:qT!}{ad bg:Qu->Addr}{V V':Ix}{W:OW}{B B':Nat}{R:D->Mh->Prop}{c:Cq}{r:Qu}{x:D}{b:Bool}
def Dc.mono(h:Dc B c P)(hB:ce_)(q:∀k,P k->Q k):Dc B' c Q:=by obtain⟨k,e,Y,h2,h3⟩:=h;exact⟨k,e,Y,JG h2 hB,q k h3⟩
def Ty.tr(hB:ce_)(old:iy_)(l:Hw V r)(s:Sm V V' r)(ty:Ty t ad V B c r):Ty t bg V' B' c r:=by
 cases r with
 |ob=>exact ty.trans (by rw[old .par trivial,old (.dir true) trivial,old vr! trivial,old .nums trivial,old .wri trivial,old .hid trivial])
 |par=>have s:=s;exact Dc.mono ty hB λk h=>by rw[s];exact h
 |dir b=>have s:=s;exact Dc.mono ty hB λk h x=>by rw[s];exact⟨λz=>by rw[old iv_ z];exact(h x).1 z,(h x).2⟩
 |nums=>have s:=s;exact Dc.mono ty hB λk h x z=>by rw[s]at z;rw[old iw_ z];exact h x z
 |wri=>have s:=s;exact Dc.mono ty hB λk h=>by rw[s];exact h
 |hid=>have s:=s;exact Dc.mono ty hB λk h=>by rw[s];exact h
 |row x b=>exact ty.trans (by rw[old dB_ l,old dC! l])
 |fol x b=>have s:=s;exact vz_
 |pre x b=>have s:=s;exact vz_
 |nm x=>have s:=s;exact ty.trans (by rw[s])
def Dp.go(h:aM_)(hB:ce_)(old:iy_)(inj:∀r r',Hw V' r->Hw V' r'->bg r=bg r'->r=r')
  (k:∀r,Hw V' r->(∃c,M' (bg r)=some c/\Ty t bg V' B' c r)\/(Hw V r/\M' f6!=M f6!/\Sm V V' r)):Dp t M' bg V' B':=⟨λr hr=>by
 obtain z|⟨l,e,s⟩:=k r hr
 .exact z
 .obtain⟨c,e1,e2⟩:=h.ty r l;exact⟨c,by rw[old r l,e];exact e1,e2.tr hB old l s⟩,inj⟩
def Dp.cv(h:aM_)(hB:ce_)(hL:∀r,Hw V' r->Hw V r/\Sm V V' r):Dp t M ad V' B':=
 h.go hB n_ (λr r' a b=>h.inj r r' (hL r a).1 (hL r' b).1) λr l=>.inr ⟨(mM_).1,rfl,(mM_).2⟩
def Dp.up(h:aM_)(hB:ce_)(l0:Hw V r0)(hc:Ty t ad V' B' c r0)(s:∀r,r≠r0->Hw V' r->Hw V r/\Sm V V' r):Dp t (mup M (ad r0) c) ad V' B':=by
 have hL:∀r,Hw V' r->Hw V r:=λr l=>by
  by_cases e:r=r0
  .rw[e];exact l0
  .exact(s r e l).1
 refine h.go hB n_ (λr r' a b=>h.inj r r' (hL r a) (hL r' b)) λr l=>?_;by_cases e:r=r0
 .subst e;exact .inl ⟨c,mup_same,hc⟩
 .exact .inr ⟨hL r l,mup_ne λz=>e (h.inj r r0 mM_ l0 z),(s r e l).2⟩
def a2q(l0:Hw V r0)(ha:¬Vh ad V a):mup M (ad r0) c a=M a:=mup_ne λz=>ha ⟨r0,l0,z.symm⟩
def Dp.ob(h:aM_):M (ad .ob)=some (.obj t.B6 vs_):=by obtain⟨_,e,rfl⟩:=h.ty .ob trivial;exact e
def Dp.row(h:aM_)(hd:V.dm b x):Io t M mJ! mL! lf_ iy!/\(iy!).length<=B:=by obtain⟨_,e,rfl⟩:=h.ty iv_ hd;obtain⟨_,e1,l1,kf,ef,rfl,K⟩:=h.ty dB_ hd;obtain⟨_,e2,l2,kp,ep,rfl,K2⟩:=h.ty dC! hd;exact⟨⟨e,⟨kf,ef,kp,ep,e1,e2,K,K2⟩,λz=>by have:=h.inj dB_ dC! hd hd z;cases this⟩,l1⟩
nonrec def Ix.sl(V:Ix)(x:D)(b:Bool)(l:d!):Ix:={V with ls:=λy c=>if y=x/\c=b then l else V.ls y c}
def uI:(V.sl x b l).ls x b=l:=IB aH_
def Dp.sl(h:aM_)(hB:ce_)(hd:V.dm b x)(hr:Io t M' mJ! mL! lf_ xs)(fr:∀a,a≠ad dB_->a≠ad dC!->M' a=M a)(hl:f_<=B'):Dp t M' ad (V.sl x b xs) B'/\∀a,¬Vh ad V a->M' a=M a:=by
 obtain⟨kf,ef,kp,ep,hf,hp,K,Kp⟩:=hr.dc;refine⟨h.go hB n_ h.inj λr l=>?_,λa ha=>fr a (λz=>ha ⟨.fol x b,hd,z.symm⟩) λz=>ha ⟨.pre x b,hd,z.symm⟩⟩;have l':Hw V r:=l;by_cases e1:r=.fol x b
 .subst e1;exact .inl ⟨_,hf,by rw[uI];exact hl,kf,ef,rfl,by rw[uI];exact K⟩
 by_cases e2:r=.pre x b
 .subst e2;exact .inl ⟨_,hp,by rw[uI];simpa using hl,kp,ep,rfl,by rw[uI];exact Kp⟩
 refine .inr ⟨l',fr _ (λz=>e1 vD!) (λz=>e2 vD!),?_⟩;cases r with
 |fol y c=>exact IF λz=>e1 eG_
 |pre y c=>exact IF λz=>e2 eG_
 |_=>rfl
def Ls(W:OW):Ix where
 pr:=λi p=>bo_∈W.rows
 dm:=λb x=>match b with|true=>Kn W x|false=>x∈W.its
 nd:=λx=>x∈W.its
 ls:=λx b=>match b with|true=>chl W.rows x|false=>(a8_).map c_
 wr:=λs v=>∃x∈W.its,∃q∈W.txt x,q.1=s/\q.2.1=v
 hi:=λs=>∃x∈W.its,∃q∈W.txt x,q.1=s/\q.2.2=false
 nu:=W.num
def Bt(t:As)(M:Mh)(o:qT!)(O:O!)(W:OW)(B:Nat):Prop:=∃ad,ad .ob=o/\(∀b,O b↔Vh ad bQ! b)/\Dp t M ad bQ! B
def Fr(M:Mh)(O:O!)(M':Mh)(O':O!):Prop:=∀b,M b≠none->¬O b->M' b=M b/\¬O' b
def Fr.refl:Fr M O M O:=λb _ h=>dA_
def Fr.trans{M2:Mh}(Y:Fr M O M' O1)(h2:Fr M' O1 M2 O2):Fr M O M2 O2:=λb hb hr=>by
 obtain⟨e1,e2⟩:=Y b hb hr;obtain⟨e3,e4⟩:=h2 b vE! e2;exact⟨e3.trans e1,e4⟩
variable{O:Addr->Prop}
def Bt.mono(h:aD_)(hB:ce_):Bt t M o O W B':=by obtain⟨ad,e,hO,hI⟩:=h;exact⟨ad,e,hO,hI.cv hB λr l=>⟨l,Sm.rfl⟩⟩
def Bt.live(h:aD_){b:qT!}(hb:O b):M b≠none:=by obtain⟨ad,e,hO,hI⟩:=h;obtain⟨r,l,rfl⟩:=(hO b).mp hb;obtain⟨c,e,_⟩:=hI.ty r l;rw[e];simp
def Bt.keep(h:aD_)(k:vE_):Bt t M' o O W B:=by obtain⟨ad,e,hO,hI⟩:=h;exact⟨ad,e,hO,hI.go p! n_ hI.inj λr l=>.inr ⟨l,k _ ((hO _).mpr ⟨r,l,rfl⟩),Sm.rfl⟩⟩
def yN(w:Ct W)(h:eH!):∃k,Cg x=some k:=by
 obtain h|rfl|rfl:=h
 .exact(w.nm x h).key
 .exact G!
 .exact G!
def Dp.noOb(h:aM_)(hm:mO_):Db t.B6 m M iC!:=by simp[Db,h.ob,hm]
def Bt.noOb(h:aD_)(hm:mO_):Db t.B6 m M Z!:=by obtain⟨ad,rfl,hO,hI⟩:=h;exact hI.noOb hm
def Dp.dirV(h:aM_):∃k e,M (ad f7!)=some (.dct k e)/\ik!<=B/\∀x,mJ_/\mK!:=by obtain⟨_,e,k,ep,rfl,q⟩:=h.ty f7! trivial;exact⟨k,ep,e,q⟩
def a2a(h:∀x,mJ_/\mK!):(kget k x).isSome=decide (V.dm b x):=by
 by_cases z:V.dm b x
 .rw[(h x).1 z,IN z];rfl
 .rw[(h x).2 z,IG z];rfl
def yR(h:aD_)(hk:Q_)(hR:R vG! M):Bk t dD! M R:=by obtain⟨ad,rfl,hO,hI⟩:=h;obtain⟨k2,e2,h2,_,q⟩:=hI.dirV (b:=true);have e3:=a2a (x:=x) q;refine h_;rw[show decide mP!=(kget k2 x).isSome from e3.symm]at hR;simpa[Kf,Aq,w2,wl,Au,Gx,Ed,Aa,hI.ob,oF2,Jm,h2,hk]using hR
def iM(h:aD_)(hk:Q_)(hR:R vH! M):Bs t dD! M R:=by obtain⟨ad,rfl,hO,hI⟩:=h;obtain⟨k2,e2,h2,_,q⟩:=hI.dirV (b:=false);have e3:=a2a (x:=x) q;refine h_;rw[show decide f7_=(kget k2 x).isSome from by rw[e3];congr]at hR;simpa[Gj,Aq,w2,wl,Au,Gx,Ed,Aa,hI.ob,oF3,Jm,h2,hk]using hR
def Dp.numV(h:aM_)(hx:V.nd x):∃k e,M (ad .nums)=some (.dct k e)/\kget k x=some (.fn iw!)/\M iw!=some (.lst (V.nu x)):=by obtain⟨_,e,k,ep,rfl,_,q⟩:=h.ty .nums trivial;obtain⟨_,e2,rfl⟩:=h.ty iw_ hx;exact⟨k,ep,e,q x hx,e2⟩
end
end K14
namespace K14
open PySem L2 DL
def vP:∀(xs ys:u!),Ie (xs.map D.int) (ys.map D.int)=(xs==ys)
 |[],[]=>by rfl
 |[],y::ys=>by rfl
 |x::xs,[]=>by rfl
 |x::xs,y::ys=>by simp[Ie,Ew,vP xs ys]
def Sd(d:D):Prop:=d=.non\/(∃x,d=.str x)\/(∃i,d=.int i)\/∃ns:List Int,d=.tup ia_
def a1o:∀{xs ys:u!},xs.map D.int=ys.map D.int->xs=ys
 |[],[],_=>rfl
 |[],_::_,h=>by simp at h
 |_::_,[],h=>by simp at h
 |x::xs,y::ys,h=>by
  simp only[IJ,QS,D.int.injEq]at h;rw[h.1,a1o h.2]
def yU(hx:Sd x)(hy:Sd y):Ew x y=(open Classical in decide (x=y)):=by
 obtain rfl|⟨a,rfl⟩|⟨i,rfl⟩|⟨ns,rfl⟩:=hx<;>obtain rfl|⟨b,rfl⟩|⟨j,rfl⟩|⟨ms,rfl⟩:=hy<;>simp[Ew,vP]
 all_goals
  rw[MJ]
  first
   |(simp only[LP,IZ,D.tup.injEq];exact⟨λz=>by rw[z],a1o⟩)
   |(simp only[LP,IZ])
   |simp
def uW:∀(ns:u!),Bx nM!=true
 |[]=>by rfl
 |n::ns=>by simp[Bx,Av,uW ns]
def fN(h:Sd x):Av x=true:=by obtain rfl|⟨a,rfl⟩|⟨i,rfl⟩|⟨ns,rfl⟩:=h<;>simp[Av,uW]
def a2c:∀(ns:u!),Cw nM!<=1
 |[]=>by simp[Cw]
 |n::ns=>by have:=a2c ns;simp[Cw,Hk];omega
def mG(h:Sd x):Hk x<=5:=by
 obtain rfl|⟨a,rfl⟩|⟨i,rfl⟩|⟨ns,rfl⟩:=h<;>simp[Hk]
 have:=a2c ns;omega
def Jr.sd(h:Jr x):Sd x:=by obtain⟨a,b,rfl⟩:=h;exact .inr mP_
def Nd.sd(h:Nd x):Sd x:=by obtain⟨a,b,c,rfl⟩:=h;exact .inr vJ_
def jU(x:Str):Sd bX_:=.inr (.inl ⟨x,rfl⟩)
def b5h(w:Ct W)(h:eH!):Sd x:=by
 obtain h|rfl|rfl:=h
 .exact(w.nm x h).sd
 .exact jU _
 .exact jU _
def b3w(hx:Sd x)(hy:Sd y):Gw x y=some (.bl (!(open Classical in decide (x=y)))):=by unfold Gw;have:=mG hx;rw[fN hx,fN hy,yU hx hy];rw[IB be_]
def nS(hx:Sd x)(hy:Sd y):Aw x y=some (.bl (open Classical in decide (x=y))):=by unfold Aw;have:=mG hx;rw[fN hx,fN hy,yU hx hy];rw[IB be_]
section
variable{t:As}{M:Mh}{R:D->Mh->Prop}
def rX(hR:∀r f p M',M r=none->M f=none->M p=none->r≠f->r≠p->Io t M' r f p []->f≠p->(∀b,b≠r->b≠f->b≠p->M' b=M b)->R in_ M'):Dy t.B7 1 (Et t) Ac ρ M R:=by
 refine⟨rfl,λr hr=>h_⟩;have nf:∀{f:qT!},mup M r (.obj t.B7 []) f=none->f≠r/\M f=none:=λ{f} z=>by
  by_cases e:f=r
  .rw[e,mup_same]at z;rcases z
  .rw[mup_ne e]at z;exact⟨e,z⟩
 intro f hf;obtain⟨f1,f2⟩:=nf hf;refine⟨mup_same,aW_,by simp[Cg],S!,?_⟩;simp[wl,Aa,mup_ne,mup_same,JF f1,Gk];intro p hp;have p1:p≠r:=λe=>by rw[e,mup_same]at hp;rcases hp
 rw[mQ!]at hp;have p2:p≠f:=λe=>by rw[e,mup_same]at hp;rcases hp
 rw[mup_ne p2,mup_ne p2,mQ!]at hp;simp[Da,Kv,wl,fC,Aa,mup_ne,mup_same,JF f1,JF p1,Gk,Cg];refine hR r f p _ hr f2 hp (JF f1) (JF p1) ⟨mup_same,⟨mt_,1,mt_,1,?_,?_,a0b,a0b⟩,JF p2⟩ (JF p2) λb Y h2 h3=>?_
 .rw[mup_ne f1,vL!,vL!,mup_ne f1,mup_same]
 .rw[mQ!,mup_same]
 .rw[eH_,mup_ne h3,mup_ne h3,eH_,iC_,iC_,eH_]
end
end K14
namespace K14
open PySem L2 DL
open Classical
section
variable{t:As}{M:Mh}{o:qT!}{O:Addr->Prop}{W:OW}{B:Nat}{R:D->Mh->Prop}
def xK(w:Ct W)(h:x∉W.its):∀p,(x,p)∉W.rows:=λp z=>h ((w.ri x).mp (IU z))
def tL(h:aD_)(w:Ct W)(qr:vL_)(p0:0<=p)(p3:p<=3)
  (hR:∀M',Bt t M' o O (if i∈W.its then Xx W i vM_ else W) B->Fr M O M' O->R .non M'):Ds t [bp_,i,.int p,bq!] M R:=by
 refine h_;refine⟨h.noOb oM2,rfl,iM h qr ?_⟩;by_cases c1:i∈W.its
 .simp only[c1,KZ]at hR;obtain⟨ad,rfl,hO,hI⟩:=h;obtain⟨k4,e4,h4,e,hq⟩:=hI.numV c1;have hq:M vO!=some (.lst eI!):=hq;have hx:Kb (eI!).length p=some p.toNat:=by
   rw[w.nl i c1];unfold Kb;rw[IB p0,aj!]
  have fin:R .non (mup M vO! (.lst vM_)):=by
   refine hR _ ⟨ad,rfl,hO,hI.up p! c1 (by show _=Cq.lst f8!;rw[D!]) λr hn l=>⟨l,?_⟩⟩ λb _ hr=>⟨a2q (V:=Ls W) c1 λz=>hr mS!,hr⟩;cases r with
   |nm y=>exact IF λz=>hn (by rw[z])
   |_=>rfl
  simpa[c1,Bq,w2,wl,Au,Gx,Ed,Aa,hI.ob,oF4,Ce,h4,qr,e,Jz,hq,hx]using fin
 .simp only[c1,KC]at hR;have:=hR M h .refl;simpa[c1,Bj]using this
end
end K14
namespace K14
open PySem L2 DL
open Classical
open Classical
section
variable{t:As}{M:Mh}{o:qT!}{O:Addr->Prop}{W:OW}{B:Nat}{R:D->Mh->Prop}
def oH(i:D):setT W i f8_=W:=by
 unfold setT;cases W with
 |mk a b c d=>
  congr 1;funext x;split
  .rename_i e;rw[e]
  .rfl
def uK(i:D)(l l':bO_):setT mT! i l'=setT W i l':=by unfold setT;congr 1;funext x;dsimp only;split<;>rfl
def a5s(i:D)(l:bO_):(mT!).txt i=l:=by simp[setT]
def b5y{P:f9!}(hi:iD!):(∃x∈W.its,∃q∈(mT!).txt x,P q)↔(∃q∈l,P q)\/∃x∈W.its,x≠i/\∃q∈W.txt x,P q:=by
 show"!{"
 .rintro⟨x,hx,q,hq,h⟩;have hq:q∈vQ!:=hq;split at hq
  .exact .inl ⟨q,hq,h⟩
  .rename_i c;exact .inr ⟨x,hx,c,q,hq,h⟩
 .rintro(⟨q,hq,h⟩|⟨x,hx,c,q,hq,h⟩)
  .exact⟨i,hi,q,by rw[a5s];exact hq,h⟩
  .exact⟨x,hx,q,by show q∈vQ!;rw[IF c];exact hq,h⟩
end
end K14
namespace K14
open PySem L2 DL
open Classical
section
variable{t:As}{M:Mh}{o:qT!}{O:Addr->Prop}{W:OW}{B:Nat}{R:D->Mh->Prop}
def FW(dq:D)(U l:bO_):Prop:=(U=[]/\dq∉l.map c_)\/∃u' q,U=u'++[q]/\q.1=dq/\dq∉u'.map c_
def FW.names(h:FW dq U (U++v)):Lf s dq ((U++v).map c_)=(iD_).map c_:=by
 obtain⟨rfl,h⟩|⟨u',q,rfl,e,h⟩:=h
 .unfold Lf;rw[IF h];rfl
 .unfold Lf;rw[IB eB_];simp only[JA,IJ,ON,KH,QP,LN];rw[e,jG h]
def a2n(w:Ct W)(hi:iD!)(hl:vR_)(hs:Nd s)(hf:vQ_):Ct iE_:=by
 have fi:=hf i hi;rw[hl]at fi;have p:(iD_).Perm (f9_::(U++v)):=QO;refine uJ w hi ?_ ga! vR!
 .rw[(p.map _).nodup_iff,IJ,IV];exact⟨fi,by rw[<-hl];exact w.snd i hi⟩
 .obtain rfl|z:=HW.mp vS!
  .exact hs
  .exact w.sg i hi q vS_
 .obtain rfl|z:=HW.mp vS!
  .exact absurd (IY.mpr ⟨q',bf,e.symm⟩) (hf y hy)
  .exact(w.su i hi y hy q vS_ q' bf e).symm
def b0t(hI:Dp t M ad vT! B)(hk:∀a v,(bQ!).wr a v->kget k5 a=some v)(h5:k5.length<B)(hi:iD!)(hl:vR_)(hb:l=(iD_).map c_)(hf:vQ_):
  Dp t (mup M mI_ (.dct (Bf k5 s c) e5)) ad (Ls iE_) B:=by
 have hm:∀{P:f9!},(∃q∈U++f9_::v,P q)↔P f9_\/∃q∈W.txt i,P q:=λ{P}=>by
  rw[hl];simp only[IM,HW];show"!{"
  .rintro⟨q,z|z|z,h⟩
   .exact .inr vT_
   .exact .inl (z▸h)
   .exact .inr ⟨q,.inr z,h⟩
  .rintro(h|⟨q,z|z,h⟩)
   .exact⟨_,.inr X!,h⟩
   .exact vT_
   .exact⟨q,.inr cK!,h⟩
 have hx:∀{P:f9!},(∃x∈W.its,∃q∈(iE_).txt x,P q)↔P f9_\/∃x∈W.its,∃q∈W.txt x,P q:=λ{P}=>by
  have h0:=b5y (l:=W.txt i) (P:=P) hi;rw[oH]at h0;rw[b5y hi,hm,h0,or_assoc]
 refine hI.up p! trivial ⟨_,_,rfl,JG f0_ h5,λa w hw=>?_⟩ λr hn l'=>⟨l',?_⟩
 .rw[mD];obtain⟨rfl,rfl⟩|z:=hx.mp hw
  .rw[D!]
  .obtain⟨x,hx,q,hq,e,_⟩:=id z;rw[IF λy=>hf x hx (by rw[<-y,<-e];exact IU hq)];exact hk a w z
 .have ls:∀(y:D) (b:Bool),(Ls iE_).ls y b=(vT!).ls y b:=λy b=>by
   cases b with
   |true=>exact(IF λz=>by exact Bool.noConfusion (z.2)).symm
   |false=>
    show(if y=i then _ else W.txt y).map c_=if y=i/\false=false then l else(W.txt y).map c_
    by_cases z:y=i
    .rw[IB z,IB ⟨z,rfl⟩,hb]
    .rw[IF z,IF λy=>z y.1]
  cases r with
  |wri=>exact absurd rfl hn
  |hid=>exact funext λa=>propext (Iff.trans (hx) ⟨λz=>z.resolve_left λy=>Bool.noConfusion y.2,λz=>.inr z⟩)
  |fol y b=>exact ls y b
  |pre y b=>exact ls y b
  |_=>rfl
def FX(t:As):WS:=(Af lt!
 (Af si!
 (Af si_
 (An 5 el_))))
nonrec def sgn(h n:Int)(q:Nat×Nat):D×D×Bool:=(.tup [ba!,bq!,.int oC!],.str Ai_,true)
nonrec def eN(q:Nat×Nat):D:=.tup Aj!
def qK:∀(cs:n!) (k0:Nat) (M:Mh) (W:OW) (B:Nat) (U v:bO_) (dq:D) (ka:MK) (yb yc qt:ao_) (R:o!),B+cO!<4000->Bt t M o O W B->Ct W->i∈W.its->W.txt i=U++v->FW dq U (U++v)->Cg dq=some ka->
  (∀x∈W.its,∀k':Nat,k0<=k'->D.tup vV_∉(a8_).map c_)->
  (∀M' ρ,Bt t M' o O vW! (B+cO!)->Ct vW!->Fr M O M' O->R Z_ M')->
  Gf (Ui 6 7) W! (FX t) ((mU_).map eN) [ap!,cf!,aU!,cO_,some tx,some dq,yb,yc,qt] M R
 |[],k0,M,W,B,U,v,dq,ka,yb,yc,qt,R,hB,hO,w,hi,hl,hb,hk,hf,hR=>by
  refine⟨trivial,hR M _ ?_ ?_ .refl⟩
  .simp only[List.zipIdx_nil,ON,JC,MF,Nat.add_zero];rw[<-hl,oH];exact hO
  .simp only[List.zipIdx_nil,ON,JC];rw[<-hl,oH];exact w
 |c::cs,k0,M,W,B,U,v,dq,ka,yb,yc,qt,R,hB,hO,w,hi,hl,hb,hk,hf,hR=>by
  refine M!;obtain⟨ki,qr⟩:=(w.nm i hi).key;obtain⟨ad,eo,hO,hI⟩:=hO;have ob:=hI.ob;rw[eo]at ob;obtain⟨k3,e3,h3,_,g1⟩:=hI.dirV (b:=false);have g1:=(g1 i).1 hi;have g2:Io t M _ _ _ mW!:=(vX_).1;have lt:(mW!).length<=B:=(vX_).2;simp only[IW]at hB hR;have hs:Nd bs!:=vY_;have vk:∀x∈W.its,D.tup iG_∉(a8_).map c_:=λx hx=>hf x hx k0 p!;have UC:Bv ae! (.tup [vY!])=some bs!:=by rfl
  have hm:Db t.B7 "put_behind" M vZ!:=by simp only[Db,g2.ob,rM.1,and_self]
  have hx:∀R',w2 Ce ej_ C_ mX_ M R'=R' vZ! M:=by
   intro R';simp[w2,wl,Au,Gx,ob,oF3,Ce,h3,qr,g1,Ed,Aa]
  show FX t mY! M _;show Af lt! _ mY! M _;have e8:f2 Bv s_ p5_ mY!=some bs!:=by
   rfl
  simp only[Af,An,wl,e8,List.set_cons_succ,List.set_cons_zero,Az,Ay,hx];refine⟨hm,rfl,?_⟩;refine lL g2 ig! hk (by rw[HW,RU];exact⟨hs.nn,vk i hi⟩) a! λM1 hr fr=>?_;obtain⟨hJ,fj⟩:=hI.sl (NM B) (b:=false) hi hr fr (by obtain⟨u,v,e1,e2,_⟩:=lU bs! dq mW!;rw[e2];rw[e1]at lt;simp at lt ⊢;omega);obtain⟨_,h5,k5,e5,rfl,l5',ZN⟩:=hI.ty .wri trivial;have ne:∀{r:Qu},Hw bQ! r->r≠.fol i false->r≠.pre i false->M1 f6!=M f6!:=λl Y h2=>fr _ (λz=>Y v1!) λz=>h2 v1!;have ZO:=(ne (r:=.wri) trivial nofun nofun).trans h5;have UD:=(ne (r:=.ob) trivial nofun nofun).trans hI.ob;rw[eo]at UD;have l5:k5.length<big:=by unfold big;omega
  have q1:=b0t (c:=ds_) (e5:=Hq k5 bs! e5) hJ ZN a! hi hl (by rw[hl];exact hb.names) vk;have q2:Fr M O v2_ O:=λb _ hr=>⟨(a2q (r0:=.wri) trivial λz=>hr mS!).trans (fj b λz=>hr mS!),hr⟩;have q3:=a2n (c:=ds_) w hi hl hs vk;have hU:U++v3!::v=(U++[v3!])++v:=by simp
  have rc:=λka M2 Y h2 h3 h4 h5 h6 h7 h8 h9=>qK (i:=i) (b:=b) (tx:=tx) (h:=h) (n:=n) cs (k0+1) M2 v3_ (B+1) (U++[mY_]) v bs! ka (some vZ_) (some es!) (some bs!) R Y h2 h3 h4 h5 h6 h7 h8 h9;have:=rc _ _
   (a!) ⟨ad,eo,hO,q1⟩ q3 hi (by rw[a5s,hU]) (.inr ⟨U,_,rfl,rfl,λz=>vk i hi v4!⟩) ig!
   (λx hx k' df z=>by
    have tx:(v3_).txt x=if x=i then U++mY_::v else W.txt x:=rfl
    rw[tx]at z;by_cases y:x=i
    .subst y;rw[D!]at z;simp only[JA,IJ,IM,HW]at z;obtain z|z|z:=z
     .exact hf x hi k' a! v4!
     .simp at z;omega
     .exact hf x hi k' a! (by rw[hl,JA];exact HX _ z)
    .rw[IF y]at z;exact hf x hx k' a! z)
   (λM' ρ Y h2 f'=>hR M' ρ (by
    rw[uK]at Y;rw[show B+(cs.length+1)=B+1+cs.length by omega,List.zipIdx_cons];simpa[sgn]using Y) (by
    rw[uK]at h2;simpa[sgn]using h2) (q2.trans f'))
  have hp:∀R',Bq sh_ el_ (wl bH!) mX_ M1 R'=R' (.nx mX_) v2_:=by
   intro R';simp[Bq,wl,Au,Gx,Ed,Aa,fC,UD,oF5,Jz,ZO,show Cg bs!=some _ from rfl,l5]
  simp only[hp];exact this
def b0u(hO:aD_)(w:Ct W)(qr:vL_)(yd:v6!)(hB:B<3900)(hs:iI_)
  (hf:∀x∈W.its,∀k':Nat,D.tup vV_∉(a8_).map c_)
  (hR:∀M',Bt t M' o O v6_ cg!->Ct v6_->Fr M O M' O->R .non M'):
  Ft t [bp_,.tup ba_,i,b,gb_] M R:=by
 refine h_;simp only[Ij,Af,Ap,Jx,wT,Ay,wl,Ab,Ac,Aa];simp[hO.noOb oM2];refine iM hO qr ?_;by_cases c1:i∈W.its
 .simp only[c1,KZ]at hR;obtain⟨U,v,e1,e2,e3⟩:=oB b gb! f8_;have hl:gc!<=16:=by simpa[Str.length]using hs
  have hi:Tk U_ [ap!,cf!,aU!,cO_,some cg_,cO_,none,none,none]=some (s.cps.toList.zipIdx.map eN):=by
   rfl
  have:=qK (b:=b) (tx:=gb_) s.cps.toList 0 M W B U v b kb none none none v7! a! hO w c1 e1 (by rw[<-e1];exact e3) yd (λx hx k' _=>hf x hx k')
   (λM' ρ Y h2 f'=>hR M' (by rw[<-e2]at Y;exact Y.mono a!) (by rw[<-e2]at h2;exact h2) f')
  simp only[c1,decide_true,PL,JK,KC,Bj,An,wl,Bw,Gh,Ed];exact this
 .simp only[c1,KC]at hR;have:=hR M m0! w .refl;simpa[c1,Vr]using this
end
def cU{N:Mh}(hb:N b≠none)(hq:N q=none):b≠q:=λz=>hb (by rw[z];exact hq)
section
variable{t:As}{M:Mh}{ρ:Ae}{R:Fl->Mh->Prop}
def b8l(h:f ρ M λv M1=>fo ρ M1 λd M2=>fi ρ M2 λy M3=>Ed os_ λM4=>q ρ M4 R):Af zJ_ q ρ M R:=by exact h
def zX(h:v8!):Af (Az f) q ρ M R:=h
def rC{Q:bB!}(h0:v8_)(Y:io!)(hM:M o=some m0_)(hx:fs.lookup x=some x!)(hp:bb!)(hk:aZ!)(hl:cm_)
  (hQ:Q e5_):Au C x ch! ρ M (λd M2=>wl fi ρ M2 λy M3=>Ed os_ λM4=>Q M4):=by
 have e:Jz M x! y v=some e5_:=by simp[Jz,hp,hk,hl]
 simp only[Au,wl,h0,Gx,hM,KZ,hx,Ed,Y,e];exact hQ
def c7r{f1 f2:j!}(h0:∀K,fo ρ M K=K d M)(ho:jH!)(Y:eK!)(h2:gc_)(k:g [d,a,b] M K):Ay C m 3 g fo m1! ρ M K:=by unfold Ay Ab Ac;rw[h0];simp only[wl,Y,h2];exact m1_
def CJ(t:As):WS:=Af sd!
 (Af sc!
 (Af sc_
 (Af pS_
 pW!)))
end
section
variable{t:As}{M M' M1:Mh}{ad bg:Qu->Addr}{V V':Ix}{B B':Nat}{x:D}{b:Bool}{ρ:Ae}{R:Fl->Mh->Prop}
def Dp.lv(h:aM_)(l:Hw V q):M (ad q)≠none:=by obtain⟨c,e,_⟩:=h.ty q l;rw[e];simp
def Dp.alloc{N:Qu->Prop}(h:aM_)(hB:ce_)(old:iy_)(cs:wb!)(nw:wb_)(ni:∀q q',N q->N q'->bg q=bg q'->q=q')
  (hd:∃c,M' (ad rd)=some c/\Ty t bg V' B' c rd)(nt:∀q,N q->∃c,M' (bg q)=some c/\Ty t bg V' B' c q)(k:∀q,Hw V q->q≠rd->M' (ad q)=M (ad q)/\Sm V V' q)(lr:Hw V rd):Dp t M' bg V' B':=by
 refine h.go hB old (λq q' l l' e=>?_) λq l=>?_
 .obtain l|l:=cs q l<;>obtain l'|l':=cs q' l'
  .rw[old q l,old q' l']at e;exact h.inj q q' l l' e
  .rw[old q l]at e;exact absurd (e▸nw q' l') (h.lv l)
  .rw[old q' l']at e;exact absurd wd! (h.lv l')
  .exact ni q q' l l' e
 .obtain l|l:=cs q l
  .by_cases e:q=rd
   .subst e;rw[old q l];exact .inl hd
   .exact .inr ⟨l,k q l e⟩
  .exact .inl (nt q l)
def a6l{N:Qu->Prop}(lr:Hw V rd)(old:iy_)(cs:wb!)(nw:wb_)(k:∀a,M a≠none->a≠ad rd->M' a=M a):Fr M m2! M' (Vh bg V'):=λa ha hn=>by
 refine⟨k a ha λz=>hn ⟨rd,lr,z.symm⟩,?_⟩;rintro⟨q,l,e⟩;obtain l|l:=cs q l
 .exact hn ⟨q,l,by rw[<-old q l];exact e⟩
 .exact ha wd!
nonrec def Ix.nw(V:Ix)(x:D)(b:Bool):Ix:={V.sl x b []with dm:=λc y=>V.dm c y\/(c=b/\y=x)}
def uX(h:aM_)(hx:¬V.dm b x)(hk:Q_)(hB:B<3990)(hf:∀{a1 a2 a3 a4 a5 a6:qT!},(a9_).lookup f=some (.fn (match b with|true=>a2|false=>a3)))(e0:wf!)(e1:wf_)
  (hR:∀M' bg,bg .ob=ad .ob->Fr M m2! M' (Vh bg m3_)->Dp t M' bg m3_ (B+1)->q ρ M' R):Af (Bq (Au t.B6 f g!) q_ fG!) q ρ M R:=by
 refine b8l (rX λr f p M1 z1 z2 z3 n1 n2 hr n3 fr=>?_);obtain⟨kd,ed,hd,ld,kv⟩:=h.dirV;have m1:∀a,M a≠none->M1 a=M a:=λa ha=>fr a (cU ha z1) (cU ha z2) (cU ha z3);have ob:=(wg_).trans h.ob;have ZP:=(m1 _ iJ!).trans hd;refine rC (p:=ad f7!) e0 e1 ob (hf.trans (by cases b<;>rfl)) ZP hk bn_ ?_
 let bg:Qu->Addr:=λq=>if q=.row x b then r else if q=.fol x b then f else if q=.pre x b then p else ad q
 have a1:bg iv_=r:=IB rfl;have a2:bg dB_=f:=(IF c!).trans bs_;have a3:bg dC!=p:=(IF c!).trans ((IF c!).trans bs_);have old:∀q,Hw V q->bg q=ad q:=λq l=>(m4_).trans ((m4_).trans m4_);have cs:∀q,Hw m3_ q->Hw V q\/wi!:=λq l=>by
  cases q with
  |row y c=>exact l.imp_right λz=>.inl eG_
  |fol y c=>exact l.imp_right λz=>.inr (.inl eG_)
  |pre y c=>exact l.imp_right λz=>.inr (.inr eG_)
  |_=>exact .inl l
 have nw:∀q,wi!->M (bg q)=none:=by
  rintro q (rfl|rfl|rfl)
  .rw[a1];exact z1
  .rw[a2];exact z2
  .rw[a3];exact z3
 obtain⟨kf,ef,kp,ep,hf,hp,K,Kp⟩:=hr.dc;have md:∀{c:Cq} {a:qT!},M a=none->mup M1 (ad f7!) c a=M1 a:=λha=>mup_ne (JF (cU iJ! ha));refine hR _ bg wj! (a6l (rd:=.dir b) trivial old cs nw λa ha hn=>(m5_).trans (m1 a ha)) ?_;refine h.alloc (NM B) old cs nw ?_ ⟨_,mup_same,_,_,rfl,m6_,λy=>?_⟩ ?_ (λq l hn=>⟨(mup_ne λz=>hn (h.inj q f7! l trivial z)).trans wk_,?_⟩) trivial
 .rintro q q' (rfl|rfl|rfl) (rfl|rfl|rfl) e
  .rfl
  .rw[a1,a2]at e;exact absurd e n1
  .rw[a1,a3]at e;exact absurd e n2
  .rw[a1,a2]at e;exact absurd e.symm n1
  .rfl
  .rw[a2,a3]at e;exact absurd e n3
  .rw[a1,a3]at e;exact absurd e.symm n2
  .rw[a2,a3]at e;exact absurd e.symm n3
  .rfl
 .rw[mD];by_cases c:y=x
  .rw[IB c,c,a1];exact⟨dh_,λz=>absurd (.inr aH_) z⟩
  .rw[IF c];exact⟨λz=>by have z:=z.resolve_right λw=>c w.2;rw[old (.row y b) z];exact(kv y).1 z,λz=>(kv y).2 λw=>z (.inl w)⟩
 .rintro q (rfl|rfl|rfl)
  .rw[a1];exact⟨_,(md z1).trans hr.ob,by show Cq.obj _ _=Cq.obj _ [(_,.fn (bg dB_)),(_,.fn (bg dC!))];rw[a2,a3]⟩
  .rw[a2];exact⟨_,(md z2).trans hf,by show TF _ _ wn!;rw[uI];exact⟨JJ _,_,_,rfl,K⟩⟩
  .rw[a3];exact⟨_,(md z3).trans hp,by show TF _ _ (wn!).reverse;rw[uI];exact⟨JJ _,_,_,rfl,Kp⟩⟩
 .cases q with
  |dir c=>exact funext λy=>propext ⟨λz=>z.resolve_right λw=>hn (by rw[w.1]),.inl⟩
  |fol y c=>exact IF λz=>hx wo!
  |pre y c=>exact IF λz=>hx wo!
  |_=>rfl
nonrec def Ix.nn(V:Ix)(x:D)(l:d!):Ix:={V with nd:=λy=>V.nd y\/y=x,nu:=λy=>if y=x then l else V.nu y}
def a9u(h:aM_)(hx:¬V.nd x)(hk:Q_)(hB:B<3990)(e0:wf!)(e1:wf_)
  (hR:∀M' bg,bg .ob=ad .ob->Fr M m2! M' (Vh bg m8!)->Dp t M' bg m8! (B+1)->R Z_ M'):Bq ls! q_ se! ρ M R:=by
 refine⟨aW_,wo_,λq z=>?_⟩;obtain⟨_,hd,kd,ed,rfl,ld,kv⟩:=h.ty .nums trivial;have m1:∀{c:Cq} a,M a≠none->mup M q c a=M a:=λa ha=>mup_ne (cU ha z);refine rC e0 e1 ((wg_).trans h.ob) oF4 ((m1 _ iJ!).trans hd) hk bn_ ?_
 let bg:Qu->Addr:=λr=>if r=.nm x then q else ad r
 have a1:bg iw_=q:=IB rfl;have old:∀r,Hw V r->bg r=ad r:=λr l=>IF λz=>hx wh_;have cs:∀r,Hw m8! r->Hw V r\/r=.nm x:=λr l=>by
  cases r with
  |nm y=>exact l.imp_right λz=>by rw[z]
  |_=>exact .inl l
 have nw:∀r,r=.nm x->M (bg r)=none:=λr e=>by rw[e,a1];exact z
 refine hR _ bg wj! (a6l (rd:=.nums) trivial old cs nw λa ha hn=>(m5_).trans (m1 a ha)) ?_;refine h.alloc (NM B) old cs nw (λr r' e e' _=>e.trans e'.symm) ⟨_,mup_same,_,_,rfl,m6_,sC_⟩ (λr e=>?_) (λr l hn=>⟨(mup_ne λz=>hn (h.inj r .nums l trivial z)).trans wk_,?_⟩) trivial
 .rw[mD];by_cases c:y=x
  .rw[IB c,c,a1]
  .rw[IF c,old (.nm y) wp_];exact kv y wp_
 .subst e;rw[a1];exact⟨_,(mup_ne (JF (cU iJ! z))).trans mup_same,by show Cq.lst _=Cq.lst (if x=x then _ else _);rw[D!];rfl⟩
 .cases r with
  |nums=>exact absurd rfl hn
  |nm y=>exact IF λz=>hx (by rw[<-z];exact l)
  |_=>rfl
end
section
variable{t:As}{M:Mh}{o:qT!}{O:Addr->Prop}{W:OW}{B:Nat}{R:D->Mh->Prop}
def c3t{V:Ix}(h:aM_)(hi:Jr i)(hl:ik!<=B)(h0:kget k root=some .non)(Y:kget k binn=some .non)(hp:∀i p,V.pr i p->kget k i=some p):
  Dp t (mup M mI! (.dct (Bf k i x) e)) ad {V with pr:=λa p=>(V.pr a p/\a≠i)\/(a=i/\p=x)} (B+1):=by
 refine h.up (NM B) trivial ⟨_,_,rfl,m6_,?_,?_,?_⟩ λr hn l=>⟨l,?_⟩
 .rw[lQ hi.nn.2.1];exact h0
 .rw[lQ hi.nn.2.2];exact Y
 .rintro a p (⟨z,y⟩|⟨rfl,rfl⟩)
  .rw[lQ (JF y)];exact hp a p z
  .rw[iL]
 .cases r with
  |par=>exact absurd rfl hn
  |_=>rfl
def b2e{o:D}:(Lf n o xs).length=f_+1:=by obtain⟨u,v,e1,e2,_⟩:=lU n o xs;rw[e1,e1.symm,e2,e1];simp;omega
def b5q(h:∀a,¬P a->M' a=M a):Fr M P M' P:=λa _ hn=>⟨h a hn,hn⟩
def c3h(hO:aD_)(w:Ct W)(hn:n∉W.its)(ht:Jr n)(j9:dG!)(yd:v6!)(hB:B<3900)(hg:Qv W.rows n eL_ b bi)
  (hR:∀M' O',Bt t M' o O' eE! cg!->Fr M O M' O'->R .non M'):Hj t [bp_,n,a,b] M R:=by
 obtain⟨kn,fz⟩:=ht.key;have hp:Kn W eL_:=by split;assumption;exact .inr du!
 have nP:¬Kn W n:=λz=>z.elim hn λz=>z.elim ht.nn.2.1 ht.nn.2.2;refine h_;generalize hK:wr!=KK;have jb:∀aj M',R .non M'->KK dR! M':=λaj M' z=>by rw[<-hK];exact z
 have key:∀pl,pl=eL_->CJ t [ap!,bo!,some a,cO_,some pl] M KK:=by
  intro pl ZQ;rw[<-ZQ]at hg hp;obtain⟨kpl,ZR⟩:=yN w hp;obtain⟨ad,eo,hO,hI⟩:=hO;have pn:n∉D.non::chl W.rows pl:=by
   rw[HW,RU];exact⟨ht.nn.1,λz=>xK w hn pl (gQ.mp z)⟩
  subst eo;obtain⟨_,Y,k1,e1,rfl,l1,p0,p1,pr⟩:=hI.ty .par trivial;have vm:Aa 1 ws!=some n:=rfl;have f0:Aa 0 ws!=some iC!:=rfl;refine rC f0 vm hI.ob oF1 Y fz bn_ ?_;have I1:=c3t (e:=Hq k1 n e1) (x:=pl) hI ht l1 p0 p1 pr;have F1:Fr M (Vh ad bQ!) (mup M mI! (.dct (Bf k1 n pl) (Hq k1 n e1))) (Vh ad bQ!):=b5q λa ha=>a2q trivial ha;obtain⟨k2,e2,h2,_,kv⟩:=I1.dirV (b:=true);have r1:=I1.row (b:=true) hp;refine zX (c7r (λR'=>?_) (by simp only[Db,r1.1.ob,rM.1,and_self]) rfl rfl (lL r1.1 fz yd pn (by have:=r1.2;omega) λM2 R2 K2=>?_))
  .simp[w2,wl,Au,Gx,I1.ob,oF2,Ce,h2,ZR,(kv pl).1 hp,Ed,Aa]
  obtain⟨I2,f2⟩:=I1.sl (b:=true) (B':=B+2) a! hp R2 K2 (by rw[b2e];have:=r1.2;omega);refine uX (b:=true) I2 nP fz a! oF2 rfl rfl λM3 a3 o3 F3 I3=>?_;refine uX (b:=false) I3 (λz=>z.elim hn λy=>by exact Bool.noConfusion (y.1)) fz a! oF3 (by rw[o3];rfl) rfl λM4 a4 o4 F4 I4=>?_;refine a9u I4 hn fz a! (by rw[o4,o3];rfl) rfl λM5 a5 o5 F5 I5=>jb _ _ ?_;have F:=((F1.trans (b5q f2)).trans F3).trans (F4.trans F5);have hm:∀q,q∈bi↔q=(n,pl)\/q∈W.rows:=λq=>by
   rw[hg.mem,a3z];exact PB ⟨λz=>z.1,λz=>⟨z,λe=>xK w hn q.2 (by rw[<-e];exact z)⟩⟩
  have wn:wo W.rows n=W.rows:=KM.mpr λq hq=>by simpa using λz=>xK w hn q.2 vg_
  have cn:=List.eq_nil_iff_forall_not_mem.mpr λc hc=>nP (w.rp _ _ (gQ.mp hc));have np:pl≠n:=λz=>nP (z▸hp);have et:∀{P:f9!},(∃x∈W.its++[n],∃q∈is_,P q)↔∃x∈W.its,∃q∈W.txt x,P q:=λ{P}=>by
   show"!{"
   .rintro⟨x,hx,q,hq,h⟩;by_cases c:x=n
    .rw[IB c]at hq;exact(HY hq).elim
    .rw[IF c]at hq;exact⟨x,(nb!).resolve_right λz=>c iL!,q,hq,h⟩
   .rintro⟨x,hx,q,hq,h⟩;exact⟨x,IP _ hx,q,by rw[IF λz:x=n=>hn (z▸hx)];exact hq,h⟩
  have hL:∀r,Hw iL_ r↔Hw (wu_) r:=λr=>by
   have d:∀(c:Bool) (y:D),(iL_).dm c y↔((bQ!).dm c y\/(c=true/\y=n))\/(c=false/\y=n):=λc y=>by
    cases c with
    |true=>
     show"!{"
     .rintro(z|z)
      .exact .inl ((IM.mp z).imp .inl λz=>⟨rfl,dW_⟩)
      .exact .inl eV_
     .rintro((z|z)|z)
      .exact Or.imp_left (IP _) z
      .exact .inl (by rw[z.2];exact HX _ iM!)
      .exact Bool.noConfusion (z.1)
    |false=>show y∈W.its++[n]↔(y∈W.its\/_)\/_;simp
   cases r with
   |row y c=>exact d c y
   |fol y c=>exact d c y
   |pre y c=>exact d c y
   |nm y=>show y∈W.its++[n]↔y∈W.its\/y=n;simp
   |_=>exact RP
  refine hR M5 (Vh a5 iL_) ⟨a5,o5.trans (o4.trans o3),λ_=>RP,I5.cv a! λr l=>⟨(hL r).mp l,?_⟩⟩ λc hc hr=>?_
  .have ls:∀(y:D) (c:Bool),(iL_).ls y c=(wu_).ls y c:=λy c=>by
    show _=if y=n/\c=false then[]else if y=n/\c=true then[]else if y=pl/\c=true then Lf n b wu! else(bQ!).ls y c
    cases c with
    |true=>
     rw[bw_];show chl bi y=_;by_cases c1:y=n
     .rw[wy!,c1,hg.chl_ne np,wn,cn]
     .rw[wy_];by_cases c2:y=pl
      .rw[IB ⟨c2,rfl⟩,c2,hg.chl_same w.rnd,wn]
      .rw[IF λz=>c2 z.1,hg.chl_ne (JF c2),wn];rfl
    |false=>
     show(vk!).map c_=_;by_cases c1:y=n
     .rw[IB c1,wy!];rfl
     .rw[IF c1,wy_,bw_,bw_];rfl
   cases r with
   |par=>exact funext λi=>funext λp=>propext ((hm bo_).trans ⟨λz=>z.elim (λz=>by cases z;exact .inr aH_) λz=>.inl ⟨z,λe=>xK w hn p (e▸z)⟩,λz=>z.elim (λz=>.inr z.1) λz=>.inl eG_⟩)
   |dir c=>exact funext λy=>propext (hL (.row y c))
   |nums=>exact funext λy=>propext (hL (.nm y))
   |wri=>exact funext λs=>funext λv=>propext et
   |hid=>exact funext λs=>propext et
   |fol y c=>exact ls y c
   |pre y c=>exact ls y c
   |nm y=>rfl
   |_=>rfl
  .obtain⟨f1,f2⟩:=F c hc λz=>hr ((hO c).mpr z)
   exact⟨f1,by rintro⟨r,l,e⟩;exact f2 ⟨r,(hL r).mp l,e⟩⟩
 have hh:∀K:D->Mh->Prop,Bk t [bp_,a] M K->Ay t.B6 "has" 2 fG_ g! dh! [ap!,bo!,some a,cO_,none] M K:=λK ud=>⟨hO.noOb cP_,rfl,ud⟩;refine hh _ (yR hO j9 ?_);by_cases c:Kn W a
 .rw[IN c];exact key a (by rw[IB c])
 .rw[IG c];exact key binn (by rw[IF c])
end
end K14
namespace K14
open PySem L2 DL
nonrec def As.nd(t:As):Prop:=(ne_).Nodup
def Qf(c:Nat):Bool:=decide iR!&&decide iQ_&&!(c==37)
def Oe(s:Str):Bool:=decide (aE!<=1000)&&s.cps.toList.all Qf
def b4u(a c:Nat):Pi ⟨#[a]⟩ Y_=decide (a<=c):=by
 unfold Pi;simp only[List.cons_lt_cons_iff,List.not_lt_nil,and_false,OH];by_cases h:c<a
 .simp[h]
 .simp[h];omega
def a9q:(" ":Str)=⟨#[32]⟩:=by decide+kernel
def a9p:("~":Str)=⟨#[126]⟩:=by decide+kernel
def zY(hn:g_=n)(h:q cP!=some ae_):Fm N n q ds=some d:=by unfold Fm;rw[IB hn,h]
def a0a(h:cd_):De f ρ=some ae_:=by unfold De;rw[h];rfl
def eU(hn:g_=n)(h:wC_):Fm N n (De f) ds=some d:=zY hn (a0a h)
def sk(hc:c ρ=some false)(h:q2 ρ=r):Ib (Sx c q Mx) q2 ρ=r:=by unfold Ib Sx;rw[hc];exact h
def qX(hn:g_=n)(hc:c cP!=some false)(h:wC_):Fm N n (Ib (Sx c q Mx) (De f)) ds=some d:=zY hn (sk hc (a0a h))
def c8a(hc:c ρ=some true)(h:cd_):Ib (Sx c (De f) q) q2 ρ=some ae_:=by unfold Ib Sx;rw[hc];show(De f ρ).bind _=_;rw[a0a h];rfl
def b1n(h:q1 ρ=some dR!):Ib q1 q2 ρ=q2 aj:=by unfold Ib;rw[h];rfl
def b1l(h:cd_):Wb i f ρ=some (.nx bn!):=by unfold Wb;rw[h];rfl
def lS(h:cd_)(g:iR_):Ad f fs ρ=some dy!:=by unfold Ad;rw[h,g];rfl
def a7v(h:iR_)(e:g ds=some d):f1 g fs ρ=some d:=by unfold f1;rw[h];exact e
def cN{f1 f3:j!}(h:nf_)(k:f3 ρ=some y)(e:g x y=some d):f2 g f1 f3 ρ=some d:=by unfold f2;rw[h,k];exact e
def xP(h:0<j):Er ay! ci!=some ng!:=by show(if decide (0<j)=true then _ else _)=_;rw[IB (IN h)]
def a7u(h:wF_):fT f ρ=some b:=by unfold fT;rw[h];rfl
def zM(h:wF!)(k:wG_):He fa fb ρ=some d:=by unfold He;rw[a7u h];exact k
def c9t(h:wG!):He fa fb ρ=some af_:=by unfold He;rw[a7u h];rfl
def b3e(h:wF!):Lm fa fb ρ=some v!:=by unfold Lm;rw[a7u h];rfl
def b3f(h:wG!)(k:wG_):Lm fa fb ρ=some d:=by unfold Lm;rw[a7u h];exact k
def mM(e:g [x]=some d)(h:f ρ=some x):f1 g nh! ρ=some d:=a7v (lS h rfl) e
def b1g(e:g dd!=some d)(h:f ρ=some x)(k:f' ρ=some y):f1 g (Ad f (Ad f' Ah)) ρ=some d:=a7v (lS h (lS k rfl)) e
def bT [Decidable p](h:p):some (D.bl (decide p))=some v!:=by rw[IN h]
def chn(Y:wJ!)(h2:wJ_)(e:g x y=some a4!)(h3:b=true->fc ρ=some z)(e2:b=true->g' y z=some d)(e3:b=false->d=.bl false):Ea g g' fa fb fc ρ=some d:=by
 unfold Ea;rw[Y,h2,LG,LG,e];cases b with
 |true=>show(fc ρ).bind _=_;rw[h3 rfl];exact e2 rfl
 |false=>rw[e3 rfl];rfl
def c8l(Y:fa ρ=some ay!)(h2:fb ρ=some ci!)(h3:fc ρ=some c8!)(e1:i<=j)(e2:g ci! c8!=some d):Ea Kt g fa fb fc ρ=some d:=chn Y h2 (bT e1) (λ_=>h3) (λ_=>e2) λz=>by exact Bool.noConfusion z
def c5i(c:Nat):Ca [ds_]=some (.bl (Qf c)):=by
 have e1:Kt lh! es!=some (.bl (decide iR!)):=by rw[a9q,<-b4u];rfl
 have e2:Kt es! lh_=some (.bl (decide iQ_)):=by rw[a9p,<-b4u];rfl
 have e3:wL_=(c==37):=by rw[MJ,LP,LP];omega
 have e4:Ea Kt Kt (fC lh!) w_ (fC lh_) [mX!]=some (.bl (decide iR!&&decide iQ_)):=chn rfl rfl e1 (λ_=>rfl) (λz=>by rw[e2,z];rfl) λz=>by rw[z];rfl
 refine eU rfl ?_;unfold Qf;cases h:decide iR!&&decide iQ_ with
 |false=>rw[h]at e4;exact c9t e4
 |true=>
  rw[h]at e4;refine zM e4 ?_;show some (D.bl (! wL_))=_;rw[e3,Bool.true_and]
def sZ(cs:n!)(h:cs.all Qf=true):Ga F! aA! b1! eN! wM_=some iT!:=by
 induction cs with
 |nil=>rfl
 |cons c cs ih=>
  rw[List.all_cons,JD]at h;have e:=c5i c;rw[h.1]at e;show((Ca [ds_]).bind λy=>(Ga F! aA! b1! eN! wM_).map (y::·))=_;rw[ih h.2,e];rfl
def tG:∀(cs:n!),Im iT_=some nj!
 |[]=>rfl
 |c::cs=>by simp only[IJ,Im,tG cs,SJ]
def c0v(a b:Str):Ew (.str a) (.str b)=(a==b):=by unfold Ew;rfl
def jI(a b:Str):Aw (.str a) (.str b)=some wO!:=by rfl
def iN(a b:Int):Aw (.int a) (.int b)=some wO!:=by rfl
abbrev AA(ns:u!):D:=.lst ia_
def c6c(h0:0<=i)(Y:i<f_):∃x,Fj xs i=some x/\x∈xs:=by refine⟨xs[i.toNat]' a!,?_,KG _⟩;unfold Fj Kb;rw[IB h0,IB Y];simp
def c1k(ns:u!)(k:Int):∃c,Qn [AA ns,gi_]=some (.int c):=by
 cases ns with
 |nil=>exact⟨0,rfl⟩
 |cons n r=>
  have hp:(0:Int)<wO_:=by simp only[IK,IW];omega
  obtain⟨x,e,hx⟩:=c6c (i:=k%wO_) (ND _ a!) (LQ k hp);obtain⟨c,_,rfl⟩:=IY.mp hx;exact⟨c,zY rfl (c8a rfl (cN rfl (cN rfl rfl (xP hp)) e))⟩
def c2d(h:-fA_<j)(h2:j<2 ^ 64):Wt ay! ci!=some (.int (i*j)):=IB (by unfold Uf;rw[IN h,IN h2,PM,Bool.or_true])
def b4g(ns:u!):∃m,Ks [AA ns,gi_]=some eN_/\0<=m/\m<4294967231:=by obtain⟨c,hc⟩:=c1k ns k;exact⟨_,zY rfl ((b1n (b1l (cN (cN (b1g hc rfl rfl) (cN rfl wQ_ rfl) rfl) rfl (xP a_)))).trans ((b1n (b1l (cN (cN rfl rfl wS!) rfl (xP a_)))).trans (a0a (cN (cN (cN wQ_ rfl wS!) rfl rfl) rfl (xP a_))))),ND _ a_,LQ _ a_⟩
def b6x(R:dI!)(ds:d!)(h:∀d∈ds,∃au b,bnd d ρ=some au/\ft au=some b/\(b=true->∃y,fe au=some y/\R y)):
  ∃ys,Ga bnd ft fe ρ ds=some ys/\ad_<=g_/\∀y∈ys,R y:=by
 induction ds with
 |nil=>exact⟨[],rfl,IH _,λy hy=>by exact(HY hy).elim⟩
 |cons d ds ih=>
  obtain⟨au,b,e1,e2,hy⟩:=h d HV;obtain⟨ys,e3,hl,hr⟩:=ih λx hx=>h x bt_
  unfold Ga;rw[e1,LG,e2,LG];cases b with
  |false=>exact⟨ys,e3,Nat.le_succ_of_le hl,hr⟩
  |true=>
   obtain⟨y,e4,r4⟩:=hy rfl;refine⟨y::ys,by rw[D!,e4,LG,e3];rfl,SA hl,oY!⟩;obtain rfl|hz:=HW.mp hz
   .exact r4
   .exact hr z hz
def Fd(x:D):Prop:=∃a b,x=.tup vd!/\0<=a/\a<16/\1<=b/\b<=2000
def Em(x:D):Prop:=x=.str "root"\/x=.str "bin"\/Fd x
def Pg(x:D):Prop:=x=.non\/Fd x
def Zn(x:D):Prop:=∃a b c,x=.tup vd_/\0<=a/\a<16/\1<=b/\b<=2000/\0<=c/\c<=15
def Mr(x:D):Prop:=x=.non\/Zn x
inductive DG:D->Prop
 |put {a b:D}:Em a->Pg b->DG gj_
 |write {a b:D} {s:Str}:Em a->Mr b->Oe s=true->1<=aE!->aE!<=16->DG gk!
 |set {a:D} {p n:Int}:Em a->0<=p->p<=3->n.natAbs<10 ^ 60->DG (.tup [nl!,a,.int p,bq!])
 |undo {a:D}:Fd a->DG (.tup [.str "undo",a])
 |redo {a:D}:Fd a->DG (.tup [.str "redo",a])
def b0j:(gk_).length=0:=by decide+kernel
def Ve(c:Nat):D:=.str Y_
def uF:∀(cs:n!),Np (cs.map Ve)=some nl_
 |[]=>rfl
 |c::cs=>by simp only[IJ,Ve,Np];rw[show List.map Ve cs=List.map Ve cs from rfl,uF cs];rfl
def a5l:∀(cs:n!),((nl_).map (·.length)).sum=cO!
 |[]=>rfl
 |c::cs=>by
  have ih:=a5l cs;simp only[IJ,List.sum_cons,IW];rw[ih];show 1+cO!=_;omega
end K14
namespace K14
open PySem L2 DL
open Classical
inductive Uk(W:OW)(n:D):D->OW->Prop
 |put {a b:D} {bi:r!}:Em a->Pg b->Qv W.rows n eL_ b bi->Uk W n gj_ eE!
 |wrt {a b:D} {s:Str} {h m:Int}:Em a->Mr b->aE!<=16->n=.tup bR!->Uk W n gk! (if a∈W.its then setT W a wV! else W)
 |set {a:D} {p v:Int}:Em a->0<=p->p<=3->Uk W n iV_ (if a∈W.its then Xx W a nm! else W)
def eP(h:Em x):∃k,Cg x=some k:=by
 obtain rfl|rfl|⟨a,b,rfl,_⟩:=h
 .exact G!
 .exact G!
 .exact G!
def b1k(h:Pg x):∃k,Cg x=some k:=by
 obtain rfl|⟨a,b,rfl,_⟩:=h
 .exact G!
 .exact G!
def a8q(h:Mr x):∃k,Cg x=some k:=by
 obtain rfl|⟨a,b,c,rfl,_⟩:=h
 .exact G!
 .exact G!
structure Qt(W:OW)(pre:d!):Prop where
 inv:Ct W
 its:∀x∈W.its,x∈pre
 sgs:∀x∈W.its,∀q∈W.txt x,∃h n k,q.1=.tup wY_/\D.tup ba_∈pre
 chr:∀x∈W.its,∀q∈W.txt x,∃c:Nat,q.2.1=.str Y_
section
variable{t:As}{M:Mh}{o:qT!}{O:Addr->Prop}{W W':OW}{B:Nat}{R:D->Mh->Prop}{pre:List D}
def mO{s:Str}(hq:q∈s.cps.toList.zipIdx.map dD_):∃c k:Nat,q=(.tup nm_,.str Y_,true):=by obtain⟨⟨c,k⟩,_,rfl⟩:=IY.mp hq;exact⟨c,k,rfl⟩
def a5q(h n:Int):∀(cs:n!) (k0:Nat),(((w0!).map c_)).Nodup/\∀k:Nat,k<k0->D.tup nm_∉(w0!).map c_
 |[],k0=>by simp
 |c::cs,k0=>by
  obtain⟨Y,h2⟩:=a5q h n cs (k0+1);refine⟨IV.mpr ⟨h2 k0 a!,Y⟩,λk hk z=>?_⟩;obtain z|z:=HW.mp z
  .simp[sgn]at z;omega
  .exact h2 k a! z
def a2v{h m:Int}(hs:w2!)(w:eQ!)(hn:w1_):Qt W' w2_:=by
 have keep:∀{V:OW},V.its=W.its->V.txt=W.txt->Ct V->Qt V w2_:=λ{V} e1 e2 wi=>by
  refine⟨wi,aC_,iX!,iX!⟩
  .rw[e1]at hx;exact IP _ w3!
  .rw[e1]at hx;rw[e2]at hq;obtain⟨a,b,c,e,hm⟩:=w.sgs x hx q hq;exact⟨a,b,c,e,IP _ hm⟩
  .rw[e1]at hx;rw[e2]at hq;exact w.chr x hx q hq
 cases hs with
 |put y1 y2 hg=>
  rename_i a b bi;have ni:D.tup bR!∉W.its:=λz=>hn (w.its _ z);have hp:Kn W eL_:=by split;assumption;exact .inr du!
  have im:∀x,x∈(w4!).its↔x∈W.its\/x=.tup bR!:=λx=>by simp[Hn]
  have tx:∀x,(w4!).txt x=if x=.tup bR! then[]else W.txt x:=λx=>rfl
  refine⟨hg.winv_put w.inv ni w5_ hp,aC_,iX!,iX!⟩
  .obtain z|rfl:=(im x).mp hx
   .exact IP _ (w.its x z)
   .simp
  .rw[tx]at hq;by_cases e:x=.tup bR!
   .rw[IB e]at hq;cases hq
   .rw[IF e]at hq;obtain⟨a,b,c,e',hm⟩:=w.sgs x w6_ q hq;exact⟨a,b,c,e',IP _ hm⟩
  .rw[tx]at hq;by_cases e:x=.tup bR!
   .rw[IB e]at hq;cases hq
   .rw[IF e]at hq;exact w.chr x w6_ q hq
 |wrt y1 y2 y3 e=>
  rename_i a b s h' m';cases e;by_cases c:a∈W.its
  .rw[IB c];obtain⟨U,v,e1,e2,e3⟩:=oB b eO! bu!;have mem:∀q,q∈wrT b eO! bu!↔q∈W.txt a\/q∈s.cps.toList.zipIdx.map iV!:=λq=>by
    rw[e2,e1];simp only[IM];constructor<;>(intro z;rcases z with(z|z)|z<;>simp[z])
   have fresh:∀x∈W.its,∀q∈W.txt x,∀k:Int,q.1≠.tup [ba!,dI_,gi_]:=λx hx q hq k z=>by
    show"!X";rw[e']at z;cases z;exact hn hm
   have tx:∀x,(w7_).txt x=if x=a then wrT b eO! bu! else W.txt x:=λx=>rfl
   have all:∀(P:f9!),(∀x∈W.its,∀q∈W.txt x,P q)->(∀q∈s.cps.toList.zipIdx.map iV!,P q)->∀x∈W.its,∀q∈(w7_).txt x,P q:=λP Y h2 x hx q hq=>by
    rw[tx]at hq;by_cases e:x=a
    .rw[IB e]at hq;obtain z|z:=(mem q).mp hq
     .exact Y a c q z
     .exact h2 q z
    .rw[IF e]at hq;exact Y x hx q hq
   refine⟨uJ w.inv c ?_ ga! vR!,λx hx=>IP _ w3!,all _ (λx hx q hq=>?_) ga!,all _ w.chr ga!⟩
   .rw[e2];have nd:=w.inv.snd a c;rw[e1]at nd;obtain⟨n1,_⟩:=a5q h m s.cps.toList 0;have dj:∀q∈W.txt a,∀q'∈s.cps.toList.zipIdx.map iV!,q.1≠q'.1:=λq hq q' bf=>by
     obtain⟨c',k',rfl⟩:=mO bf;exact fresh a c q hq _
    simp only[JA]at nd ⊢;rw[JP]at nd;rw[JP,JP];refine⟨⟨nd.1,n1,ir_⟩,nd.2.1,ir_⟩
    .obtain⟨q,hq,rfl⟩:=IY.mp hx;obtain⟨q',bf,rfl⟩:=IY.mp hy;exact dj q (by rw[e1];exact IP _ hq) q' bf
    .obtain hx|hx:=IM.mp hx
     .exact nd.2.2 x hx y hy
     .obtain⟨q',bf,rfl⟩:=IY.mp hx;obtain⟨q,hq,rfl⟩:=IY.mp hy;exact JF (dj q (by rw[e1];exact HX _ hq) q' bf)
   .obtain z|z:=(mem q).mp hq
    .exact w.inv.sg a c q z
    .obtain⟨c',k',rfl⟩:=mO z;exact vY_
   .obtain z|z:=(mem q).mp hq
    .exact(w.inv.su a c y hy q z q' bf e).symm
    .obtain⟨c',k',rfl⟩:=mO z;exact absurd e.symm (fresh y hy q' bf _)
   .show"!X";exact⟨a',b',c',e',IP _ hm⟩
   .obtain⟨c',k',rfl⟩:=mO hq;exact⟨_,_,_,rfl,S!⟩
   .obtain⟨c',k',rfl⟩:=mO hq;exact G!
  .rw[IF c];exact keep rfl rfl w.inv
 |set y1 y2 y3=>
  rename_i a p v;by_cases c:a∈W.its
  .rw[IB c];exact keep rfl rfl (a8s w.inv (by rw[MD];exact w.inv.nl a c))
  .rw[IF c];exact keep rfl rfl w.inv
end
def b4z:(Str.ofString "put"==Str.ofString "put")=true:=by decide+kernel
def a1i:(Str.ofString "write"==Str.ofString "write")=true:=by decide+kernel
def b4y:(Str.ofString "set"==Str.ofString "set")=true:=by decide+kernel
section
variable{t:As}{M:Mh}{o:qT!}{O:Addr->Prop}{W W':OW}{B:Nat}{R:D->Mh->Prop}{pre:List D}
def ifT{R:o!}(h:xa!)(k:nn!):Ap (Ck ft) q1 q2 ρ M R:=by simp only[Ap,Ck,h];exact k
def nO{R:o!}(h:xb!)(k:cQ_):Ap (Ck ft) q1 q2 ρ M R:=by simp only[Ap,Ck,h];exact k
def bX:(fT (f2 Aw bK! (fC oy!))) [ap!,bo!,some dJ!]=some i2_:=by
 have e:Al dJ! I_=some ai!:=by
  show nn_;show"!x";simp
 simp[fT,f2,Aa,fC,e,jI]
def ix1:Al no! aI!=some a:=by show Fj (D.str k::a::r) 1=_;unfold Fj Kb;rw[aj!,gm_];rfl
def ix2:Al no_ ed_=some b:=by show Fj (D.str k::a::b::r) 2=_;unfold Fj Kb;rw[aj!,gm_];rfl
def ix3:Al np! bF_=some c:=by show Fj (D.str k::a::b::c::r) 3=_;unfold Fj Kb;rw[aj!,gm_];rfl
def ax1:f2 Al F_ C! [ap!,bo!,some no!]=some a:=ix1
def ax2:f2 Al F_ al_ [ap!,bo!,some no_]=some b:=ix2
def ax3:f2 Al F_ az_ [ap!,bo!,some np!]=some c:=ix3
def av0:Aa 0 xh!=some Z!:=rfl
def av1:Aa 1 xh!=some n:=rfl
def iF{R:o!}(k:f ρ M λ_ M1=>R Z_ M1):Az f ρ M R:=k
def c2g{fo f1 f2 f3:j!}(h0:xi!)(Y:eK!)(h2:gc_)(h3:np_)(ho:jH!)(k:g [d,a,b,c] M R):Ay C m 4 g ch! nq! ρ M R:=by simp only[Ay,wl,Ab,Ac,h0,Y,h2,h3];exact m1_
def c7q{fo f1 f2 f3 f4:j!}(h0:xi!)(Y:eK!)(h2:gc_)(h3:np_)(h4:xi_)(ho:jH!)(k:g [d,a,b,c,e] M R):Ay C m 5 g ch! nq_ ρ M R:=by simp only[Ay,wl,Ab,Ac,h0,Y,h2,h3,h4];exact m1_
def b9a{h m:Int}(hO:aD_)(w:eQ!)(hn:w1_)(hs:w2!)(hB:B<3900)
  (hR:∀M' O',Bt t M' o O' W' cg!->Fr M O M' O'->R .non M'):Kr t [bp_,.tup bR!,d] M R:=by
 have fresh:∀x∈W.its,∀k':Nat,D.tup [ba!,dI_,vV!]∉(a8_).map c_:=λx hx k' z=>by
  show"#9";show"!X";rw[e']at e;cases e;exact hn hm
 refine h_;cases hs with
 |put ha hb hg=>
  show"!O";obtain⟨kb,ye⟩:=b1k hb;refine ifT (bX.trans (congrArg some b4z)) ?_;exact iF (c2g av0 av1 ax1 ax2 nr_ (c3h hO w.inv (λz=>hn (w.its _ z)) w5_ gq ye hB hg hR))
 |wrt ha hb de e=>
  cases e;show"!O";obtain⟨kb,ye⟩:=a8q hb;show"!0";refine ifT (bX.trans (congrArg some a1i)) ?_;exact iF (c7q av0 av1 ax1 ax2 ax3 nr_ (b0u hO w.inv gq ye hB de fresh λM' f1 _ fr=>hR M' O f1 fr))
 |set ha Y h2=>
  show"!O";show"!0";refine nO aa_ ?_;refine nO aa_ ?_;refine ifT (bX.trans (congrArg some b4y)) ?_;exact iF (c2g av0 ax1 ax2 ax3 nr_ (tL hO w.inv gq Y h2 λM' f1 fr=>hR M' O (f1.mono a!) fr))
def b9b{k:Str}(hk:xk_)(hR:R .non M):Kr t [bp_,n,.tup ns!] M R:=by
 refine h_;obtain rfl|rfl:=hk
 .show"!0";show"!0";exact hR
 .show"!0";show"!0";exact hR
end
section
variable{t:As}{M:Mh}{o:qT!}{rl:Addr->Qu}{W W':OW}{B:Nat}{R:D->Mh->Prop}{pre:List D}
def cM(b:D->Bool)(y:D->D)(c6:ck M):∀(ds:d!) (R:n3_),
  (∀d∈ds,∃au,bnd d ρ=some au/\(∀K:Bool->Mh->Prop,K (b d) M->ft au M K)/\(b d=true->∀K:D->Mh->Prop,K (y d) M->fe au M K))->R ((ds.filter b).map y) M->On bnd ck ft fe ρ ds M R
 |[],R,_,hR=>⟨c6,hR⟩
 |d::ds,R,h,hR=>by
  obtain⟨au,e1,e2,e3⟩:=h d HV;refine ns_;rw[e1];refine e2 _ ?_;cases hb:b d with
  |true=>
   refine e3 hb _ (cM b y c6 ds _ xn! ?_);rw[KO hb]at hR;exact hR
  |false=>
   refine cM b y c6 ds _ xn! ?_;rw[LD (by simp[hb])]at hR;exact hR
end
structure Op where
 h:Int
 n:Int
 tm:Int
 d:D
nonrec def Op.v(o:Op):D:=.tup i3_
nonrec def Op.nm(o:Op):D:=.tup [nt!,.int o.n]
nonrec def Op.key(o:Op):Int×Int:=(o.tm,o.h)
def Ey:D->Option bQ_
 |.tup [.str k,a]=>if nu! then some (k,a)else none
 |_=>none
def kU(k:Str)(a:D):Ey (.tup ns!)=if nu! then some (k,a)else none:=rfl
def nW(h:DG d):(∃k a,d=.tup ns!/\xo_/\Fd a/\Ey d=some (k,a))\/(∃k r,d=.tup bR_/\gn!=false/\(k=="redo")=false/\Ey d=none):=by
 have uu:nu_=true:=by decide+kernel
 have rr:nv!=true:=by decide+kernel
 cases h with
 |put Y h2=>exact .inr nv_
 |write Y h2 h3 h4 h5=>exact .inr nv_
 |set Y h2 h3 h4=>exact .inr nv_
 |undo Y=>
  refine .inl ⟨_,_,rfl,c6_,Y,?_⟩;rfl
 |redo Y=>
  refine .inl ⟨_,_,rfl,.inr rfl,Y,?_⟩;rfl
def yL(o:Op):Cr dJ_=some xp!:=by rfl
def sH:∀ops:List Op,Km Cr gn_=some nw_
 |[]=>rfl
 |o::r=>by
  rw[IJ];unfold Km;rw[yL,sH r];rfl
def c7y(o:Op):Ho Cr o.v=o.key:=by unfold Ho;rw[yL];rfl
def a1q{k:xp_}(h:xq!)(x:α):∀l:List α,Oj k' (f x) ff!=(Oj k x l).map f
 |[]=>rfl
 |y::r=>by
  simp only[IJ,Oj,h];split
  .rfl
  .rw[a1q h x r];rfl
def qU{k:xp_}(h:xq!):∀l:List α,Hh k' ff!=(Hh k l).map f
 |[]=>rfl
 |x::r=>by rw[IJ];unfold Hh;rw[qU h r,a1q h]
abbrev srt(ops:i_):List Op:=Hh Op.key ops
def kL(nd:dK!)(hl:dK_):Cn bS!=some (.lst go_):=by
 have e:Zy Cr gn_=some go_:=by
  unfold Zy;rw[sH];show(if(nw_).Nodup/\(gn_).length<64 then some _ else none)=_;rw[IB ⟨nd,by simpa using hl⟩,qU c7y]
 simp[Cn,Oc,Fm,De,Tl,Aa,e]
def iI(h:a.Perm b)(nd:xs!):srt a=srt b:=
 iS (fI nd) (fI ((h.map _).nodup_iff.mp nd)) ((aV a).trans (h.trans (aV b).symm))
def b1h(nd:xs!):srt (srt a)=srt a:=iI (aV a) (((aV a).map _).nodup_iff.mpr nd)
def b1b{o:Op}(h:gp_):Am dJ_=some nz!:=by
 have e3:Al o.v bF_=some o.d:=by
  rfl
 have main:∀(k:Str) (r:d!),o.d=.tup bR_->Am dJ_=some (.bl nu!):=λk r e=>by
  have e0:Al dJ! I_=some ai!:=by
   show nn_;show"!x";simp
  have e1:∀s:Str,f2 Aw ly! (fC cg_) [L!]=some (.bl (k==s)):=λs=>by
   show(nA!).bind xu_=_;rw[e3,e];show(xw_).bind xu_=_;rw[e0];exact jI k s
  show(match De (Lm _ _) [L!]with|some (.rt d)=>some d|some (.nx _)=>some .non|none=>none)=_;unfold De Lm fT;rw[e1,e1];cases (k==Str.ofString "undo")<;>rfl
 obtain⟨k,a,e,hk,_,hu⟩|⟨k,r,e,Y,h2,hu⟩:=nW h
 .rw[main k [a] e,hu];obtain rfl|rfl:=hk
  .rw[xx_];rfl
  .rw[xx!,(show(Str.ofString "redo"==Str.ofString "undo")=false by decide+kernel)];rfl
 .rw[main k r e,hu,Y,h2];rfl
def Mt(f:Str->D):List Op->List ai_->List ai_
 |[],σ=>σ
 |o::os,σ=>match Ey o.d with
  |some (k,a)=>Mt f os (Bf σ a (f k))
  |none=>Mt f os σ
def qO:∀(os:i_) (A B:r!),(∀x,(kget A x=none/\kget B x=none)\/∃k:Str,kget A x=some ai!/\kget B x=some eS!)->
  ∀x,(kget xy_ x=none/\kget xz! x=none)\/∃k:Str,kget xy_ x=some ai!/\kget xz! x=some eS!
 |[],A,B,h=>h
 |o::os,A,B,h=>by
  unfold Mt;cases e:Ey o.d with
  |none=>exact qO os A B h
  |some q=>
   obtain⟨k,a⟩:=q;refine qO os _ _ λx=>?_;by_cases c:a=x
   .subst c;rw[iL,iL];exact .inr ⟨k,rfl,rfl⟩
   .rw[lQ c,lQ c];exact h x
section
variable{t:As}{M:Mh}{R:D->Mh->Prop}
def gY(h:bb!)(hk:aZ!)(hl:cm_):Jz M x! y v=some e5_:=by simp[Jz,h,hk,hl]
def uY(h:Fd x):∃k,Cg x=some k:=by obtain⟨a,b,rfl,_⟩:=h;exact G!
def c8o:Aa 1 nB_=some x!:=rfl
def xU:∀(os:i_) (x1:D) (y:ao_) (σ:r!) (ep:Nat) (M:Mh) (R:o!),nC!->co!+bu_<1000->M p=some nC_->
  (∀M' bp y',M' p=some (.dct xz_ bp)->i4!->R xA! M')->
  Gf b5_ W! sq! bv! nB_ M R
 |[],x1,y,σ,ep,M,R,_,_,hp,hR=>xA_
 |o::os,x1,y,σ,ep,M,R,hd,hl,hp,hR=>by
  refine M!;show Ap (Ck _) _ _ bv_ M _;have ho:=hd o HV;have et:fT (f1 Am bH_) bv_=some (ny_).isSome:=by
   have e:f1 Am bH_ bv_=some nz!:=b1b ho;unfold fT;rw[e];rfl
  dsimp only[_root_.List.length_cons]at hl;have e3:Al o.v bF_=some o.d:=by rfl
  obtain⟨k,a,e,hk,ii,hu⟩|⟨k,r,e,Y,h2,hu⟩:=nW ho
  .rw[hu]at et;refine ifT et ?_;obtain⟨ka,j9⟩:=uY ii;have i0:f2 Al bI! A_ bv_=some ai!:=by
    show nA!=_;rw[e3,e];show Fj [D.str k,a] 0=_;rfl
   have i1:f2 Al bI! C! bv_=some a:=by
    show xD!;rw[e3,e];show Fj [D.str k,a] 1=_;rfl
   have dr:Jz M x! a ai!=some xE_:=by
    exact gY hp j9 bn_
   have:=xU os x1 dL! xF! Bb! xE_ R eS_ (by have:=kput_len σ a ai!;omega) mup_same (λM' bp y' Y h2=>hR M' bp y' xG! λb hb=>(nE!).trans nD_);simp only[Bq,wl,i0,i1,c8o,dr,Ed];exact this
  .rw[hu]at et;refine nO et ?_;exact xU os x1 dL! σ ep M R eS_ a! hp xG_
def yQ(h:f ρ=some bm!):Go f ρ=some ds:=by unfold Go;rw[h];rfl
def tS(nd:dK!)(hl:dK_)(hd:gq!)
  (hR:∀p M' ep,M p=none->M' p=some (.dct i4_ ep)->i4!->R x! M'):Es bS! M R:=by
 refine h_;intro p hp;have hi:Go lz_ nF!=some go_:=yQ (kL nd hl);have b7:(aY!).Perm ops:=aV ops;have:=xU aY! gq_ none [] 0 dQ_ (λr M1=>match r with|.nx au=>Aq q_ au M1 v7!|.rt d=>R d M1) xI! xI_ mup_same xJ!;show Af (Bw (Gh _) _ _) _ nF! _ _;simp only[Af,Bw,Gh,hi,Ed];exact this
def t2(ha:∀K':D->Mh->Prop,K' d M->fa ρ M K')(hb:fb ρ=some v)(hg:g d v=some a4!)(k:K b M):wT (w2 (λ_=>g) fa i5!) ρ M K:=by refine ha _ ?_;simp only[wl,hb,hg];exact k
def Undn(wd:r!)(o:Op):Prop:=Ey o.d=none/\kget wd o.nm=some b5!
def b1i(o:Op):Ia o.v none (some 2)=some o.nm:=by rfl
def a3u(o:Op):∃k,Cg o.nm=some k:=G!
def a5i(qu:p≠q):∀(os:i_) (x1:D) (y z:ao_) (σ:r!) (ep:Nat) (M:Mh) (R:o!),nC!->co!+bu_<1000->M p=some (.dct wd e0)->M q=some nC_->(∀x v,kget wd x=some v->∃k:Str,v=.str k)->
  (∀M' bp y' z' dt,M' q=some xJ_->(∀x,kget dt x≠none↔(kget σ x≠none\/∃o∈os,o.nm=x/\Undn wd o))->xK!->R (.nx [O_,ab!,aY_,y',z']) M')->
  Gf B! W! hO! bv! [O_,ab!,aY_,y,z] M R
 |[],x1,y,z,σ,ep,M,R,_,_,hp,hq,ky,hR=>⟨trivial,hR M ep y z σ hq xK_ λb _=>rfl⟩
 |o::os,x1,y,z,σ,ep,M,R,hd,hl,hp,hq,ky,hR=>by
  refine M!;show Af (An 4 _) _ [O_,ab!,aY_,L!,z] M _;have ho:=hd o HV;dsimp only[_root_.List.length_cons]at hl;have es:=b1i o;dsimp only[Af,An,wl,es];show Ap _ _ _ cR_ M _;have et:Cp ss_ cR_=some (!(ny_).isSome):=by
   have e:f1 Am fK_ cR_=some nz!:=b1b ho;unfold Cp fT;rw[e];rfl
  obtain⟨kn,fz⟩:=a3u o;have next:∀(c:Prop),(c↔Undn wd o)->∀dt bp M',M' q=some xJ_->(∀x,kget dt x≠none↔(kget σ x≠none\/(x=o.nm/\c)))->dt.length<=co!+1->xK!->
    Gf B! W! hO! bv! cR_ M' R:=λc hc dt bp M' Y h2 h3 h4=>by
   refine a5i qu os x1 _ _ dt bp M' R eS_ a! ((h4 p qu).trans hp) Y ky λM2 nv y2 z2 ZS g1 g2 g3=>hR M2 nv y2 z2 ZS g1 nG! λb hb=>(g3 b hb).trans (h4 b hb);rw[g2,h2];show"!{"
   .rintro((u|⟨u1,u2⟩)|⟨o',u1,u2,u3⟩)
    .exact .inl u
    .exact .inr ⟨o,HV,u1.symm,hc.mp u2⟩
    .exact .inr ⟨o',HR _ u1,u2,u3⟩
   .rintro(u|⟨o',u1,u2,u3⟩)
    .exact .inl (.inl u)
    .obtain rfl|u1:=HW.mp u1
     .exact .inl (.inr ⟨u2.symm,hc.mpr u3⟩)
     .exact .inr ⟨o',u1,u2,u3⟩
  have no:(¬Undn wd o)->Gf B! W! hO! bv! cR_ M R:=λh=>next False (by simp[h]) σ ep M hq xK_ a! λb _=>rfl;cases hu:Ey o.d with
  |some u=>
   rw[hu]at et;simp only[Ap,Gb,Ck,et];exact no λz=>by rw[z.1]at hu;rcases hu
  |none=>
   rw[hu]at et;simp only[Ap,Gb,Ck,et];have hg:∀(K:v_),K xO! M->Lr q_ am! cR_ M K:=λK hK=>by
    have c1:Dm M x!=some (p,wd,e0):=by simp[Dm,hp]
    show Ed (Dm M x!) λ_=>Ed (Dm M x!) λq=>Ed (Cg o.nm) λ_=>K ((kget q.2.1 o.nm).getD .non) M;rw[c1,fz];exact hK
   have ZT:Sd xO!:=by
    cases e:kget wd o.nm with
    |none=>exact .inl rfl
    |some v=>obtain⟨k,rfl⟩:=ky _ _ e;exact jU k
   have UE:(nG_).getD .non=.str "undo"↔Undn wd o:=by
    unfold Undn;rw[hu];cases e:kget wd o.nm with
    |none=>simp
    |some v=>simp
   refine t2 hg rfl (nS ZT (jU _)) ?_;by_cases c:(nG_).getD .non=.str "undo"
   .rw[IN c];have dr:=gY (v:=d6!) hq fz bn_;have f2:Aa 2 cR_=some bS_:=rfl;have f4:Aa 4 cR_=some o.nm:=rfl;simp only[Bq,wl,fC,f2,f4,dr,Ed];refine next True (by simp[<-UE,c]) _ _ _ mup_same nG! f0_ λb hb=>mup_ne hb;by_cases e:o.nm=x
    .subst e;rw[iL];simp
    .rw[lQ e];simp[JF e]
   .rw[IG c];exact no λz=>c (UE.mpr z)
def wF:∀(os:i_) (σ:r!),(∀x v,kget σ x=some v->∃k:Str,v=.str k)->∀x v,kget xz_ x=some v->∃k:Str,v=.str k
 |[],σ,h=>h
 |o::os,σ,h=>by
  unfold Mt;cases e:Ey o.d with
  |none=>exact wF os σ h
  |some q=>
   obtain⟨k,a⟩:=q;refine wF os _ λx v hx=>?_;by_cases c:a=x
   .subst c;rw[iL]at hx;rcases hx;exact⟨k,rfl⟩
   .rw[lQ c]at hx;exact h x v hx
def oC(nd:dK!)(hl:dK_)(hd:gq!)
  (hR:∀q M' ep kq,M q=none->M' q=some xO_->(∀x,kget kq x≠none↔∃o∈ops,o.nm=x/\Undn i4_ o)->ci_->R bS_ M'):Gp bS! M R:=by
 refine h_;have hc:∀(K:v_),Es bS! M K->Ag 1 Es an! xP! M K:=λK h=>dA_;refine hc _ (tS nd hl hd λp M1 ep hp hM1 fr=>?_);intro q hq;have qu:p≠q:=λz=>by rw[<-z,hM1]at hq;rcases hq
 have oq:M q=none:=by rw[<-fr q (JF qu)];exact hq
 refine a5i qu ops gq_ none none [] 0 _ _ hd be_ ((mup_ne qu).trans hM1) mup_same (wF _ [] λx v h=>by simp[kget]at h) λM' bp y' z' dt Y h2 h3=>?_;refine hR q M' bp dt oq Y nG! λb hb=>?_
 .rw[h2];simp[kget]
 .have b1:b≠q:=λz=>hb (by rw[z];exact oq);have b2:b≠p:=λz=>hb (by rw[z];exact hp);rw[h3 b b1,mup_ne b1,fr b b2]
end
def W0:OW:=⟨[],[],λ_=>[],λ_=>[]⟩
def b7p:Qt W0 []:=by refine⟨⟨by simp[W0],cS!,by simp[W0],λx=>by simp[W0],xP_,⟨λ_=>0,xP_⟩,cS!,cS!,cS!,cS!⟩,cS!,cS!,cS!⟩
section
variable{t:As}{M:Mh}{R:D->Mh->Prop}
section
variable{ρ:Ae}
def bQ(h:cd_)(K:v_):wl f ρ M K=K d M:=by simp only[wl,h]
def DX(C:qT!)(x:Str)(fo:j!)(ρ:Ae)(y:D)(M:Mh)(Q:bB!):Prop:=wl fo ρ M λd M2=>match d with
 |.fn p=>(match M2 p with|some (.obj C' fs)=>C'=C/\a2!<100/\Q zG!|_=>False)
 |_=>False
def mP{R:o!}(h:f ρ M λy M1=>DX C x fo ρ y M1 λM2=>R Z_ M2):Ez C x ch! f ρ M R:=h
def jT{R:o!}(h:f ρ M λy M1=>DX C x fo ρ y M1 λM2=>q ρ M2 R):Af (Ez C x ch! f) q ρ M R:=h
def fV(h0:i6!)(hM:M p=some m0_)(hl:a2!<100)(hf:Gk x y fs=fs')(k:Q (mup M p (.obj C fs'))):DX C x fo ρ y M Q:=by unfold DX;rw[bQ h0];show(match M p with|some (.obj C' fs)=>C'=C/\a2!<100/\Q (mup M p zF_)|_=>False);rw[hM];subst hf;exact⟨rfl,hl,k⟩
end
def pc{R:zs!}(h:wJ!)(k:fb ρ M λy M2=>fp ρ M2 λh1 M3=>R ((x,y)::h1) M3):Da gs! fb fp ρ M R:=by simp only[Da,wl,h];exact k
def a3v{α β:Type}{f:α->β}:∀{l:R_},(ff!).Nodup->∀{x y:α},x∈l->y∈l->f x=f y->x=y
 |[],_,_,_,h,_,_=>by exact(cR!).elim
 |a::l,nd,x,y,hx,hy,e=>by
  rw[IJ,IV]at nd;obtain Y|Y:=HW.mp hx<;>obtain h2|h2:=HW.mp hy
  .rw[Y,h2]
  .exact absurd (by rw[<-Y,e];exact IU h2) nd.1
  .exact absurd (by rw[<-h2,<-e];exact IU Y) nd.1
  .exact a3v nd.2 Y h2 e
structure HL(M0 M:Mh)(l:List nI!):Prop where
 cell:∀q∈l,M q.1=some q.2
 nd:(eX!).Nodup
 fr:∀q∈l,M0 q.1=none
 kp:∀b,M0 b≠none->M b=M0 b
variable{M0:Mh}{l u v:List (Addr×Cq)}{b:qT!}{c c0:Cq}
def HL.new(h:nI_)(hb:M b=none):HL M0 nJ! ((b,c)::l):=by
 have h0:=QA λz=>z ((h.kp b z).symm.trans hb);refine⟨dL_,IV.mpr ⟨ck_,h.nd⟩,dL_,λa ha=>(mup_ne (cU ha h0)).trans (h.kp a ha)⟩
 .obtain rfl|hq:=HW.mp hq
  .exact mup_same
  .exact(mup_ne (cU (by rw[h.cell q hq];simp) hb)).trans (h.cell q hq)
 .show"#9";have:=h.cell q hq;rw[e,hb]at this;rcases this
 .obtain rfl|hq:=HW.mp hq
  .exact h0
  .exact h.fr q hq
def HL.put(h:HL M0 M (u++(b,c0)::v)):HL M0 nJ! (u++(b,c)::v):=by
 have nd:=h.nd;rw[JA,IJ]at nd;have p:(u.map c_++b::v.map c_).Perm (b::(u.map c_++v.map c_)):=QO;have nb:=(IV.mp (p.nodup_iff.mp nd)).1;have ob:∀q,q∈u++v->mup M b c q.1=M q.1:=λq hq=>mup_ne λz=>nb (by rw[<-z,<-JA];exact IU hq);have bf:∀{c q},q∈u++(b,c)::v->q=(b,c)\/q∈u++v:=λ{c q} hq=>by simpa[or_left_comm]using hq
 have mf:∀q,q∈u++v->q∈u++(b,c0)::v:=λq hq=>IM.mpr ((IM.mp hq).imp_right (HR _));have vi:=h.fr (b,c0) c!;refine⟨dL_,by rw[JA,IJ];exact nd,dL_,λa ha=>(mup_ne (cU ha vi)).trans (h.kp a ha)⟩
 .obtain rfl|z:=bf hq
  .exact mup_same
  .exact(ob q z).trans (h.cell q (mf q z))
 .obtain rfl|z:=bf hq
  .exact vi
  .exact h.fr q (mf q z)
def HL.row(h:nI_)(z1:M r=none)(z2:M f=none)(z3:M p=none)(n1:r≠f)(n2:r≠p)(hr:Io t M' r f p [])(fr:∀b,b≠r->b≠f->b≠p->M' b=M b):∃kf ef kp ep,Gv [] kf/\Gv [] kp/\HL M0 M' ((r,.obj t.B7 mw!)::(f,.dct kf ef)::(p,.dct kp ep)::l):=by
 obtain⟨kf,ef,kp,ep,hf,hp,K,Kp⟩:=hr.dc;have h3:=((h.new (c:=.dct kp ep) z3).new (c:=.dct kf ef) ((mup_ne hr.ne).trans z2)).new (c:=.obj t.B7 mw!) ((mup_ne n1).trans ((mup_ne n2).trans z1));refine⟨kf,ef,kp,ep,K,Kp,?_⟩;have e:∀a,M' a=mup (mup (mup M p Bz!) f u6!) r mw_ a:=λa=>by
  by_cases c1:a=r
  .rw[c1,mup_same];exact hr.ob
  .rw[mup_ne c1];by_cases c2:a=f
   .rw[c2,mup_same];exact hf
   .rw[mup_ne c2];by_cases c3:a=p
    .rw[c3,mup_same];exact hp
    .rw[mup_ne c3];exact fr a c1 c2 c3
 rw[show M'=_ from funext e];exact h3
def c2a:(i8!).Nodup:=IV.mpr ⟨by rw[II];exact b1y,S!⟩
def c1x:∀q∈nM_,(oo!).isSome=true:=λq hq=>by
 obtain rfl|hq:=HW.mp hq
 .rfl
 .rw[II.mp hq];rfl
def a3a{R:o!}(h:q1 ρ M λr M1=>match r with|.nx cf=>q2 cf M1 R|.rt d=>R ae_ M1):Af q1 q2 ρ M R:=h
def a5r{fs':Addr->List bQ_}{R:o!}(L:HL M0 M (u++[(o,.obj C fs)]))(h0:v8_)(hl:a2!<100)(hf:∀a,Gk x bl_ fs=fs' a)(k:∀a M',HL M0 M' ((a,.dct [] 0)::u++[(o,.obj C (fs' a))])->R Z_ M'):Ez C x ch! Fa ρ M R:=mP λa ha=>by
 have L1:=L.new (c:=gt!) ha;exact fV h0 (L1.cell (o,_) c!) hl (hf a) (k a _ (L1.put))
def cD{α:Type}{l:R_}{a:α}(i:Nat)(h:l[i]?=some a):a∈l:=NB h
def c4h{M':Mh}{f1 p1 f2 p2:qT!}{kf2:r!}{UF xx UG nv:Nat}(L:HL M M' [(a6,.dct [] 0),(a5,.dct [] 0),(a4,.dct [] 0),(a3,.dct [] 0),(r2,.obj t.B7 [("following",.fn f2),("preceding",.fn p2)]),(f2,.dct kf2 UG),(p2,.dct ny nv),(r1,.obj t.B7 [("following",.fn f1),("preceding",.fn p1)]),(f1,.dct UH UF),(p1,.dct UI xx),(a2,.dct xW_ 2),(a1,.dct xX! 2),(o,.obj t.B6 a9_)])(c1:Gv [] UH)(c2:Gv [] UI)(c3:Gv [] kf2)(c4:Gv [] ny):∃O,Bt t M' o O W0 2/\∀b,M b≠none->M' b=M b/\¬O b:=by
 let ad:Qu->Addr
  |.ob=>o
  |.par=>a1
  |.dir true=>a2
  |.dir false=>a3
  |.nums=>a4
  |.wri=>a5
  |.hid=>a6
  |.row x _=>if x=root then r1 else r2
  |.fol x _=>if x=root then f1 else f2
  |.pre x _=>if x=root then p1 else p2
  |.nm _=>o
 have br:=JF b1y;have hl:(xZ!).map ad=[a6,a5,a4,a3,r2,f2,p2,r1,f1,p1,a2,a1,o]:=by
  simp only[IJ,ON,ad,IF br,KZ]
 have d:∀{x:D} {b:Bool},(Ls W0).dm b x->b=true/\(x=root\/x=binn):=λ{x b} l=>by
  cases b with
  |true=>exact⟨rfl,Or.resolve_left l λz=>by cases z⟩
  |false=>cases l
 have lm:∀r,Hw (Ls W0) r->r∈xZ!:=λr l=>by
  cases r with
  |row x b=>obtain⟨rfl,rfl|rfl⟩:=d l;exact cD 7 rfl;exact cD 4 rfl
  |fol x b=>obtain⟨rfl,rfl|rfl⟩:=d l;exact cD 8 rfl;exact cD 5 rfl
  |pre x b=>obtain⟨rfl,rfl|rfl⟩:=d l;exact cD 9 rfl;exact cD 6 rfl
  |nm x=>cases l
  |dir b=>cases b;exact cD 3 rfl;exact cD 10 rfl
  |ob=>exact cD 12 rfl
  |par=>exact cD 11 rfl
  |nums=>exact cD 2 rfl
  |wri=>exact cD 1 rfl
  |hid=>exact cD 0 rfl
 have nd:=L.nd;have ZU:∀{l:List nI!},HL M M' l->∀a∈l.map c_,M a=none:=λL a ha=>by obtain⟨q,hq,rfl⟩:=IY.mp ha;exact L.fr q hq
 have A1:ad (.row root true)=r1:=IB rfl;have A2:ad (.row binn true)=r2:=IF br;have A3:ad x0!=f1:=IB rfl;have A4:ad x0_=f2:=IF br;have A5:ad x1!=p1:=IB rfl;have A6:ad x2!=p2:=IF br;have kr:∀{y z:D},kget nM_ root=some y:=IB rfl;have kb:∀{y z:D},kget nM_ binn=some z:=(IF b1y).trans bs_;refine⟨Vh ad (Ls W0),⟨ad,rfl,λ_=>RP,λr l=>?_,λr r' l l'=>a3v (by rw[hl];exact nd) (lm r l) (lm r' l')⟩,λb hb=>⟨L.kp b hb,λ⟨r,l,e⟩=>?_⟩⟩
 .have hc:=L.cell;cases r with
  |ob=>exact⟨_,hc _ (cD 12 rfl),rfl⟩
  |par=>exact⟨_,hc _ (cD 11 rfl),_,_,rfl,IH 2,kr,kb,λi p h=>by cases h⟩
  |dir b=>
   cases b with
   |true=>
    refine⟨_,hc _ (cD 10 rfl),_,_,rfl,IH 2,λx=>⟨i9!,i9!⟩⟩
    .obtain⟨_,rfl|rfl⟩:=d h
     .rw[A1];exact kr
     .rw[A2];exact kb
    .exact(IF λz=>h (.inr (.inl z.symm))).trans (IF λz=>h (.inr (.inr z.symm)))
   |false=>exact⟨_,hc _ (cD 3 rfl),_,_,rfl,JJ 2,λx=>⟨λh=>x3!,dh_⟩⟩
  |nums=>exact⟨_,hc _ (cD 2 rfl),_,_,rfl,JJ 2,λx h=>by cases h⟩
  |wri=>exact⟨_,hc _ (cD 1 rfl),_,_,rfl,JJ 2,by rintro s v ⟨x,h,_⟩;cases h⟩
  |hid=>exact⟨_,hc _ (cD 0 rfl),_,_,rfl,JJ 2,λs=>⟨λh=>(by exact Bool.noConfusion h),by rintro⟨x,h,_⟩;cases h⟩⟩
  |row x b=>
   show"#/"
   .exact⟨_,by rw[A1];exact hc _ (cD 7 rfl),by show _=Cq.obj _ [(_,.fn (ad x0!)),(_,.fn (ad x1!))];rw[A3,A5]⟩
   .exact⟨_,by rw[A2];exact hc _ (cD 4 rfl),by show _=Cq.obj _ [(_,.fn (ad x0_)),(_,.fn (ad x2!))];rw[A4,A6]⟩
  |fol x b=>
   show"#/"
   .exact⟨_,by rw[A3];exact hc _ (cD 8 rfl),JJ 2,_,_,rfl,c1⟩
   .exact⟨_,by rw[A4];exact hc _ (cD 5 rfl),JJ 2,_,_,rfl,c3⟩
  |pre x b=>
   show"#/"
   .exact⟨_,by rw[A5];exact hc _ (cD 9 rfl),JJ 2,_,_,rfl,c2⟩
   .exact⟨_,by rw[A6];exact hc _ (cD 6 rfl),JJ 2,_,_,rfl,c4⟩
  |nm x=>cases l
 .have:=IU (f:=ad) (lm r l);rw[hl,e]at this;exact hb (ZU L b this)
def xR(hR:∀o O M',M o=none->Bt t M' o O W0 2->nP_->R Z! M'):Dy t.B6 1 (Ge t) Ac ρ M R:=by
 refine⟨rfl,λo ho=>h_⟩;have L:HL M (mup M o x6_) [(o,.obj t.B6 [])]:=HL.new x7_ ho;generalize mup M o x6_=M1 at L ⊢;refine jT λa1 ZV=>⟨mup_same,nQ!,c1x,c2a,?_⟩
 replace L:=(L.new (c:=gt!) ZV).put (u:=[]) (c:=.dct xX! 2)
 generalize mup (mup _ _ _) a1 _=M2 at L ⊢;refine fV (fs':=[cM_]) rfl (L.cell (o,_) (cD 1 rfl)) a_ ar! ?_
 replace L:=L.put (u:=[_]) (c:=.obj t.B6 [cM_])
 generalize mup _ o _=M3 at L ⊢;refine jT λa2 ZW=>?_
 replace L:=L.new (c:=gt!) ZW
 refine pc rfl (rX λr1 f1 p1 N1 z1 z2 z3 n1 n2 R1 _ K1=>?_);obtain⟨UH,UF,UI,xx,c1,c2,L⟩:=L.row z1 z2 z3 n1 n2 R1 K1;clear z1 z2 z3 n1 n2 R1 K1;refine pc rfl (rX λr2 f2 p2 N2 z1 z2 z3 n1 n2 R2 _ K2=>?_);obtain⟨kf2,UG,ny,nv,c3,c4,L⟩:=L.row z1 z2 z3 n1 n2 R2 K2;refine⟨L.cell (a2,_) (cD 6 rfl),nQ!,c1x,c2a,?_⟩
 replace L:=L.put (u:=[_,_,_,_,_,_]) (c:=.dct xW_ 2)
 generalize mup _ a2 _=M4 at L ⊢;refine fV (fs':=[cM_,eF_]) rfl (L.cell (o,_) (cD 8 rfl)) x9! ar! ?_
 replace L:=L.put (u:=[_,_,_,_,_,_,_,_]) (c:=.obj t.B6 [cM_,eF_])
 generalize mup _ o _=M5 at L ⊢;refine a3a (a5r (fs':=λa=>[cM_,eF_,("texts",.fn a)]) L rfl x9_ cP_ λa3 M6 L=>?_);refine a3a (a5r (fs':=λa=>[cM_,eF_,mF!,("numbers",.fn a)]) L rfl ya! cP_ λa4 M7 L=>?_);refine a3a (a5r (u:=[_,_,_,_,_,_,_,_,_,_]) (fs':=λa=>[cM_,eF_,mF!,vn!,("written",.fn a)]) L rfl jb! cP_ λa5 M8 L=>?_);refine a5r (u:=[_,_,_,_,_,_,_,_,_,_,_]) (fs':=oF a1 a2 a3 a4 a5) L rfl (by show 5<100;decide) cP_ λa6 M' L=>?_;obtain⟨O,Y,h2⟩:=c4h L c1 c2 c3 c4;exact⟨rfl,hR o O M' ho Y h2⟩
end
inductive Tq:OW->List Op->OW->Prop
 |nil {W:OW}:Tq W [] W
 |cons {W W1 W2:OW} {o:Op} {os:i_}:Uk W o.nm o.d W1->Tq W1 os W2->Tq W gw_ W2
def Nj(wd:r!)(os:i_):List Op:=os.filter λo=>decide (Ey o.d=none/\¬kget wd o.nm=some b5!)
section
variable{t:As}{M:Mh}{R:D->Mh->Prop}
def FF(t:As):WS:=Af fK! sJ_
def a6d{ops:i_}(hq:∀x∈ops,kget kq x.nm≠none↔Undn wd x):∀(os:i_) (x1:D) (y z:ao_) (M:Mh) (O:O!) (W W':OW) (pre:d!) (B:Nat) (R:o!),
  (∀x∈os,x∈ops/\DG x.d)->yb_->(jb_).Nodup->Bt t M o O W B->Qt W pre->Tq W nR_ W'->B+20*bu_<3900->M q=some (.dct kq e0)->¬O q->
  (∀M' O' y' z',Bt t M' o O' W' (B+20*bu_)->yc_->Fr M O M' O'->R (.nx [O_,ap!,aY_,y',z']) M')->
  Gf B! W! (FF t) bv! [O_,ap!,aY_,y,z] M R
 |[],x1,y,z,M,O,W,W',pre,B,R,_,_,_,hO,w,hr,_,_,_,hR=>by
  cases hr;exact⟨trivial,hR M O y z hO ⟨pre,w⟩ .refl⟩
 |x::os,x1,y,z,M,O,W,W',pre,B,R,hd,hp,nd,hO,w,hr,hB,oq,vn,hR=>by
  refine M!;obtain⟨hx,jq⟩:=hd x HV;dsimp only[_root_.List.length_cons]at hB hR;rw[IJ,IV]at nd;obtain⟨kn,fz⟩:=a3u x;have yf:Jm true M x.nm bS_=some (.bl (!(kget kq x.nm).isSome)):=by simp[Jm,oq,fz]
  have f4:Aa 4 dM!=some x.nm:=rfl;have yg:Aa 2 dM!=some bS_:=rfl;have f1':Aa 1 dM!=some Z!:=rfl;have f3':f2 Al H_ az_ dM!=some x.d:=by
   show Al x.v bF_=_;rfl
  show Ap sH_ _ _ dM! M _;simp only[Ap,wT,w2,wl,f4,yg,yf];have hu:=hq x hx;have rest:∀(M1:Mh) (qw:O!) (W1:OW) (vo:d!),Bt t M1 o qw W1 cg!->Qt W1 vo->(∀y∈os,y.nm∉vo)->Tq W1 nR_ W'->Fr M O M1 qw->Gf B! W! (FF t) bv! dM! M1 R:=λM1 qw W1 vo Y h2 h3 h4 h5=>
   a6d hq os x1 nS! (some x.nm) M1 qw W1 W' vo cg! R nS_ h3 nd.2 Y h2 h4 a! ((yd_).1.trans oq) (yd_).2 (λM' O' y' z' g1 g2 g3=>hR M' O' y' z' (by rw[ye!];exact g1) g2 (h5.trans g3))
  by_cases c:kget kq x.nm=none
  .rw[c,IB ig!];have hc:∀(K:v_),Kr t [bp_,x.nm,x.d] M K->Ag 3 (Kr t) sJ! dM! M K:=λK h=>by
    exact dA_
   refine iF (hc _ ?_);obtain⟨k,a,e,hk,_,vp⟩|⟨k,r,e,_,_,vp⟩:=nW jq
   .have:Nj wd gx!=Nj wd os:=by unfold Nj;rw[LD (by simp[vp])]
    rw[this]at hr;rw[e];exact b9b hk (rest M O W pre m0! w nT! hr .refl)
   .have a9:¬kget wd x.nm=some b5!:=λz=>absurd c (hu.mpr ⟨vp,z⟩);have:Nj wd gx!=x::Nj wd os:=by unfold Nj;rw[KO (by simp[vp,a9])]
    rw[this]at hr;cases hr with
    |cons hs hr=>
     have w1:=a2v hs w jc_;refine b9a hO w jc_ hs a! λM1 qw Y h2=>rest M1 qw _ _ Y w1 ye_ hr h2;obtain z|z:=IM.mp z
     .exact hp y ez_ z
     .rw[II]at z;exact nd.1 yf!
  .have hU:=hu.mp c;obtain⟨v,hv⟩:=Option.ne_none_iff_exists'.mp c;rw[hv,bw_];have:Nj wd gx!=Nj wd os:=by unfold Nj;rw[LD (by simp[hU.1,hU.2])]
   rw[this]at hr;exact rest M O W pre m0! w nT! hr .refl
def a9a{ops:i_}(nd:dK!)(nn:yf_)(hl:dK_)(hd:gq!)(hr:Tq W0 yg! W')
  (hR:∀o M' O',M o=none->Bt t M' o O' W' 1500->yg_->(∀b,M b≠none->M' b=M b/\¬O' b)->R Z! M'):Jn t bS! M R:=by
 refine h_;show Af sH! _ xP! M _;dsimp only[Af,An];refine xR λo O M1 ho hO fr=>?_;have hc:∀(K:v_),Gp bS! M1 K->Ag 1 Gp an! [gr!,ap!,none,none,none] M1 K:=λK h=>dA_;refine hc _ (oC nd hl hd λq M2 ep kq hq iy ou ox=>?_);have hi:Go lz_ yh!=some go_:=yQ (kL nd hl);show Bw (Gh _) _ (FF t) yh! M2 _;simp only[Bw,Gh,hi,Ed];have hp:(aY!).Perm ops:=aV ops;have vn:¬O q:=λz=>hO.live z hq;have vq:=hO.keep λc hc=>ox c (hO.live hc);have ZX:∀x∈ops,kget kq x.nm≠none↔Undn i4_ x:=λx hx=>by
  rw[ou];show"!{"
  .rintro⟨y,hy,e,hu⟩;have:y=x:=a3v nn hy hx e;rw[<-this];exact hu
  .exact λh=>⟨x,hx,rfl,h⟩
 refine a6d ZX aY! gq_ none none M2 O W0 W' [] 2 _ (λx hx=>⟨hp.mem_iff.mp hx,hd x yh_⟩) yi! yi_ vq b7p hr jd_ iy vn λM' O' y' z' g1 g2 g3=>?_;refine hR o M' O' ho (g1.mono jd_) g2 λb hb=>?_;obtain⟨e1,e2⟩:=fr b hb;have e3:=ox b vE!;have g4:=g3 b yj! e2;exact⟨by rw[g4.1,e3,e1],g4.2⟩
end
def Pu(f:WE)(ρ:Ae)(M:Mh)(d:D):Prop:=∀K:D->Mh->Prop,K d M->f ρ M K
def Pm(f:WT)(ρ:Ae)(M:Mh)(b:Bool):Prop:=∀K:Bool->Mh->Prop,K b M->f ρ M K
def Ph(g:WF)(ds:d!)(M:Mh)(d:D):Prop:=∀K:D->Mh->Prop,K d M->g ds M K
section
variable{M:Mh}{ρ:Ae}
def gC(h:R x):Ed fv! R:=h
def aL(h:cd_):Pu gy! ρ M d:=λK hK=>by rw[bQ h];exact hK
def dL(h:Pu fo ρ M bl_)(hM:M a=some m0_)(hv:fs.lookup x=some v):Pu (Au C x fo) ρ M v:=λK hK=>by
 refine h _ ?_;have:Gx C x M bl_=some v:=by simp only[Gx,hM,KZ,hv]
 rw[this];exact hK
def dM(ha:Pu fa ρ M x)(hb:Pu fb ρ M y)(hg:yl!):Pu (w2 g fa fb) ρ M d:=λK hK=>by
 refine ha _ (hb _ ?_);rw[hg];exact hK
def iT(ho:je!)(ha:Pu fa ρ M y)(hb:Pu fb ρ M z)(hp:bb!)(hk:aZ!)(hd:(je_).getD z=d):Pu zp! ρ M d:=λK hK=>by
 have c:Dm M x!=some jA_:=by simp[Dm,hp]
 refine ho _ ?_;rw[c];refine ha _ (hb _ ?_);rw[c,hk];show K yl_ M;rw[hd];exact hK
def uP(h:Pu f ρ M x)(hg:g M [x]=some d):Pu (w1 g (Ab f Ac)) ρ M d:=λK hK=>by
 refine h _ ?_;show Ed (g M [x]) λd=>K d M;rw[hg];exact hK
def gB{f1:WE}(Y:jf!)(hg:Ph g [a] M d):Pu (Ag 1 g nU!) ρ M d:=λK hK=>by
 exact Y _ jf_
def dH{f1 f2:WE}(Y:jf!)(h2:yn!)(hg:Ph g bb_ M d):Pu (Ag 2 g yn_) ρ M d:=λK hK=>by
 exact Y _ (h2 _ jf_)
def a0l{f1 f2 f3:WE}(Y:jf!)(h2:yn!)(h3:Pu f3 ρ M c)(hg:Ph g dX! M d):Pu (Ag 3 g (Ab f1 (Ab f2 (Ab f3 Ac)))) ρ M d:=λK hK=>by
 exact Y _ (h2 _ (h3 _ jf_))
def dG{fo f1:WE}(h0:Pu fo ρ M Z!)(ho:Db C m M Z!)(Y:jf!)(hg:Ph g [bp_,a] M d):Pu (Ay C m 2 g fo nU!) ρ M d:=λK hK=>by
 exact h0 _ ⟨ho,Y _ jf_⟩
def jO(h:Pu f ρ M a4!):Pm (wT f) ρ M b:=λK hK=>by unfold wT;exact h _ hK
def gF(h:mA_):Pm (Ck f) ρ M b:=λK hK=>by unfold Ck;rw[h];exact hK
def wO(h:Pm f ρ M b):Pm (Jx f) ρ M (!b):=λK hK=>by unfold Jx;exact h _ hK
def fH(h:jg!)(k:q bn! M R):Af or_ q ρ M R:=by exact h _ k
def cH(h:jg!)(k:R ae_ M):Aq f ρ M R:=by unfold Aq;exact h _ k
def lT(h:yo_)(k:nn!):Ap ft q1 q2 ρ M R:=by refine h _ ?_;rw[D!];exact k
def oE(h:jg_)(k:cQ_):Ap ft q1 q2 ρ M R:=by refine h _ ?_;rw[bj!];exact k
def dO(h:jg_)(k:cQ_):Af (Ap ft q1 Bj) q2 ρ M R:=by exact oE h k
def c2r(h:iR_)(hl:Nat.ble ds.length 1000=true):Ci fs ρ=some dx_:=by unfold Ci;rw[h];show(if g_<=1000 then _ else _)=_;rw[IB (Nat.le_of_ble_eq_true hl)]
def c3i(h:Pu fa ρ M a4!)(h2:b=false->Pu fb ρ M (.bl c))(e:b=true->c=true):Pu (Xn fa fb) ρ M (.bl c):=λK hK=>by
 refine h _ ?_;cases b with
 |true=>rw[e rfl]at hK;exact hK
 |false=>exact h2 rfl _ hK
def b2d(hv:yp!)(ho:je!)(hi:Pu fi ρ M y)(hp:bb!)(hk:aZ!)(hl:cm_)(q:R Z_ e5_):Bq fo fi fv ρ M R:=by refine hv _ yp_;rw[gY hp hk hl];exact q
def b8s(hv:yp!)(ho:je!)(hi:Pu fi ρ M ci!)(hp:nU_)(hx:Kb xs.length j=some i)(q:R Z_ yq!):Bq fo fi fv ρ M R:=by
 refine hv _ yp_;have:Jz M x! ci! v=some yq!:=by simp[Jz,hp,hx]
 rw[this];exact q
end
section
variable{t:As}{M:Mh}{R:D->Mh->Prop}
def b5j(o:Op):∀{l:i_},Mj Op.key l->∃u v,l=u++v/\Oj Op.key o l=u++o::v/\(∀x∈u,Ik o.key x.key=false)/\∀x∈v,Ik o.key x.key=true
 |[],_=>⟨[],[],rfl,rfl,S!,S!⟩
 |y::l,h=>by
  unfold Mj at h;rw[KR]at h;unfold Oj;cases e:Ik o.key y.key with
  |true=>
   refine⟨[],y::l,rfl,rfl,S!,aC_⟩;obtain rfl|hx:=HW.mp hx
   .exact e
   .exact iV e (h.1 x hx)
  |false=>
   obtain⟨u,v,e1,e2,e3,e4⟩:=b5j o h.2;refine⟨y::u,v,by rw[e1];rfl,by rw[e2];rfl,aC_,e4⟩;obtain rfl|hx:=HW.mp hx
   .exact e
   .exact e3 x hx
def c9f(a b c d:Int):HT.lexLt bb_ [c,d]=Ik dU_ (c,d):=by
 rw[MJ,nH,HT.lexLt_cons];by_cases h:a=c
 .rw[IB h,HT.lexLt_cons];by_cases h':b=d
  .rw[IB h'];simp[HT.lexLt_nil_nil];omega
  .rw[IF h',IZ];dsimp only;omega
 .rw[IF h,IZ];dsimp only;omega
def Zg(l:i_)(o:Op):Nat->Bool
 |0=>false
 |j+1=>match l[j]? with|some f=>Ik o.key f.key|none=>false
def CL:Ae->Option Bool:=Mi tO! tO_
def a6m(hk:k<=ab_):CL [R!,yr!,L!,jh_]=some (Zg l o k):=by
 cases k with
 |zero=>simp[CL,Mi,fT,f2,Aa,fC,Xh,Gn,Zg]
 |succ j=>
  have hj:j<ab_:=hk;have e1:=IE hj;have e2:Fj yq_ nV_=some (ck!).v:=by
   show"!x";simp[hj]
  have e3:To 1 h8_ nW_=some (ck!).v:=by
   have:ys! - 1=(j:Nat):=by omega
   simp[To,f2,Aa,fC,Iq,Gn,this,e2]
  have e4:Al (ck!).v ed_=some (.int (ck!).tm):=by rfl
  have e5:Al (ck!).v I_=some (.int (ck!).h):=by rfl
  have e6:Al o.v ed_=some gz!:=by rfl
  have e7:Al o.v I_=some cU!:=by rfl
  have e8:BH (.tup [.int (ck!).tm,.int (ck!).h]) xp!=some (.bl (Ik o.key (ck!).key)):=by
   simp[BH,Kh,c9f,Op.key]
  have e9:Xh nW! I_=some v!:=by simp[Xh,Gn]
  have f3:Aa 3 nW_=some nW!:=rfl;have yg:Aa 2 nW_=some o.v:=rfl;simp only[CL,Mi,fT,f2,f3,fC,LG,e9,Ci,Ad,Ah,e3,e4,e5,yg,e6,e7,KZ,IW,MF,show(0+1+1:Nat)<=1000 by omega,e8,Zg,e1]
def a0q{o:Op}{u v:i_}(Y:∀x∈u,Ik o.key x.key=false)(h2:∀x∈v,Ik o.key x.key=true)(R:o!)(hR:R (.nx nY_) M):
  ∀(m:Nat),m<=v.length->∃n,Fe (Ck CL) l5! n [R!,nX_,L!,some (.int nZ!)] M R
 |0,hm=>by
  refine nZ_;have et:=a6m (x0:=x0) (o:=o) (l:=u++v) (k:=bx!) c!;have ef:Zg ag_ o bx!=false:=by
   cases hu:bx! with
   |zero=>rfl
   |succ j=>
    have:ag_[j]?=some (u[j]' a!):=by rw[KY a!,IE a!]
    simp only[Zg,this];exact Y _ gz_
  rw[ef]at et;simp only[Fe,Ck,Nat.add_zero,et];exact hR
 |m+1,hm=>by
  obtain⟨n,hn⟩:=a0q Y h2 R hR m a!;refine yt!;have et:=a6m (x0:=x0) (o:=o) (l:=u++v) (k:=bx!+(m+1)) be_;have ef:Zg ag_ o (bx!+(m+1))=true:=by
   show Zg ag_ o (bx!+m+1)=true;have:ag_[bx!+m]?=some (v[m]' a!):=by rw[JT a!,show u.length+m - u.length=m by omega,IE a!]
   simp only[Zg,this];exact h2 _ gz_
  rw[ef]at et;have es:f2 Iq H_ C! [R!,nX_,L!,some (.int n0!)]=some (.int nZ!):=by
   have:n0! - 1=nZ!:=by omega
   show Iq (.int n0!) aI!=_;simp only[Iq,Gn,this]
  simp only[Fe,Ck,et,KZ,An,wl,es];exact hn
def HG:WS:=Af tN_ (Af (Jb (Ck CL) l5!) tP!)
def a6n:∀(os:i_) (x0:D) (y z:ao_) (σ:i_) (R:o!),Mj Op.key σ->((σ++os).map Op.key).Nodup->co!+bu_<1000->
  (∀dt y' z',Mj Op.key dt->dt.Perm (σ++os)->R (.nx [R!,some (.lst (dt.map Op.v)),y',z']) M)->Gf b5_ W! HG bv! [R!,ji!,y,z] M R
 |[],x0,y,z,σ,R,hs,nd,hl,hR=>⟨trivial,hR σ y z hs c!⟩
 |o::os,x0,y,z,σ,R,hs,nd,hl,hR=>by
  refine M!;show Af (An 3 _) _ n1! M _;obtain⟨u,v,e1,e2,e3,e4⟩:=b5j o hs;dsimp only[_root_.List.length_cons]at hl;have el:Rw lk_ n1!=some yu_:=by
   have:f1 Bm ee_ n1!=some yu_:=by
    show Bm [.lst yu!]=_;simp[Bm]
   unfold Rw;rw[this];rfl
  simp only[Af,An,wl,el];have ay:co!=bx!+v.length:=by rw[e1,IR]
  rw[ay,e1];refine a0q e3 e4 _ ?_ v.length p!;have ei:We 1 H_ F_ nY_=some (.nx [R!,some (.lst ((ji_).map Op.v)),L!,ys_]):=by
   have:(ag_).length<big:=by unfold big;rw[IR];omega
   have e2:Aa 2 nY_=some o.v:=rfl;unfold We;show(if 0<=(nY!:Int)/\(nY!:Int).toNat<=(nX!).length/\(nX!).length<big then _ else none)=_;rw[IB ⟨p_,S!,by rw[IK];exact this⟩];simp
  simp only[Vp,ei,Ed];have hp:(ji_).Perm (σ++[o]):=by rw[e1];simpa using(QO (l₁:=u) (l₂:=v)).trans (List.perm_append_comm (l₁:=[o]) (l₂:=u++v))
  have db:Mj Op.key ji_:=by
   rw[<-e2];refine sR hs λy hy=>?_;rw[JA,JP]at nd;exact λz=>nd.2.2 _ (IU hy) o.key c! z.symm
  have og:((yw!).map Op.key).Nodup:=by
   have:(yw!).Perm (σ++o::os):=by
    have:=hp.append_right os;simpa using this
   exact(this.map _).nodup_iff.mpr nd
  exact a6n os x0 _ _ ji_ R db og (by have:=hp.length_eq;simp at this;simp;omega) λdt y' z' Y h2=>hR dt y' z' Y (h2.trans (by have:=hp.append_right os;simpa using this))
def rF(nd:dK!)(hl:dK_)(hR:R (.lst go_) M):Ej bS! M R:=by refine h_;refine a6n ops _ none none [] _ (ib!) (by simpa using nd) be_ λdt y' z' Y h2=>?_;have:dt=srt ops:=iS Y (fI nd) (by simpa using h2.trans (by simpa using(aV ops).symm));rw[this];exact hR
def a1s{neg:Bool}:Jm neg M ai! yy!=some (.bl (if neg then ! yz! else yz!)):=by show Jm.inS neg M ai! yy!=_;simp[Jm.inS,Nz,Av,Bx,Hk,Cw,c0v]
def GL:WS:=Ap tR! tR_ Bj
def c8k{o:Op}(ho:gp_):∃k r,o.d=.tup bR_/\(Ey o.d=none->gn!=false/\(k=="redo")=false)/\(∀u,Ey o.d=some u->r=[u.2]/\k=u.1/\xo_/\Fd u.2):=by
 obtain⟨k,a,e,hk,ii,hu⟩|⟨k,r,e,Y,h2,hu⟩:=nW ho
 .exact⟨k,[a],e,(λz=>by rw[z]at hu;rcases hu),(λu om=>by rw[hu]at om;rcases om;exact⟨rfl,rfl,hk,ii⟩)⟩
 .exact⟨k,r,e,(λ_=>⟨Y,h2⟩),(λu om=>by rw[hu]at om;rcases om)⟩
def b5d{o:Op}(e:o.d=.tup bR_):nA!=some ai!:=by
 have e3:Al o.v bF_=some o.d:=by rfl
 rw[e3,e];show Fj xf_ 0=_;show"!x";simp
def a5h{k:Str}(hk:xk_):n2_=true:=by
 obtain rfl|rfl:=hk
 .rw[xx_];rfl
 .rw[xx!];rfl
def xV:∀(os:i_) (x1:D) (y:ao_) (σ:r!) (ep:Nat) (M:Mh) (R:o!),nC!->co!+bu_<1000->M p=some nC_->
  (∀M' bp y',M' p=some (.dct (Mt nB! os σ) bp)->i4!->R xA! M')->
  Gf b5_ W! GL bv! nB_ M R
 |[],x1,y,σ,ep,M,R,_,_,hp,hR=>xA_
 |o::os,x1,y,σ,ep,M,R,hd,hl,hp,hR=>by
  refine M!;show GL bv_ M _;show Ap _ _ _ bv_ M _;have ho:=hd o HV;dsimp only[_root_.List.length_cons]at hl;obtain⟨k,r,e,hn,hs⟩:=c8k ho;have i0:f2 Al bI! A_ bv_=some ai!:=b5d e;simp only[Ap,wT,w2,wl,i0,fC,a1s];cases hu:Ey o.d with
  |none=>
   obtain⟨Y,h2⟩:=hn hu;have:n2_=false:=by rw[BEq.comm,yB!,Y,h2];rfl
   rw[this];exact xV os x1 dL! σ ep M R eS_ a! hp xG_
  |some u=>
   obtain⟨g1,g2,hk,ii⟩:=hs u hu;rw[a5h hk];obtain⟨ka,j9⟩:=uY ii;have i1:f2 Al bI! C! bv_=some u.2:=by
    have e3:Al o.v bF_=some o.d:=by rfl
    show xD!;rw[e3,e,g1];show Fj [D.str k,u.2] 1=_;rfl
   have i2:f2 Aw hM_ fJ! bv_=some eS!:=by
    show(f2 Al bI! A_ bv_).bind (λx=>Aw x b5!)=_;rw[i0];exact jI k _
   have dr:=gY (v:=.bl gn!) hp j9 bn_;have:=xV os x1 dL! yB_ yC! (mup M p (.dct yB_ yC!)) R eS_ (by have:=kput_len σ u.2 eS!;omega) mup_same (λM' bp y' Y h2=>hR M' bp y' (by
    unfold Mt;rw[hu];obtain⟨u1,u2⟩:=u;dsimp only at g2 Y ⊢;rw[<-g2];exact Y) λb hb=>(nE!).trans nD_)
   simp only[Bq,wl,i1,i2,c8o,dr,Ed];exact this
def a4h(nd:dK!)(hl:dK_)(hd:gq!)
  (hR:∀p M' ep,M p=none->M' p=some (.dct (Mt nB! aY! []) ep)->i4!->R x! M'):Jw bS! M R:=by
 refine h_;intro p hp;have b7:(aY!).Perm ops:=aV ops;have hc:∀(K:v_),Ej bS! dQ_ K->Ag 1 Ej an! nF! dQ_ K:=λK h=>dA_;refine hc _ yD_;exact xV aY! gq_ none [] 0 dQ_ _ xI! xI_ mup_same xJ!
end
def Ax(q:D×D):D:=.tup [q.1,q.2]
def Co(q:D×D×Bool):D:=.tup [q.1,q.2.1,.bl q.2.2]
nonrec def k3(rows wt wn:D):List ai_:=[(.str "rows",rows),(.str "texts",wt),(.str "numbers",wn)]
section
variable{a b c v:D}
def c1v:¬(D.str mF_=D.str mG!):=λz=>absurd n4_ k_
def c1w:¬(D.str mF_=D.str mG_):=λz=>absurd n4_ k_
def c1r:¬(D.str mG!=D.str mG_):=λz=>absurd n4_ k_
def k3r:kget gB! et_=some a:=by show f8!=_;rw[D!]
def k3t:kget gB! mb!=some b:=by show yF!=_;rw[IF c1v,D!]
def k3n:kget gB! mc_=some c:=by show(if _ then _ else yF!)=_;rw[IF c1w,IF c1r,D!]
def k3p:Bf gB! et_ v=k3 v b c:=by show f8!=_;rw[D!];rfl
end
def kK{g:D->D}:∀{its:d!} {x:D},kget jk_ x=if x∈its then some (g x)else none
 |[],x=>by rfl
 |i::its,x=>by
  rw[IJ];unfold kget;by_cases e:i=x
  .subst e;simp
  .rw[IF e,kK];simp[JF e]
def a1f{g:D->D}:∀{its:d!},its.Nodup->x∈its->Bf jk_ x v=its.map λi=>(i,if i=x then v else g i)
 |[],_,h=>by exact(cR!).elim
 |i::its,nd,h=>by
  rw[IV]at nd;rw[IJ,IJ];unfold Bf;by_cases e:i=x
  .subst e;simp only[KZ];congr 1;apply LK;intro j hj;rw[IF λz:j=i=>nd.1 m4!]
  .rw[IF e];simp only[e,KC];rw[a1f nd.2 ((HW.mp h).resolve_left (JF e))]
def vC{g:D->D}{its:d!}(h:x∉its):Bf jk_ x v=jk_++[(x,v)]:=iW (by rw[JZ];simpa using h)
def DU(W:OW)(w wt wn:qT!)(qa:D->Addr)(e0 e1 e2:Nat):List nI!:=(w,.dct n6! e0)::(wt,.dct yG! e1)::(wn,.dct yG_ e2)::W.its.map λi=>(qa i,.lst eI!)
structure Kd(M:Mh)(w:qT!)(O:O!)(W:OW)(wt wn:qT!)(qa:D->Addr):Prop where
 L:∃e0 e1 e2,HL lo! M (DU W w wt wn qa e0 e1 e2)
 O:∀b,O b↔b=w\/b=wt\/b=wn\/∃i∈W.its,qa i=b
def Bp(M:Mh)(w:qT!)(O:O!)(W:OW):Prop:=∃wt wn qa,Kd M w O W wt wn qa
section
variable{M:Mh}{R:D->Mh->Prop}{w:qT!}{O:Addr->Prop}{W:OW}{ρ:Ae}
section
variable{O:Addr->Prop}{wt wn:qT!}{qa:D->Addr}
def Kd.mw(h:dN!):∃e,M w=some (.dct n6! e):=by obtain⟨e0,e1,e2,L⟩:=h.L;exact⟨e0,L.cell _ HV⟩
def Kd.mt(h:dN!):∃e,M wt=some yH_:=by obtain⟨e0,e1,e2,L⟩:=h.L;exact⟨e1,L.cell _ gD!⟩
def Kd.mn(h:dN!):∃e,M wn=some (.dct yG_ e):=by obtain⟨e0,e1,e2,L⟩:=h.L;exact⟨e2,L.cell _ n6_⟩
def Kd.mq(h:dN!)(hi:iD!):M (qa i)=some (.lst eI!)/\O (qa i):=by obtain⟨e0,e1,e2,L⟩:=h.L;exact⟨L.cell (qa i,_) (HR _ (HR _ (HR _ (IU hi)))),(h.O _).mpr (.inr yJ_)⟩
def Bp.live(h:ax!)(hb:O b):M b≠none:=by
 obtain⟨wt,wn,qa,hA⟩:=h;obtain rfl|rfl|rfl|⟨i,hi,rfl⟩:=(hA.O b).mp hb
 .obtain⟨e,h⟩:=hA.mw;rw[h];simp
 .obtain⟨e,h⟩:=hA.mt;rw[h];simp
 .obtain⟨e,h⟩:=hA.mn;rw[h];simp
 .rw[(hA.mq hi).1];simp
def Bp.keep(h:ax!)(k:vE_):Bp M' w O W:=by
 obtain⟨wt,wn,qa,hA⟩:=h;obtain⟨e0,e1,e2,L⟩:=hA.L;refine⟨wt,wn,qa,⟨e0,e1,e2,dL_,L.nd,fu!,yL!⟩,hA.O⟩;refine(k _ ((hA.O _).mpr ?_)).trans (L.cell q hq);simp only[DU,HW,IY]at hq;obtain rfl|rfl|rfl|⟨i,hi,rfl⟩:=hq
 .exact c6_
 .exact .inr X!
 .exact .inr eZ_
 .exact .inr yJ_
def Kd.fr(h:dN!)(hb:b=w\/b=wt\/b=wn\/∃i∈W.its,qa i=b):Fr M O nJ! O:=b5q λa ha=>mup_ne λz=>ha (by rw[z];exact(h.O b).mpr hb)
end
def eO(h:bb!)(hk:aZ!):Ce M x! y=kget h1 y:=by simp[Ce,h,hk]
def ixw(h0:Aa 0 ρ=some x!)(h:bb!)(hv:kget h1 cg_=some v)(K:v_):w2 Ce g! (wl (fC cg_)) ρ M K=K v M:=by have:Ce M x! cg_=some v:=(eO h rfl).trans hv;simp only[w2,wl,h0,fC,this]
def yM:Al gD_ I_=some q.1:=by rfl
def a7i:Al gD_ aI!=some q.2:=by rfl
def mQ(w:Ct W):∀q∈W.rows,Jr q.1/\Sd q.2/\Kn W q.2:=λq hq=>⟨w.nm _ ((w.ri q.1).mp (IU hq)),b5h w (w.rp q.1 q.2 hq),w.rp q.1 q.2 hq⟩
end
def b0i(ha:Sd a)(hb:Sd b)(hc:Sd c)(hd:Sd d):Aw n7_ yN!=some (.bl (decide (a=c/\b=d))):=by
 unfold Aw;have d1:=mG ha;have d2:=mG hb;have e:Ew n7_ yN!=decide (a=c/\b=d):=by
  simp only[Ew,Ie,yU ha hc,yU hb hd,Bool.and_true];by_cases Y:a=c<;>by_cases h2:b=d<;>simp[Y,h2]
 rw[e];simp only[Av,Bx,fN ha,fN hb,fN hc,fN hd,Hk,Cw,Bool.and_true,Bool.true_and];rw[IB be_]
def b6v(h:k<=f_):Ia H! none jo_=some (.lst (xs.take k)):=by
 have e:HT.sIx xs.length xs.length jo_=k:=by rw[HT.sIx_nat];omega
 dsimp only[Ia];congr 2;unfold Tp;rw[e,HT.sIx_none];rfl
def a2e(h:k<=f_):Ia H! jo_ none=some (.lst (xs.drop k)):=by
 dsimp only[Ia];congr 2;have e:HT.sIx xs.length 0 jo_=k:=by rw[HT.sIx_nat];omega
 have e2:HT.sIx xs.length xs.length none=f_:=rfl;unfold Tp;rw[e,e2,MM c!]
section
variable{M:Mh}{R:D->Mh->Prop}{w:qT!}{O:Addr->Prop}{W:OW}{ρ:Ae}
def DV:Ae->Option Bool:=Mi tU! tV!
def c0m{rs:r!}(hk:k<=aE_)(hl:n8!)(jc:yN_)(hp:Sd p):DV by_=some yO!:=by
 have el:f1 Bm h7_ by_=some jp!:=by
  show yP!;simp[Bm]
 by_cases c:k<aE_
 .have e1:=IE c;have ea:Fj dO! cp_=some jp_:=by
   show"!x";simp[c]
  have e3:f2 Al U_ V! by_=some jp_:=ea;have e4:Sh dM_ jp!=some v!:=by simp[Sh,Gn];exact c
  have e6:Gw (e0_).2 p=some yP_:=b3w (jc _ gz_).2 hp;have e7:f2 Gw tU_ F_ by_=some yP_:=by
   show((f2 Al U_ V! by_).bind λx=>Al x aI!).bind (λz=>Gw z p)=_;rw[e3];show(Al jp_ aI!).bind _=_;rw[a7i];exact e6
  have e8:f2 Sh V! et! by_=some v!:=by
   show yQ_;rw[el];exact e4
  simp only[DV,Mi,fT,e8,e7,LG,KZ,e1]
 .have e1:rs[k]?=none:=JU a!;have e4:Sh dM_ jp!=some af_:=by simp[Sh,Gn];omega
  have e8:f2 Sh V! et! by_=some af_:=by
   show yQ_;rw[el];exact e4
  simp only[DV,Mi,fT,e8,LG,e1];rfl
def b7b{rs:r!}(hk:k<aE_)(h:chl n9! p=[])(hp:(e0_).2≠p):chl (rs.take J_) p=[]:=by rw[NA hk,fD,h];rw[qA hp];rfl
def a1t{rs:r!}(hl:n8!)(jc:yN_)(hp:Sd p)(R:o!)(hR:∀k:Nat,k<=aE_->chl n9! p=[]->R (.nx by_) M):
  ∀(m k:Nat),aE_ - k=m->k<=aE_->chl n9! p=[]->∃n,Fe (Ck DV) tV_ n by_ M R
 |m,k,hm,hk,hc=>by
  have et:=c0m (x0:=x0) (i:=i) (s:=s) (y:=y) hk hl jc hp;by_cases c:k<aE_/\(rs[k]?.map S_)≠some p
  .obtain⟨c1,c2⟩:=c;have e1:=IE c1;rw[e1]at et c2;have c3:(e0_).2≠p:=λz=>c2 (by rw[<-z];rfl);rw[show(match(some rs[k]:Option ai_)with|some q=>!decide (q.2=p)|none=>false)=true by simp[c3]]at et;cases m with
   |zero=>omega
   |succ m=>
    obtain⟨n,hn⟩:=a1t hl jc hp R hR m J_ a! a! (b7b c1 hc c3);refine yt!;have es:f2 Bv V! C! by_=some n9_:=by
     show oa!;rfl
    simp only[Fe,Ck,et,KZ,An,wl,es];exact hn
  .refine nZ_;have ef:yO!=false:=by
    cases e:rs[k]? with
    |none=>rfl
    |some q=>
     have c1:=(oa_).1;have:q.2=p:=by
      by_cases z:q.2=p
      .exact z
      .exact absurd ⟨c1,by rw[e];simp[z]⟩ c
     simp[this]
   rw[ef]at et;simp only[Fe,Ck,et];exact hR k hk hc
def GO:WS:=Ap tZ_ t0! Bj
def GW(rs:r!)(s p:D)(k0 k at_:Nat):Prop:=(at_=k0/\∀j<k,rs[j]?≠some cd!)\/∃j<k,rs[j]?=some cd!/\at_=j+1
def a4m(hl:n8!)(jc:∀q∈rs,Sd q.1/\Sd q.2/\q.1≠.non)(hp:Sd p)(hs:Sd s)(R:o!)(hR:∀(a:Nat) y,GW rs s p k0 rs.length a->R (.nx yS_) M):
  ∀(m k a:Nat) (y:ao_),aE_ - k=m->k<=aE_->GW rs s p k0 k a->Gf (Bz 6) W! GO yT_ yS_ M R
 |0,k,a,y,hm,hk,ha=>⟨trivial,hR a y (by rw[show rs.length=k by omega];exact ha)⟩
 |m+1,k,a,y,hm,hk,ha=>by
  have c1:k<aE_:=by omega
  refine M!;show GO dO_ M _;have e1:=IE c1;obtain⟨q1,q2,q3⟩:=jc rs[k] gz_;have ea:f2 Al U_ a7! dO_=some jp_:=by
   show Fj dO! cp_=_;show"!x";simp[c1]
  have et:f2 Aw tX_ tY! dO_=some (.bl (decide ((e0_).1=s/\(e0_).2=p))):=by
   show(f2 Al U_ a7! dO_).bind (λz=>Aw z (.tup [s,p]))=_;rw[ea];exact b0i q1 q2 hs hp
  have en:f2 Du H_ bP! dO_=some (.bl (!Jl s)):=rfl;have cond:Mi tX! tZ! dO_=some (decide (rs[k]=cd!)):=by
   simp only[Mi,fT,en,et,LG];by_cases z:s=.non
   .rw[show Jl s=true from vI.mpr z];have:¬rs[k]=cd!:=λy=>q3 (by rw[y];exact z);simp[this]
   .rw[sM z];simp only[Bool.not_false,KZ];congr 1;rw[decide_eq_decide];exact⟨λy=>Prod.ext y.1 y.2,λy=>by rw[y];exact aH_⟩
  have es:f2 Bv a7! C! dO_=some n9_:=by
   show oa!;rfl
  by_cases z:rs[k]=cd!
  .refine yV!;exact a4m hl jc hp hs R hR m J_ J_ _ a! a! (.inr ⟨k,p_,by rw[e1,z],rfl⟩)
  .refine nO yV_ ?_;refine a4m hl jc hp hs R hR m J_ a _ a! a! ?_;obtain⟨Y,h2⟩|⟨j,Y,h2,h3⟩:=ha
   .refine .inl ⟨Y,iK_⟩;by_cases y:j=k
    .rw[y,e1];exact λx=>z (JO x)
    .exact h2 j a!
   .exact yW!
def b7s(h:ax!)(jc:∀q∈W.rows,Sd q.1/\Sd q.2/\q.1≠.non)(hi:Sd i)(hp:Sd p)(hs:Sd s)(hl:e1_<4000)
  (hR:∀M' bi,Qv W.rows i p s bi->Bp M' w O {W with rows:=bi}->Fr M O M' O->R .non M'):Ni [.fn w,i,p,s] M R:=by
 obtain⟨wt,wn,qa,hA⟩:=h;obtain⟨e,ZY,ZZ,L⟩:=hA.L;have hw:=L.cell _ HV;refine h_;show Af (An 4 yX!) _ yX_ M _;simp only[Af,An,Bb,Bo,ixw (ρ:=yX_) rfl hw k3r];refine yY_;have sub:∀q∈wo W.rows i,q∈W.rows:=λq hq=>(a3z.mp hq).1;have lw:(yZ!).length<=e1_:=NS _ _;refine cM (λd=>match d with|.tup [a,_]=>!decide (a=i)|_=>false) id trivial _ _ bz! ?_
 .obtain⟨q,hq,rfl⟩:=IY.mp hd;obtain⟨Y,_,_⟩:=jc q hq;refine⟨ob!,rfl,jt_,yZ_⟩;have e1:fT tT_ ob!=some y0!:=by
   have:f2 Gw a5_ s_ ob!=some (.bl y0!):=by
    show(y0_).bind (λz=>Gw z i)=_;rw[yM];exact b3w Y hi
   show"#+"
  simp only[Ck,e1];exact hK
 have e2:((jl_).filter λd=>match d with|.tup [a,_]=>!decide (a=i)|_=>false).map id=(yZ!).map Ax:=by
  rw[RF,NV];congr 1;apply LZ;intro q _;simp[Ax]
 rw[e2];generalize UJ:wo W.rows i=rs at *;have yh:∀q∈rs,Sd q.1/\Sd q.2/\q.1≠.non:=λq hq=>jc q (sub q hq);refine a1t a! (λq hq=>⟨(yh q hq).1,(yh q hq).2.1⟩) hp _ (λk0 hk0 Z0=>?_) rs.length 0 a! a! (by rw[List.take_zero];rfl);have hr:Fg et! y1!=some ((List.range' 0 aE_).map λj=>D.int nV_):=by
  have:f1 Bm h7_ y1!=some jp!:=by
   show yP!;simp[Bm]
  unfold Fg;rw[this];show(if -1000<=ob_/\ob_<=100000 then some (Kk (ob_).toNat)else none)=_;rw[aj!];simp[Kk,List.range_eq_range']
 simp only[Bw,Gh,hr,Ed];refine a4m a! yh hp hs _ (λa y ha=>?_) rs.length 0 k0 none a! a! y1_;have uf:a<=aE_:=by
  obtain⟨Y,_⟩|⟨j,Y,_,h3⟩:=ha<;>omega
 have ev:f2 Bv t0_ t1_ e2!=some ju!:=by
  have s1:Lq U_ Cm ev! e2!=some oe!:=b6v jv_;have s2:Lq U_ ev! Cm e2!=some y3!:=a2e jv_;have s3:Me t1! e2!=some od_:=rfl;have a1:Bv oe! od_=some y2_:=by
   show jx!;rw[jx_]
  have a2:Bv y2_ y3!=some ju!:=by
   show jx!;rw[jx_];simp
  show((Lq U_ Cm ev! _).bind λx=>(Me _ _).bind λz=>Bv x z).bind (λx=>(Lq U_ ev! Cm _).bind λz=>Bv x z)=_;rw[s1,s3,s2];show(Bv oe! od_).bind (λx=>Bv x _)=_;rw[a1];exact a2
 have dr:Jz M bU_ et_ ju!=some (mup M w (.dct y4! y4_)):=by
  rw[gY hw rfl (by show 3<big;decide),k3p]
 have f0:Aa 0 e2!=some bU_:=rfl;have fin:=hR _ y2! ⟨rs.take a,rs.drop a,by rw[UJ,NP],rfl,?_⟩ ⟨wt,wn,qa,⟨_,ZY,ZZ,L.put (u:=[]) (c:=.dct y4! y4_)⟩,hA.O⟩ (hA.fr X!)
 .show Bq g! fU! (wl _) e2! M _;simp only[Bq,wl,ev,f0,fC,dr,Ed];exact fin
 .rw[UJ];obtain⟨Y,h2⟩|⟨j,Y,h2,h3⟩:=ha
  .refine .inl ⟨ck_,by rw[Y];exact Z0⟩;obtain⟨j,hj⟩:=NQ.mp (gQ.mp z);exact h2 j (IS.mp hj).1 hj
  .refine .inr ⟨rs.take j,?_⟩;have hj:=(IS.mp h2).1;rw[h3,NA hj,(IS.mp h2).2]
def a4o{rows:r!}(nd:i8_):(rows.filter λq=>decide gG_)=match rows.find? y5! with|some q=>[q]|none=>[]:=by
 induction rows with
 |nil=>rfl
 |cons a r ih=>
  rw[IJ,IV]at nd;by_cases e:a.1=x
  .rw[KO eB_,List.find?_cons_of_pos eB_];have:r.filter y5!=[]:=by
    rw[QR];intro q hq;simp only[IZ];exact λz=>nd.1 (by rw[e,<-z];exact IU hq)
   rw[this]
  .rw[LD eB_,List.find?_cons_of_neg eB_,ih nd.2]
def c1p{W:OW}(wi:Ct W)(h:jy!):y5_=[(x,p)]:=by
 rw[a4o wi.rnd];cases e:W.rows.find? λq=>decide gG_ with
 |none=>have:=List.find?_eq_none.mp e (x,p) h;simp at this
 |some q=>
  have Y:=List.find?_some e;have h2:=List.mem_of_find?_eq_some e;simp at Y;have:q.2=p:=sU wi.rnd (by rw[<-Y];exact h2) h;obtain⟨a,b⟩:=q;dsimp only at Y this ⊢;rw[Y,this]
def a7o(h:bb!)(hk:aZ!):Jm neg M y x!=some (.bl (if neg then !(je_).isSome else(je_).isSome)):=by simp[Jm,h,hk]
def c8w(hx:y6!)(K:v_):w2 g jy_ fb ρ M K=fb ρ M λy M2=>match g M2 x y with|some d=>K d M2|none=>False:=by simp only[w2,wl,hx]<;>rfl
def b1f:(y6_).isSome=decide f7_:=by rw[kK];by_cases h:x∈W.its<;>simp[h]
def a1r(h:ax!)(h0:dP!)(hx:y6!)(hk:Q_)(K:v_):w2 dg_ jy_ ca! ρ M K=K vH! M:=by obtain⟨wt,wn,qa,hA⟩:=h;obtain⟨e0,hw⟩:=hA.mw;obtain⟨e1,ht⟩:=hA.mt;have hi:=ixw (ρ:=ρ) h0 hw k3t;have e:=a7o (neg:=false) ht hk;rw[show(if false=true then _ else(y6_).isSome)=decide f7_ from b1f]at e;rw[c8w hx,hi,e]
end
def Wz:WS:=(Af t4_
 (Af t5!
 (Af t5_
 t6!)))
def Wy:WS:=t6_
def DN:WS:=t9_
def Qp:WS:=(Af t7!
 (Af (An 6 aJ_)
 (Af y7!
 (Af (An 8 mf!)
 uc_))))
abbrev Si(k:Str):Ae->Option Bool:=fT (f2 Aw bK! (fC ai!))
abbrev Rt:WT:=wT mc!
def b8r:Wr=Af l9_ (Af ma_
 (Ap y7_ Wz (Ap y8! Bg (Ap y8_ Bg
  (Ap y9! Wy y9_))))):=rfl
section
variable{M:Mh}{R:D->Mh->Prop}{w:qT!}{O:Addr->Prop}{W:OW}{ρ:Ae}{pre:List D}
def b4x(h:oe_):Si k' ρ=some i2_:=by
 have e:Al dJ! I_=some ai!:=by
  show nn_;show"!x";simp
 have:f2 Aw bK! (fC oy!) ρ=some (.bl i2_):=by
  show((jz!).bind λx=>Al x I_).bind (λx=>Aw x oy!)=_;rw[h];show(xw_).bind _=_;rw[e];exact jI k k'
 unfold Si fT;rw[this];rfl
def p1(h:za_):f2 Al F_ C! ρ=some a:=by show(jz!).bind (λx=>Al x aI!)=_;rw[h];exact ix1
def p2(h:Aa 2 ρ=some no_):f2 Al F_ al_ ρ=some b:=by show(jz!).bind (λx=>Al x ed_)=_;rw[h];exact ix2
def p3(h:Aa 2 ρ=some np!):f2 Al F_ az_ ρ=some c:=by show(jz!).bind (λx=>Al x bF_)=_;rw[h];exact ix3
def anF{R:o!}(h:xb!)(k:cQ_):Ap zb_ q1 q2 ρ M R:=by simp only[Ap,Gb,Ck,h];exact k
def anT{R:o!}(h:xa!)(hu:∀K:Bool->Mh->Prop,K b M->fu ρ M K)(k1:zc!)(k2:zc_):Ap zb_ q1 q2 ρ M R:=by
 simp only[Ap,Gb,Ck,h,KZ];refine hu _ ?_;cases b with
 |true=>rw[D!];exact k1 rfl
 |false=>rw[bj!];exact k2 rfl
def a7n(h:ax!)(h0:dP!)(h2:za_)(hk:dG!)(K:eX_)(hK:K (decide (a∈W.its)) M):Rt ρ M K:=by unfold Rt wT;rw[a1r h h0 (p1 h2) hk];exact hK
def Em.sd(h:Em x):Sd x:=by
 obtain rfl|rfl|⟨a,b,rfl,_⟩:=h
 .exact jU _
 .exact jU _
 .exact .inr mP_
def Pg.sd(h:Pg x):Sd x:=by
 obtain rfl|⟨a,b,rfl,_⟩:=h
 .exact c6_
 .exact .inr mP_
def Mr.sd(h:Mr x):Sd x:=by
 obtain rfl|⟨a,b,c,rfl,_⟩:=h
 .exact c6_
 .exact .inr vJ_
def Kd.tx(h:dN!)(h0:dP!):Pu ca! ρ M eY_:=by obtain⟨e,hw⟩:=h.mw;exact dM jA! j_ ((eO hw rfl).trans k3t)
def Kd.nb(h:dN!)(h0:dP!):Pu md_ ρ M eZ!:=by obtain⟨e,hw⟩:=h.mw;exact dM jA! j_ ((eO hw rfl).trans k3n)
def b6k{R:o!}(h:ax!)(wi:Ct W)(ha:f4_)(hk:dG!)(h0:dP!)(h2:Aa 2 ρ=some iV_)(p0:0<=p)(p3':p<=3)
  (hR:∀M',Bp M' w O (Xx W a nm!)->Fr M O M' O->R Z_ M'):Wy ρ M R:=by
 obtain⟨wt,wn,qa,hA⟩:=h;obtain⟨e0,e1,e2,L⟩:=hA.L;obtain⟨e,hn⟩:=hA.mn;have hx:Kb (eP!).length p=some p.toNat:=by
  rw[wi.nl a ha];unfold Kb;rw[IB p0,aj!]
 refine b8s (aL (p3 h2)) (dM (hA.nb h0) (aL (p1 h2)) ((eO hn hk).trans ze_)) (aL (p2 h2)) (hA.mq ha).1 hx ?_;refine hR _ ⟨wt,wn,qa,⟨e0,e1,e2,?_⟩,hA.O⟩ (hA.fr (.inr (.inr (.inr ⟨a,ha,rfl⟩))));obtain⟨u,v',ei,hu⟩:=kW ha;have nd:=wi.nd;rw[ei,JP,IV]at nd;have e1:∀l:List D,a∉l->(l.map λi=>oh_)=l.map λi=>dQ!:=λl hl=>LK λi hi=>by rw[IF λz:i=a=>hl m9!]
 unfold DU at L ⊢;show HL _ _ (_::_::_::W.its.map λi=>oh_);have Z7:(W.its.map λi=>oh_)=zg_++(qa a,.lst nm!)::v'.map λi=>dQ!:=by
  rw[ei,JA,IJ,e1 u hu,e1 v' nd.2.1.1,D!]
 have ej:zi!=zg_++(qa a,.lst eP!)::v'.map λi=>dQ!:=by rw[ei,JA,IJ]
 rw[ej]at L;rw[Z7];exact L.put (u:=_::_::_::u.map λi=>dQ!)
def c1q(h:ax!)(h0:dP!)(hx:zj!)(hk:dG!)(ha:f4_):Pu (w2 Ce ca! jy_) ρ M oi_:=by obtain⟨wt,wn,qa,hA⟩:=h;obtain⟨e1,ht⟩:=hA.mt;exact dM (hA.tx h0) (aL hx) ((eO ht hk).trans ze_)
def c8y:Al (Co q) I_=some q.1:=by rfl
def c3g{R:o!}(h:ax!)(nd:W.its.Nodup)(hB:gH_<5000)(h0:dP!)(hx:zj!)(hk:dG!)(ha:f4_)(hv:Pu fv ρ M jB!)
  (hR:∀M',Bp M' w O mD_->Fr M O M' O->R Z_ M'):Bq ca! jy_ fv ρ M R:=by
 obtain⟨wt,wn,qa,hA⟩:=h;obtain⟨e0,e1,e2,L⟩:=hA.L;refine b2d hv (hA.tx h0) (aL hx) zk_ hk e3! (hR _ ⟨wt,wn,qa,⟨e0,Hq cn! a e1,e2,?_⟩,hA.O⟩ (hA.fr eZ_));have:=L.put (u:=[_]) (c:=.dct (Bf cn! a jB!) (Hq cn! a e1));rw[a1f nd ha]at this ⊢;have e:(W.its.map λi=>(i,if i=a then D.lst oj! else D.lst jm!))=W.its.map λi=>(i,D.lst (((mD_).txt i).map Co)):=LK λi _=>by
  show _=(i,D.lst ((if i=a then l else W.txt i).map Co));split<;>rfl
 rw[e]at this ⊢;exact this
def kY(h:f ρ=some (.int (n:Nat)))(hn:n<=100000):Fg f ρ=some ((mZ!).map λi=>D.int bz_):=by unfold Fg;rw[h];show(if -1000<=ok_/\ok_<=100000 then some (Kk (ok_).toNat)else none)=_;rw[aj!];rfl
def EE(l:bO_)(b:D)(k a:Nat):Prop:=(a=0/\∀j<k,zo!≠some b)\/∃j<k,zo!=some b/\a=j+1
def a2o{o4:D}(hl:ab_<5000)(hs:∀q∈l,Sd q.1)(hb:Sd b)(R:o!)(hR:∀(a:Nat) y,EE l b l.length a->R (.nx zq_) M):
  ∀(m k a:Nat) (y:ao_),ab_ - k=m->k<=ab_->EE l b k a->Gf fT! W! DN yT_ zq_ M R
 |0,k,a,y,hm,hk,ha=>⟨trivial,hR a y (by rw[show l.length=k by omega];exact ha)⟩
 |m+1,k,a,y,hm,hk,ha=>by
  have c1:k<ab_:=by omega
  refine M!;show DN ol_ M _;have e1:=IE c1;have ea:Fj oj! cp_=some (Co l[k]):=by
   show"!x";simp[c1]
  have cond:fT t8_ ol_=some (decide ((l[k]).1=b)):=by
   unfold fT;rw[cN (cN (cN rfl rfl ea) rfl c8y) (p2 rfl) (nS (hs _ gz_) hb)];rfl
  have es:f2 Bv bH! C! ol_=some n9_:=by
   show oa!;rfl
  by_cases z:(l[k]).1=b
  .refine yV!;exact a2o (o4:=o4) hl hs hb R hR m J_ J_ _ a! a! (.inr ⟨k,p_,by rw[e1];exact congrArg some z,rfl⟩)
  .refine nO yV_ ?_;refine a2o (o4:=o4) hl hs hb R hR m J_ a _ a! a! ?_;obtain⟨Y,h2⟩|⟨j,Y,h2,h3⟩:=ha
   .refine .inl ⟨Y,iK_⟩;by_cases y:j=k
    .rw[y,e1];exact λx=>z (JO x)
    .exact h2 j a!
   .exact yW!
def EE.wr(h:EE l b l.length a)(nd:(eX!).Nodup):wrT b nw l=l.take a++nw++l.drop a/\a<=ab_:=by
 obtain⟨rfl,h2⟩|⟨j,Y,h2,rfl⟩:=h
 .have nb:b∉l.map c_:=λz=>by
   obtain⟨j,hj⟩:=NQ.mp z;rw[JL]at hj;have:j<ab_:=by
    cases e:l[j]? with
    |none=>rw[e]at hj;rcases hj
    |some q=>exact(oa_).1
   exact h2 j this hj
  unfold wrT;rw[IF nb];simp
 .have hj:=IE Y;rw[hj]at h2;have hb:=JO h2;have e:l=l.take j++l[j]::l.drop (j+1):=by rw[<-OG Y,NP]
  have nb:b∉(l.take j).map c_:=λz=>by
   rw[e]at nd;simp only[JA,IJ]at nd;rw[JP]at nd;exact nd.2.2 _ z _ c! hb.symm
  have yf:b∈l.map c_:=by rw[<-hb];exact IU (KG Y)
  refine⟨?_,p_⟩;unfold wrT;rw[IB yf]
  conv=>lhs;rw[e]
  rw[sQ hb nb,NA Y];simp only[KH,QP,LN]
def a8r(h n:Int)(s:Str):s.cps.toList.zipIdx.map dD_=(List.range aE!).map λk=>(D.tup nm_,D.str zr_,true):=by
 apply QK;intro i;rw[JL,JL,List.getElem?_zipIdx];by_cases c:i<gc!
 .have c':i<aE!:=by simpa[Str.length]using c
  rw[IE c,List.getElem?_range c'];simp[sgn,List.getD,IE c];simp at c;simp[c]
 .have c':¬i<aE!:=by simpa[Str.length]using c
  rw[JU a!,JU be_];rfl
def a4u{R:o!}(hL:ax!)(wi:Ct W)(hB:gH_<5000)(ht:(bu!).length<5000)(ha:f4_)(hk:dG!)(hb:Sd b)(s16:iI_)
  (hR:∀M' aj,Bp M' w O (setT W a (wrT b gb! bu!))->Fr M O M' O->R dR! M'):
  Qp [ac!,R!,jC_,cf!,y4,none,none,none,none,none] M R:=by
 refine fH (c1q hL rfl jD! hk ha) (fH j_ ?_);show Af y7! _ zs_ M _;have er:Fg t7_ zs_=some ((List.range (bu!).length).map λi=>D.int bz_):=kY (by
  show Bm [.lst oi!]=_;simp[Bm]) a!
 unfold Af Bw Gh;rw[er,List.range_eq_range'];refine a2o (o4:=.non) ht (λq hq=>(wi.sg a ha q hq).sd) hb _ (λat_ y Z8=>?_) (bu!).length 0 0 none a! a! y1_;obtain⟨ew,uf⟩:=Z8.wr (nw:=s.cps.toList.zipIdx.map dD_) (wi.snd a ha);have hnl:(gb!).length=aE!:=by simp[Str.length]
 have hc:Pu mf! [ac!,R!,jC_,cf!,y4,some oi_,some (.int (at_:Nat)),y,none,none] M (.lst ((gb!).map Co)):=λK hK=>by
  unfold Bb Gh;rw[kY (n:=s.length) (by show Bm [gb_]=_;simp[Bm,big];omega) a!];refine gC ⟨by simp[big];omega,cM gI! (λd=>match d with|.int k=>Co (.tup wY_,.str ⟨#[s.cps.toList.getD k.toNat 0]⟩,true)|_=>.non) trivial _ _ bz! (by rw[a8r,JZ]at hK;rw[jE!,JZ];exact hK)⟩;obtain⟨k,df,rfl⟩:=IY.mp hd;have Z9:=PC.mp df;have hc:k<gc!:=by simpa[Str.length]using Z9
  have e3:Al cg_ (.int cp_)=some (.str zr_):=by
   show(if aE!<=big then(Fj s.cps.toList cp_).map _ else none)=_;rw[IB bn_];show"!x";rw[aj!,aj!];dsimp only[_root_.Option.bind_some,_root_.Int.toNat_natCast];rw[IE hc,MQ,IE hc];rfl
  exact⟨[some (.int cp_),jC_,cf!],rfl,gI_,λ_=>aL (c2r (lS rfl (lS (cN (cN rfl rfl ix3) rfl e3) (lS rfl rfl))) rfl)⟩
 refine fH hc ?_;generalize s.cps.toList.zipIdx.map dD_=nw at *;refine c3g hL wi.nd hB rfl jD! hk ha (aL (cN (x:=.lst ((oi!).take at_++nw.map Co)) (cN (b6v jv_) rfl ?_) (a2e jv_) ?_)) λM' g1 g2=>hR M' _ g1 g2
 .show jx!;rw[jx_]
 .show jx!;rw[jx_,ew];simp
end
def HL.perm{M0 M:Mh}(h:nI_)(p:l.Perm l'):HL M0 M l':=⟨λq hq=>h.cell q zu_,(p.map _).nodup_iff.mp h.nd,λq hq=>h.fr q zu_,h.kp⟩
section
variable{M:Mh}{R:D->Mh->Prop}{w:qT!}{O:Addr->Prop}{W:OW}{ρ:Ae}{pre:List D}
def c8m{f1 f2 f3 f4:j!}(Y:eK!)(h2:gc_)(h3:np_)(h4:f4 ρ=some d)(k:g [a,b,c,d] M K):Ag 4 g nq_ ρ M K:=by unfold Ag Ab Ac;rw[bQ Y,cW!,bQ h3,bQ h4];exact bV!
def b6l{R:o!}(hL:ax!)(wi:Ct W)(hB:gH_<4000)(hl:e1_<3900)(hn:zv!)(ha:Sd a)(hk:dG!)(hb:Sd b)
  (hR:∀M' aj O' bi,Qv W.rows ae! eL_ b bi->Bp M' w O' (Hn W ae! bi)->Fr M O M' O'->R dR! M'):
  Wz [ac!,R!,some gj_,cf!,none,none,none,none,none,none] M R:=by
 obtain⟨wt,wn,qa,hA⟩:=id hL;obtain⟨e0,e1,e2,L⟩:=hA.L;have fz:Cg ae!=some (some (.inr [.inl h,.inl n])):=rfl;refine fH (d:=.bl (decide zv_)) (c3i (λK hK=>by rw[a1r hL rfl jD! hk];exact hK) (λe=>aL (cN jD! rfl ((nS ha (jU _)).trans (by simp[PV e])))) λe=>IN (.inl (KB e))) ?_;generalize hg:decide zv_=g;unfold Af;have kt:=vC (g:=λi=>D.lst jm!) (v:=gJ_) hn;refine b2d j_ (hA.tx rfl) j_ zk_ fz e3! ?_;have L1:=L.put (u:=[_]) (c:=.dct zw! zw_);refine⟨by show 4<=1000;decide,dL_⟩;have L2:=L1.new (c:=.lst eL!) hq;have hw2:=L2.cell (w,_) gD!;have gw:=L2.cell (wn,_) (HR _ n6_);refine dM j_ j_ ((eO hw2 rfl).trans k3n) _ (aL rfl _ ?_);rw[gY gw fz e3!];have L3:=L2.put (u:=[_,_,_]) (c:=.dct zx_ zy!);refine gC ?_;generalize hM3:mup (mup (mup M wt (.dct zw! zw_)) q (.lst eL!)) wn (.dct zx_ zy!)=M3 at L3 ⊢;have qM:M q=none:=by
  by_cases z:q=wt
  .rw[z,mup_same]at hq;rcases hq
  .rw[mup_ne z]at hq;exact hq
 have ni:∀i∈W.its,i≠.tup ba_:=λi hi z=>hn m9!
 let d8:D->Addr:=λi=>if i=.tup ba_ then q else qa i
 have bf:∀i∈W.its,d8 i=qa i:=λi hi=>IF oo_;have vt:d8 ae!=q:=IB rfl;have jd:Kd M3 w zz_ op! wt wn d8:=by
  refine⟨⟨e0,Hq cn! ae! e1,Hq jE_ ae! e2,?_⟩,λb=>?_⟩
  .rw[kt,vC hn]at L3;refine L3.perm ?_;have m1:(gK!).map (λi=>(i,D.lst (((op!).txt i).map Co)))=cn!++[(.tup ba_,.lst [])]:=by
    rw[JA];congr 1
    .exact LK λi hi=>by show(i,D.lst ((if i=_ then[]else W.txt i).map Co))=_;rw[IF oo_]
    .show[(_,D.lst ((if _=_ then[]else _).map Co))]=_;rw[D!];rfl
   have m2:(gK!).map (λi=>(i,D.fn (d8 i)))=jE_++[(.tup ba_,.fn q)]:=by
    rw[JA];congr 1
    .exact LK λi hi=>by rw[bf i hi]
    .show[(_,D.fn (d8 _))]=_;rw[vt]
   have m3:(gK!).map (λi=>(d8 i,Cq.lst ((op!).num i)))=zi!++[(q,.lst eL!)]:=by
    rw[JA];congr 1
    .exact LK λi hi=>by show(d8 i,Cq.lst (if i=_ then _ else W.num i))=_;rw[bf i hi,IF oo_]
    .show[(d8 _,Cq.lst (if _=_ then _ else _))]=_;rw[vt,D!]
   show List.Perm _ (_::zB_::zB_::(gK!).map _);rw[m1,m2,m3];exact(List.perm_append_singleton (q,Cq.lst eL!) (_::_::_::W.its.map λi=>dQ!)).symm
  .show(O b\/b=q)↔_\/_\/_\/∃i∈W.its++[D.tup ba_],d8 i=b;rw[hA.O,or_assoc,or_assoc,or_assoc];refine PB (PB (PB ⟨ck_,λ⟨i,hi,e⟩=>?_⟩))
   .obtain⟨i,hi,e⟩|z:=z
    .exact⟨i,IP _ hi,(bf i hi).trans e⟩
    .exact⟨_,HX _ iM!,vt.trans z.symm⟩
   .obtain z|z:=IM.mp hi
    .exact .inl ⟨i,z,(bf i z).symm.trans e⟩
    .rw[dW_,vt]at e;exact .inr e.symm
 have F1:Fr M O M3 zz_:=λc hc hr=>by
  have cq:=cU hc qM;refine⟨?_,λz=>z.elim hr cq⟩;rw[<-hM3,mup_ne λz=>hr (by rw[z];exact(hA.O wn).mpr (.inr eZ_)),mup_ne cq,mup_ne λz=>hr (by rw[z];exact(hA.O wt).mpr eZ_)]
 refine iF (c8m rfl rfl ?_ (p2 rfl) (b7s ⟨wt,wn,d8,jd⟩ ga! (.inr (.inr (.inr ⟨[h,n],rfl⟩))) (by split;exact ha;exact jU _) hb (by show e1_<_;omega) λM' bi sj js hF'=>hR M' _ _ bi sj js (F1.trans hF')))
 .unfold Xi;rw[show fT U_ _=some g from rfl,p1 rfl];show(if g=true then some a else some binn)=_;rw[<-hg];by_cases c:a∈W.its\/a=root
  .rw[IB (IN c),IB (c.elim .inl λz=>.inr bl!)]
  .rw[IF λz=>c (KB z)];by_cases c2:Kn W a
   .rw[IB c2,c2.resolve_left (λz=>c bl!) |>.resolve_left λz=>c cK!]
   .rw[IF c2]
 .obtain⟨z1,z2,_⟩:=mQ wi q hq;exact⟨z1.sd,z2,z1.nn.1⟩
end
structure Sb(W:OW)(B:Nat):Prop where
 rows:e1_<=B
 its:gH_<=B
 txt:∀x,(a8_).length<=B
def Qv.len(h:f2!):bi.length<=rows.length+1:=by
 obtain⟨u,v,e1,e2,_⟩:=h;have Y:(cL!).length<=rows.length:=by unfold wo;exact NS _ _
 rw[e1,IR]at Y;rw[e2,IR,IW];omega
def Sb.stp{W:OW}{B:Nat}(l:e5!)(h:Uk W n d W'):Sb W' cg!:=by
 have l1:=l.rows;have l2:=l.its;have l3:=l.txt;have same:Sb W cg!:=⟨p_,p_,λx=>by have:=l3 x;omega⟩;cases h with
 |put _ _ hg=>
  have:=hg.len;refine⟨by show _<=_;unfold Hn;simp only;omega,by unfold Hn;simp only[IR,LO];omega,mB_⟩;unfold Hn;simp only;split
  .simp
  .have:=l3 x;omega
 |@wrt a b s h m _ _ hs e=>
  split
  .refine⟨same.rows,same.its,mB_⟩;unfold setT;simp only;split
   .obtain⟨u,v,e1,e2,_⟩:=oB b eO! bu!;have:=l3 a;rw[e1,IR]at this;rw[e2];have db:gc!<=16:=hs;simp only[IR,IK,RJ];omega
   .have:=l3 x;omega
  .exact same
 |set=>
  split
  .exact⟨same.rows,same.its,same.txt⟩
  .exact same
section
variable{M:Mh}{R:D->Mh->Prop}{w:qT!}{O:Addr->Prop}{W:OW}{ρ:Ae}{pre:List D}
def kX{R:o!}(h:cd_)(k:q bn! M R):Af (An i gy!) q ρ M R:=by unfold Af An;rw[bQ h];exact k
def kT(h:oe_)(e:(k==k)=true):Si k ρ=some true:=by rw[b4x h,e]
def kF(h:oe_)(e:i2_=false):Si k' ρ=some false:=by rw[b4x h,e]
def GY:WS:=Ap y9! Wy y9_
def GZ:WS:=Ap y8! Bg (Ap y8_ Bg GY)
def BL:WS:=Ap y7_ Wz GZ
def b8q:Wr=Af l9_ (Af ma_ BL):=b8r
def Vf(w:qT!)(x0 d nm:D):Ae:=[ac!,R!,some d,some nm,none,none,none,none,none,none]
def dv0:Aa 0 zH_=some bU_:=rfl
def dv2:Aa 2 zH_=some d:=rfl
def DF(W:OW)(M:Mh)(w:qT!)(O:O!)(n d:D)(R:o!):Prop:=∀M' O' W' aj,Uk W n d W'->Bp M' w O' W'->Fr M O M' O'->R dR! M'
def c5l{R:o!}(hL:ax!)(wi:Ct W)(bw:e5!)(hB:B<3800)(hn:zv!)(ha:Em a)(hb:Pg b)
  (hR:DF W M w O ae! gj_ R):BL (Vf w x0 gj_ ae!) M R:=by
 show"!O";have l1:=bw.rows;have l2:=bw.its;refine ifT (kT dv2 b4z) ?_;exact b6l hL wi a! a! hn ha.sd gq hb.sd λM' aj O' bi hg js hF=>hR M' O' _ aj (.put ha hb hg) js hF
def c5k{R:o!}(hL:ax!)(wi:Ct W)(bw:e5!)(hB:B<3800)(ha:Em a)(h0:0<=p)(h3:p<=3)
  (hR:DF W M w O nm iV_ R):BL (Vf w x0 iV_ nm) M R:=by
 show"!O";have st:=Uk.set (W:=W) (n:=nm) (v:=v) ha h0 h3;show"!R";refine nO bV_ ?_;refine anT (kT dv2 b4y) zI! e6! e6!
 .have c':=KB c;rw[IB c']at st;exact b6k hL wi c' gq dv0 dv2 h0 h3 λM' js hF=>hR M' O _ _ st js hF
 .have c':=PV c;rw[IF c']at st;refine anF bV_ ?_;show"#8"
def b6j{R:o!}(hL:ax!)(wi:Ct W)(bw:e5!)(hB:B<3800)(ha:Em a)(hb:Mr b)(hs:iI_)
  (hR:DF W M w O ae! gk! R):BL (Vf w x0 gk! ae!) M R:=by
 show"!O";have l2:=bw.its;have l3:=bw.txt a;have st:=Uk.wrt (W:=W) (n:=.tup ba_) ha hb hs rfl;show"!R";refine nO bV_ ?_;refine anF bV_ ?_;refine anT (kT dv2 a1i) zI! e6! e6!
 .have c':=KB c;rw[IB c']at st;exact a4u hL wi a! a! c' gq hb.sd hs λM' aj js hF=>hR M' O _ _ st js hF
 .have c':=PV c;rw[IF c']at st;show"#8"
def b3i(o:Op):Al o.v bF_=some o.d:=by rfl
def oO(o:Op):Al o.v I_=some cU!:=by rfl
def rH(o:Op):Al o.v aI!=some (.int o.n):=by rfl
def b5w(Y:f ρ=some a)(h2:g ρ=some b):Ci (Ad f (Ad g Ah)) ρ=some n7_:=by simp[Ci,Ad,Ah,Y,h2]
def c6g{o:Op}{B:Nat}(hL:ax!)(hw:eQ!)(hn:o.nm∉pre)(hd:gp_)(hu:Ey o.d=none)(bw:e5!)(hB:B<3800)
  (hR:∀M' O' W',Uk W o.nm o.d W'->Bp M' w O' W'->Fr M O M' O'->R .non M'):Uh [.fn w,o.v] M R:=by
 refine h_;rw[b8q];have e3:f2 Al s_ az_ zJ!=some o.d:=b3i o;refine kX (ρ:=zJ!) e3 ?_;have e0:Ci t4! zK!=some o.nm:=b5w (oO o) (rH o);refine kX (ρ:=zK!) e0 ?_;generalize hK:wr!=K;have jb:DF W M w O o.nm o.d K:=λM' O' W' aj Y h2 h3=>by rw[<-hK];exact hR M' O' W' Y h2 h3
 have ur:o.nm∉W.its:=λz=>hn (hw.its _ z);clear hR hK e3 e0 hn;obtain⟨h,n,tm,d⟩:=o;generalize Op.v ⟨h,n,tm,d⟩=v;change BL (Vf w v d ae!) M K;change DF W M w O ae! d K at jb;change D.tup ba_∉W.its at ur;change DG d at hd;change Ey d=none at hu;cases hd with
 |put ha hb=>exact c5l hL hw.inv bw hB ur ha hb jb
 |write ha hb _ _ hs=>exact b6j hL hw.inv bw hB ha hb hs jb
 |set ha Y h2 _=>exact c5k hL hw.inv bw hB ha Y h2 jb
 |undo _=>rw[kU]at hu;exact absurd hu (by simp[show nu_=true from by decide+kernel])
 |redo _=>rw[kU]at hu;exact absurd hu (by simp[show nv!=true from by decide+kernel])
end
def Sb.mono(l:e5!)(h:ce_):Sb W B':=⟨JG l.rows h,JG l.its h,λx=>JG (l.txt x) h⟩
section
variable{M:Mh}{R:D->Mh->Prop}{w:qT!}{O:Addr->Prop}{W:OW}{ρ:Ae}{pre:List D}
def c8i(hp:bb!)(h0:i6!)(Y:ot!)(h2:zL!)(hk:aZ!)(K:v_)(hK:K yl_ M):Ff ch! gs! i5! ρ M K:=by
 have c:Dm M x!=some jA_:=by simp[Dm,hp]
 simp only[Ff,wl,h0,Y,h2,c,Ed,hk];exact hK
def jN{f1 f2:j!}(Y:eK!)(h2:gc_)(k:g bb_ M K):Ag 2 g m1! ρ M K:=by unfold Ag Ab Ac;rw[bQ Y,cW!];exact bV!
def vX{g:WF}{f1:j!}{K:v_}(Y:eK!)(k:g [a] M K):Ag 1 g ot_ ρ M K:=by unfold Ag Ab Ac;rw[bQ Y];exact bV!
def GM:WT:=Gb uh! uj!
def GN:WS:=Ap GM uj_ Bj
def c8b{R:o!}(h:zL_)(k1:zc!)(k2:zc_):Ap ft q1 q2 ρ M R:=by
 refine h _ ?_;cases b with
 |true=>rw[D!];exact k1 rfl
 |false=>rw[bw_];exact k2 rfl
def b7w(h:zL_)(h2:b=true->∀K:Bool->Mh->Prop,K c M->fu ρ M K)(K:eX_)(hK:K (b&&c) M):Gb ft fu ρ M K:=by
 refine h _ ?_;cases b with
 |true=>rw[D!];exact h2 rfl K (by simpa using hK)
 |false=>rw[bw_];simpa using hK
def c0c{x:Op}(ky:zN!)(hd:DG x.d)(hp:M p=some zN_)(K:eX_)
  (hK:K (decide zO!) M):GM zP! M K:=by
 obtain⟨k,r,e,hn,hs⟩:=c8k hd;have i0:=b5d e;have hu:(! n2_)=decide ou!:=by
  cases hu:Ey x.d with
  |none=>
   obtain⟨Y,h2⟩:=hn hu;rw[BEq.comm,yB!,Y,h2];rfl
  |some u=>
   obtain⟨g1,g2,hk,ii⟩:=hs u hu;rw[a5h hk];rfl
 obtain⟨kn,fz⟩:=a3u x;have hz:(∃b:Bool,(kget kb x.nm).getD af_=.bl b/\(b=true↔kget wd x.nm=some b5!)):=by
  obtain⟨Y,h2⟩|⟨k',Y,h2⟩:=ky x.nm
  .exact⟨false,zP_,by rw[Y];simp⟩
  .refine⟨k'=="undo",zP_,?_⟩;rw[Y];show"!{"
   .intro z;rw[eq_of_beq z]
   .intro z;rw[D.str.inj (JO z)];exact LS _
 obtain⟨b,hb1,UK⟩:=hz;have e2:Ci ui! zP!=some x.nm:=b5w (oO x) (rH x);refine b7w (b:=decide ou!) (c:=!b) (λK' ud=>?_) (λ_ K' ud=>?_) K ?_
 .unfold wT w2;rw[bQ i0,bQ rfl,a1s];rw[hu];exact ud
 .unfold Jx wT;refine c8i hp rfl e2 rfl fz _ ?_;rw[hb1];exact ud
 .have:(decide ou!&&!b)=decide zO!:=by
   by_cases c1:Ey x.d=none
   .by_cases c2:kget wd x.nm=some b5!
    .rw[UK.mpr c2];simp[c2]
    .have:b=false:=by
      cases b with
      |true=>exact absurd (UK.mp rfl) c2
      |false=>rfl
     rw[this,IN c1,IN (⟨c1,c2⟩:_/\_)];rfl
   .rw[IG c1,IG λz:_/\_=>c1 z.1];rfl
  rw[this];exact hK
def xZ{e0:Nat}(ky:zN!):
  ∀(os:i_) (x1:D) (y:ao_) (M:Mh) (O:O!) (W:OW) (pre:d!) (B:Nat) (R:o!),(∀x∈os,DG x.d)->yb_->(jb_).Nodup->Bp M w O W->Qt W pre->Sb W B->B+20*bu_<3800->M p=some zN_->¬O p->
   (∀M' O' W' y',Tq W nR_ W'->Bp M' w O' W'->yc_->Sb W' (B+20*bu_)->Fr M O M' O'->R (.nx [O_,ac!,ab!,y']) M')->
   Gf B! W! GN bv! [O_,ac!,ab!,y] M R
 |[],x1,y,M,O,W,pre,B,R,_,_,_,hL,hw,bw,_,_,_,hR=>⟨trivial,hR M O W y .nil hL ⟨pre,hw⟩ zQ! .refl⟩
 |x::os,x1,y,M,O,W,pre,B,R,hd,hp,nd,hL,hw,bw,hB,vw,UL,hR=>by
  refine M!;dsimp only[_root_.List.length_cons]at hB hR;rw[IJ,IV]at nd;have jq:=hd x HV;refine c8b (c0c ky jq vw) e6! e6!
  .have c':=KB c;have ee:Nj wd gx!=x::Nj wd os:=by unfold Nj;rw[KO zQ_]
   refine iF (jN rfl rfl (c6g hL hw jc_ jq c'.1 bw a! λM1 O1 W1 hs hL1 hF=>?_));have hq:=hF p (by rw[vw];simp) UL;refine xZ ky os x1 nS! M1 O1 W1 (pre++[x.nm]) cg! R nS_ ye_ nd.2 hL1 (a2v hs hw jc_) (bw.stp hs) a! (hq.1.trans vw) hq.2 (λM' O' W' y' g1 g2 g3 g4 g5=>hR M' O' W' y' (by rw[ee];exact .cons hs g1) g2 g3 zR_ (hF.trans g5));obtain z|z:=IM.mp z
   .exact hp y ez_ z
   .rw[II]at z;exact nd.1 yf!
  .have c':=PV c;have ee:Nj wd gx!=Nj wd os:=by unfold Nj;rw[LD zQ_]
   exact xZ ky os x1 nS! M O W pre cg! R nS_ nT! nd.2 hL hw zQ! a! vw UL (λM' O' W' y' g1 g2 g3 g4 g5=>hR M' O' W' y' (by rw[ee];exact g1) g2 g3 zR_ g5)
def c6f:Sb W0 0:=⟨IH _,IH _,λ_=>IH _⟩
def c7z:((gB!).map c_).Nodup:=by
 refine IV.mpr ⟨?_,IV.mpr ⟨?_,zS!⟩⟩
 .intro z;obtain z|z:=HW.mp z
  .exact c1v z
  .exact c1w iL!
 .intro z;exact c1r iL!
def c0h:∀q∈k3 a b c,(oo!).isSome=true:=λq hq=>by
 obtain rfl|hq:=HW.mp hq
 .rfl
 .obtain rfl|hq:=HW.mp hq
  .rfl
  .rw[II.mp hq];rfl
def a8x:Ud=Af uf_
 (Af ug!
 (Af (Bw l5_ B! GN)
 cD_)):=rfl
def c0z{f:WE->WS}{ρ:Ae}{K:v_}(hK:∀w M' O,M w=none->Bp M' w O W0->nP_->K bU_ M'):
  Mn uf! ρ M K:=by
 intro w hw;refine pc rfl ?_;rw[bQ rfl];refine pc rfl ?_;intro wt ht;refine pc rfl ?_;intro wn hn;have L:=(((HL.new (l:=[]) x7_ hw).new ht).new (c:=gt!) hn).put (u:=[_,_]) (c:=.dct zS_ 3);have p:List.Perm [(wn,Cq.dct [] 0),(wt,.dct [] 0),(w,.dct zS_ 3)] (DU W0 w wt wn (λ_=>w) 3 0 0):=(List.reverse_perm _).symm;have L:=L.perm p;refine⟨?_,zT!,c0h,c7z,hK w _ (λb=>b=w\/b=wt\/b=wn) hw ⟨wt,wn,λ_=>w,⟨3,0,0,L.cell,L.nd,fu!,yL!⟩,λb=>?_⟩ λb hb=>⟨L.kp b hb,λz=>hb ?_⟩⟩
 .have e1:=cU (by rw[mup_same];simp) ht;rw[mup_ne (cU (by rw[mup_ne e1,mup_same];simp) hn),mup_ne e1,mup_same]
 .exact PB (PB ⟨.inl,λz=>z.elim id λ⟨i,hi,_⟩=>by exact(HY hi).elim⟩)
 .obtain rfl|rfl|rfl:=z
  .exact hw
  .exact L.fr (_,_) gD!
  .exact L.fr (_,_) n6_
def b7q{ops:i_}(nd:dK!)(nn:yf_)(hl:dK_)(hd:gq!)
  (hR:∀w M' O W',M w=none->Tq W0 yg! W'->Bp M' w O W'->yg_->Sb W' 1500->nP_->R bU_ M'):Nh bS! M R:=by
 refine h_;rw[a8x];have hp:(aY!).Perm ops:=aV ops;unfold Af An;refine c0z (f:=λ_=>Bj) λw M1 O hw hL fr=>?_;refine vX rfl (a4h nd hl hd λp M2 ep me iy ox=>?_);have rp:¬O p:=λz=>hL.live z me;have ug:=hL.keep λc hc=>ox c λz=>rp zU_;unfold Bw Bo;refine vX rfl yD_;refine xZ (qO aY! [] [] λx=>.inl aH_) aY! _ none M2 O W0 [] 0 _ (λx hx=>hd x yh_) yi! yi_ ug b7p c6f jd_ iy rp λM' O' W' y' g1 g2 g3 g4 g5=>?_;refine hR w M' O' W' hw g1 g2 g3 (g4.mono jd_) λb hb=>?_;obtain⟨e1,e2⟩:=fr b hb;have e3:=ox b λz=>by rw[<-e1,z,me]at hb;exact hb rfl
 obtain⟨e4,e5⟩:=g5 b yj! e2;exact⟨e4.trans (e3.trans e1),e5⟩
end
end K14
namespace K14
open PySem L2 DL
variable{t:As}
abbrev Yv:Nat:=1000000000000000000000000000000000000000000000000000000000000
def yW(h:cz!<Yv):Fi [aG_]=some v!:=eU rfl (zM ar! (zM ar! (by
 have e:f2 Sh (f1 Yp al!) rH! [some ay!]=some (.bl (decide (hz!<1000000000000000000000000000000000000000000000000000000000000))):=by kernel_rfl
 exact e.trans (bT (by unfold Yv at h;split<;>omega)))))
def yY(h:cz!<Yv)(h0:0<=i)(Y:i<k):Gr [aG_,gi_]=some v!:=eU rfl (zM zV_ (c8l (i:=0) rfl rfl rfl h0 (bT Y)))
def a7y(h:cz!<Yv)(Y:1<=i):Di [aG_]=some v!:=eU rfl (zM zV_ (bT Y))
def pI(h:Fd x):Ek [x]=some v!:=by obtain⟨a,b,rfl,Y,h2,h3,h4⟩:=h;exact qX rfl ar! (zM (b1g (yY gL! Y h2) rfl rfl) (mM (a7y gL! h3) rfl))
def a1x(h:Zn x):Dr [x]=some v!:=by obtain⟨a,b,c,rfl,Y,h2,h3,h4,h5,h6⟩:=h;exact qX rfl ar! (zM (mM (pI ⟨a,b,rfl,Y,h2,h3,h4⟩) rfl) (b1g (yY gL! h5 a!) rfl rfl))
def a4r(h:Em x):Jv [x]=some v!:=by
 obtain rfl|rfl|h:=h
 .exact eU rfl (b3f zY_ (b3e ar!))
 .exact eU rfl (b3f zY_ (b3f ar! ar!))
 .exact eU rfl (b3e zZ!)
def b0k(h:Pg x):Gc [x]=some v!:=by
 obtain rfl|h:=h
 .exact zZ_
 .obtain⟨a,b,rfl,_⟩:=id h;exact eU rfl (b3f rfl zZ!)
def b6f(h:Mr x):Hb [x]=some v!:=by
 obtain rfl|h:=h
 .exact zZ_
 .obtain⟨a,b,c,rfl,_⟩:=id h;exact eU rfl (b3f rfl (mM (a1x h) rfl))
def yX(h0:0<=i)(Y:i<=3):Cb [aG_]=some v!:=eU rfl (b1g (yY gL! h0 a!) rfl rfl)
def vY{α:Type}(cs:R_):Nc [.lst iT!]=some v!:=by
 have e:Im iT_=some nj!:=by
  induction cs with
  |nil=>rfl
  |cons c cs ih=>show(Im iT_).map (true::·)=_;rw[ih];rfl
 show(Im iT_).map ow_=_;rw[e];show some (D.bl ((nj!).all id))=_;rw[z2_]
def c5h(h:Oe s=true)(Y:1<=aE!)(h2:iI_):Ju [gb_]=some v!:=by
 unfold Oe at h;rw[JD,IZ]at h;have hl:aE!<=big:=by unfold big;omega
 have hc:=sZ s.cps.toList h.2;have hz:gc!<=big:=by simpa[Str.length]using hl
 have uh:Fz 1 [] (Pe w_) F! aA! b1! e6_=some (.lst (s.cps.toList.map λ_=>.bl true)):=by
  show(if(s.cps.toList.map λc=>D.str Y_).length<=big then Option.map D.lst (Ga F! aA! b1! eN! (s.cps.toList.map λc=>.str Y_))else none)=_;rw[IK,IB hz,hc];rfl
 have hn:f1 Bm al! e6_=some (.int (aE!:Nat)):=by
  show(if aE!<=big then some (D.int (aE!:Nat))else none)=_;rw[IB hl]
 refine z3_;have hk:Ea Kt Kt C! cA_ a6! e6_=some v!:=c8l rfl hn rfl a! (bT a!);show Wx (Cp li_) (Cp lj_) e6_=_;have e0:Cp li_ e6_=some false:=by kernel_rfl
 unfold Wx;rw[e0];show Cp lj_ e6_=_;unfold Cp fT;rw[hk];rfl
def c5d(nd:t.nd):Hu t t.A0=some Jv/\Hu t t.A7=some Gc/\Hu t t.A8=some Hb/\Hu t t.A9=some Ju/\Hu t t.B0=some Dr/\
  Hu t t.B1=some Di/\Hu t t.B2=some Cb/\Hu t t.B3=some Fi/\Hu t t.B4=some Ek:=by
 have p:∀(i j:Nat) {a b:qT!} {x y:Option ni_},i<j->ne_[i]?=some a->ne_[j]?=some b->(if b=a then x else y)=y:=λi j a b x y h e1 e2=>by
  obtain⟨Y,rfl⟩:=IS.mp e1;obtain⟨h2,rfl⟩:=IS.mp e2;exact IF (JF (OE.mp (MO.mp nd) i j Y h2 h))
 unfold Hu;exact⟨D!,(p 0 1 a_ rfl rfl).trans bs_,(p 0 2 a_ rfl rfl).trans ((p 1 2 a_ rfl rfl).trans bs_),(p 0 3 a_ rfl rfl).trans ((p 1 3 a_ rfl rfl).trans ((p 2 3 a_ rfl rfl).trans bs_)),(p 0 4 a_ rfl rfl).trans ((p 1 4 a_ rfl rfl).trans ((p 2 4 a_ rfl rfl).trans ((p 3 4 a_ rfl rfl).trans bs_))),(p 0 5 a_ rfl rfl).trans ((p 1 5 a_ rfl rfl).trans ((p 2 5 a_ rfl rfl).trans ((p 3 5 a_ rfl rfl).trans ((p 4 5 a_ rfl rfl).trans bs_)))),(p 0 6 a_ rfl rfl).trans ((p 1 6 a_ rfl rfl).trans ((p 2 6 a_ rfl rfl).trans ((p 3 6 a_ rfl rfl).trans ((p 4 6 a_ rfl rfl).trans ((p 5 6 a_ rfl rfl).trans bs_))))),(p 0 7 a_ rfl rfl).trans ((p 1 7 a_ rfl rfl).trans ((p 2 7 a_ rfl rfl).trans ((p 3 7 a_ rfl rfl).trans ((p 4 7 a_ rfl rfl).trans ((p 5 7 a_ rfl rfl).trans ((p 6 7 a_ rfl rfl).trans bs_)))))),(p 0 8 a_ rfl rfl).trans ((p 1 8 a_ rfl rfl).trans ((p 2 8 a_ rfl rfl).trans ((p 3 8 a_ rfl rfl).trans ((p 4 8 a_ rfl rfl).trans ((p 5 8 a_ rfl rfl).trans ((p 6 8 a_ rfl rfl).trans ((p 7 8 a_ rfl rfl).trans bs_)))))))⟩
def a2f(cs:z7!)(h:z7_):
  Ga hD! aA! hC! [none,none] jI!=some iT!/\(jI!).length=cO!:=by
 induction cs with
 |nil=>exact aH_
 |cons c cs ih=>
  obtain⟨i1,i2⟩:=ih λx hx=>h x bt_
  obtain⟨g,Y,h2⟩:=h c HV;refine⟨?_,congrArg (·+1) i2⟩;show(((Hu t c.1).bind λg=>g [c.2]).bind λy=>(z9!).map (y::·))=_;rw[Y,i1,LG,h2];rfl
def nU(cs:z7!)(h:z7_)(hl:cO!<=1000):
  El t [.tup jI_,.tup oy_]=some v!:=by
 have hc:=a2f cs h;have hz:cO!<=big:=by unfold big;omega
 have uh:Fz 2 [] (AQ s_ w_) hD! aA! hC! [some (.tup jI_),some (.tup oy_)]=some (.lst iT!):=by
  show(if(jI!).length<=big then Option.map D.lst z9! else none)=_;rw[hc.2,IB hz,hc.1];rfl
 refine z3_;show some (!((((jI_).length:Nat):Int)==(((cs.map λc=>D.fn c.1).length:Nat):Int)))=_;rw[IK,IK,LS];rfl
def b6w(x:D)(r:d!):Ia (.tup (x::r)) (some 1) none=some (.tup r):=by
 have Y:HT.sIx (ay_+1) 0 (some 1)=1:=by
  rfl
 have h2:HT.sIx (ay_+1) (ay_+1) none=ay_+1:=by rfl
 simp[Ia,Tp,Y,h2]
def c0y(hk:Ad_)(hp:Ae!)(he:Lm rX! rX_ e7_=some v):Ht t [.tup bR_]=some v:=by
 have i0:f2 Al w_ A_ e7_=some ai!:=by
  show Fj bR_ 0=_;show"!x";rw[IB (LU 0),gm_];rfl
 refine zY rfl (sk ?_ (sk ?_ (sk ?_ (a0a he))))
 .show some (((((ay_+1:Nat):Int))==0))=_;rw[JY.mpr a!]
 .show Wx rV! rV_ e7_=_;unfold Wx Cp fT Mf Yl;rw[i0];show some (!((ef_).lookup k).isSome)=_;rw[hk];rfl
 .show Cp rW! e7_=_;have e1:Lq w_ (Bi C!) Cm e7_=some (.tup r):=b6w _ _;have e2:Ru ef_ a5_ e7_=some (.tup fs):=by
   unfold Ru;rw[i0];exact hk
  unfold Cp fT;rw[b1g hp e1 e2];rfl
def kP(hk:Ad_)(hp:Ae!)(hc:k≠"cut"):Ht t [.tup bR_]=some v!:=by refine c0y hk hp (b3e ?_);show((Fj bR_ 0).bind λx=>Xg x lm!)=_;unfold Fj Kb;rw[IB (LU 0),gm_];show some (D.bl (!(k==("cut":Str))))=_;rw[JY.mpr hc];rfl
def c5j(nd:t.nd)(h:DG d):Ht t [d]=some v!:=by
 obtain⟨i1,i2,i3,i4,i5,i6,i7,i8,i9⟩:=c5d nd;have two:∀{a b:Addr×D} {P:oz_},P a->P b->∀c∈bb_,P c:=λY h2 c hc=>by
  simp only[HW,HY,OH]at hc;obtain rfl|rfl:=hc
  .exact Y
  .exact h2
 have three:∀{a b c:Addr×D} {P:oz_},P a->P b->P c->∀x∈dX!,P x:=λY h2 h3 c hc=>by
  simp only[HW,HY,OH]at hc;obtain rfl|rfl|rfl:=hc
  .exact Y
  .exact h2
  .exact h3
 have one:∀{a:Addr×D} {P:oz_},P a->∀x∈[a],P x:=λY c hc=>by rw[II.mp hc];exact Y
 cases h with
 |@put a b Y h2=>exact kP rfl (nU [oA!,(t.A7,b)] (two oA_ ⟨_,i2,b0k h2⟩) c!) k_
 |@write a b s Y h2 h3 h4 h5=>exact kP rfl (nU [oA!,(t.A8,b),(t.A9,.str s)] (three oA_ ⟨_,i3,b6f h2⟩ ⟨_,i4,c5h h3 h4 h5⟩) c!) k_
 |@set a p n Y h2 h3 h4=>exact kP rfl (nU [oA!,(t.B2,.int p),(t.B3,.int n)] (three oA_ ⟨_,i7,yX h2 h3⟩ ⟨_,i8,yW h4⟩) c!) k_
 |@undo a Y=>exact kP rfl Af_ k_
 |@redo a Y=>exact kP rfl Af_ k_
def c9o(nd:t.nd)(Y:0<=h)(h2:h<16)(h3:1<=n)(h4:n<=2000)(h5:1<=m)(h6:m<=1000)(hd:DG d):Bl t [.tup [ba!,bq!,dI_,d]]=some v!:=qX rfl ar! (zM (mM (pI ⟨h,n,rfl,Y,h2,h3,h4⟩) rfl) (zM (mM (a7y gL! h5) rfl) (mM (c5j nd hd) rfl)))
def lD(h:Fd x):Av x=true/\Hk x<=1:=by obtain⟨a,b,rfl,_⟩:=h;simp[Av,Bx,Hk,Cw]
def lH(h:Em x):Av x=true/\Hk x<=1:=by
 obtain rfl|rfl|h:=h
 .simp[Av,Hk]
 .simp[Av,Hk]
 .exact lD h
def b1j(h:Pg x):Av x=true/\Hk x<=1:=by
 obtain rfl|h:=h
 .simp[Av,Hk]
 .exact lD h
def a5p(h:Mr x):Av x=true/\Hk x<=1:=by obtain rfl|⟨a,b,c,rfl,_⟩:=h<;>simp[Av,Bx,Hk,Cw]
def c8j(h:DG d):Av d=true/\Hk d<=2:=by
 cases h with
 |put Y h2=>simp only[Av,Bx,Hk,Cw,lH Y,b1j h2,PM,true_and];have:=(lH Y).2;have:=(b1j h2).2;omega
 |write Y h2=>simp only[Av,Bx,Hk,Cw,lH Y,a5p h2,PM,true_and];have:=(lH Y).2;have:=(a5p h2).2;omega
 |set Y=>simp only[Av,Bx,Hk,Cw,lH Y,PM,true_and];have:=(lH Y).2;omega
 |undo Y=>simp only[Av,Bx,Hk,Cw,lD Y,PM,true_and];have:=(lD Y).2;omega
 |redo Y=>simp only[Av,Bx,Hk,Cw,lD Y,PM,true_and];have:=(lD Y).2;omega
variable{t:As}
nonrec def hs(os:i_)(h:Int):List Op:=os.filter λo=>decide (o.h=h)
structure Xm(l:i_):Prop where
 num:∀(i:Nat) (o:Op),l[i]?=some o->o.n=bz_+1
 tim:l.Pairwise λa b=>a.tm<b.tm
structure Xl(o:Op):Prop where
 hh:o.h=0\/o.h=7\/o.h=15
 t1:1<=o.tm
 t2:o.tm<=1000
 n1:1<=o.n
 n2:o.n<=2000
 dg:DG o.d
structure Hist(os:i_):Prop where
 ch:∀h,Xm jJ_
 op:∀o∈os,Xl o
def Xm.nil:Xm []:=⟨λi o e=>by simp at e,ib!⟩
def Xm.snoc{o:Op}(h:Xm l)(e:o.n=(ab_:Nat)+1)(ht:∀x∈l,x.tm<o.tm):Xm (l++[o]):=by
 refine⟨λi x hx=>?_,?_⟩
 .obtain c|c:=LM i ab_
  .rw[KY c]at hx;exact h.num i x hx
  .rw[JT c]at hx;obtain z|z:=Nat.eq_zero_or_pos (i - ab_)
   .rw[z]at hx;simp at hx;subst hx;rw[e];omega
   .rw[JU be_]at hx;rcases hx
 .rw[QW];exact⟨h.tim,List.pairwise_singleton _ _,λa ha b hb=>by rw[jY_];exact ht a ha⟩
def eQ:hs (a++b) h=hs a h++hs b h:=by unfold hs;rw[PY]
def pG:hs [o] h=if o.h=h then[o]else[]:=by
 unfold hs;by_cases c:o.h=h
 .rw[IB c,KO Ai!];rfl
 .rw[IF c,LD Ai!];rfl
def dS{os:i_}:o∈hs os h↔o∈os/\o.h=h:=by unfold hs;rw[JQ];simp
def Hist.nil:Hist []:=⟨λh=>Xm.nil,λo ho=>by exact(HY ho).elim⟩
def Hist.snoc{os:i_}{o:Op}(h:Hist os)(hf:Xl o)(e:o.n=((hs os o.h).length:Nat)+1)(ht:∀x∈os,x.h=o.h->x.tm<o.tm):Hist (os++[o]):=by
 refine⟨oB_,aC_⟩
 .rw[eQ,pG];by_cases c:o.h=k
  .rw[IB c];subst c;exact(h.ch _).snoc e λx hx=>ht x (dS.mp hx).1 (dS.mp hx).2
  .rw[IF c,JC];exact h.ch k
 .obtain z|z:=IM.mp hx
  .exact h.op x z
  .rw[dW_];exact hf
def sS(os:i_)(h:Int):(jJ_).length<=bu_:=NS _ _
def c7f{o:Op}(nd:t.nd)(h:Xl o):Bl t dJ_=some v!:=by
 have a1:0<=o.h/\o.h<16:=by obtain z|z|z:=h.hh<;>omega
 exact c9o nd a1.1 a1.2 h.n1 h.n2 h.t1 h.t2 h.dg
def b3y(hf:∀a b,f a=f b->a.h=b.h):∀(os:i_),(∀h,((jJ_).map f).Nodup)->(os.map f).Nodup
 |[],_=>KU
 |o::os,H=>by
  have sub:∀h,(jJ_).Sublist (hs gw_ h):=λh=>by unfold hs;exact(List.sublist_cons_self o os).filter _
  rw[IJ,IV];refine⟨ck_,b3y hf os λh=>((sub h).map f).nodup (H h)⟩;obtain⟨x,hx,e⟩:=IY.mp z;have hh:=hf _ _ e;have H1:=H o.h;have:hs gw_ o.h=o::hs os o.h:=by unfold hs;rw[KO c!]
  rw[this,IJ,IV]at H1;exact H1.1 (IY.mpr ⟨x,dS.mpr ⟨hx,hh⟩,e⟩)
def Hist.names{os:i_}(h:Hist os):(jb_).Nodup:=by
 refine b3y Al_ os λk=>?_
 .show"#3";exact e.1
 .have hn:=(gM_).num;rw[MO,QJ,OE];intro i j hi hj TJ e;have e1:=hn i _ (IE hi);have e2:=hn j _ (IE hj);show"#3";omega
def Hist.keys{os:i_}(h:Hist os):(os.map Op.key).Nodup:=by
 refine b3y Al_ os λk=>?_
 .simp only[Op.key,Prod.mk.injEq]at e;exact e.2
 .rw[MO,QJ];refine(gM_).tim.imp λ{a b} ll e=>?_;simp only[Op.key,Prod.mk.injEq]at e;omega
end K14
namespace K14
open PySem L2 DL
open Classical
def lC(h:ch_)(hd:Hk d<=40):Gw d d=some af_:=by unfold Gw;rw[h,sW d h,IN hd];rfl
def b3j(o:Op):Al o.v ed_=some gz!:=by rfl
def fU:∀{ds:d!},(∀d∈ds,Av d=true)->Bx ds=true
 |[],_=>by rfl
 |d::ds,h=>by
  unfold Bx;rw[h d HV,fU λx hx=>h x bt_];rfl
def iH:∀{ds:d!},(∀d∈ds,Hk d<=n)->Cw ds<=n
 |[],_=>by simp[Cw]
 |d::ds,h=>by
  unfold Cw;have Y:=h d HV;have h2:=iH λx hx=>h x (HR d hx);omega
def wV{o:Op}(h:gp_):Av o.v=true/\Hk o.v<=5:=by
 obtain⟨Y,h2⟩:=c8j h;show"!{"
 .show Bx i3_=true;refine fU λd hd=>?_;simp only[HW,HY,OH]at hd;obtain rfl|rfl|rfl|rfl:=hd
  .rfl
  .rfl
  .rfl
  .exact Y
 .show Cw i3_+1<=5;have:Cw i3_<=2:=iH λd hd=>by
   simp only[HW,HY,OH]at hd;obtain rfl|rfl|rfl|rfl:=hd
   .simp[Hk]
   .simp[Hk]
   .simp[Hk]
   .exact h2
  omega
nonrec def hF(yy:Int)(ta wa:qT!)(out:D):List bQ_:=[("ours",.int yy),("taken",.fn ta),("waiting",.fn wa),("outline",out)]
section
variable{yy:Int}{ta wa:qT!}{out:D}
def hF1:List.lookup An! cY!=some (D.int yy):=by kernel_rfl
def hF2:List.lookup An_ cY!=some (D.fn ta):=by kernel_rfl
def hF3:List.lookup Ao! cY!=some (D.fn wa):=by kernel_rfl
def hF4:List.lookup oD! cY!=some out:=by kernel_rfl
def hM1:List.lookup (Str.ofString "have") cY!=none:=by kernel_rfl
def hP1:Gk An! oD_ []=[dS!]:=by kernel_rfl
def hP2:Gk An_ (.fn ta) [dS!]=gN!:=by kernel_rfl
def hP3:Gk Ao! (.fn wa) gN!=gN_:=by kernel_rfl
def hP4:Gk oD! .non gN_=hF yy ta wa .non:=by kernel_rfl
def hP5:Gk oD! o2 cY!=hF yy ta wa o2:=by kernel_rfl
end
structure Bc(t:As)(M:Mh)(yy:Int)(a ta wa:qT!)(out:D)(S:i_)(kl:u!)(ca:co_):Prop where
 ob:M a=some (.obj t.B5 cY!)
 tk:∃ep,M ta=some (.dct gO_ ep)
 wt:M wa=some bA!
 cl:∀h∈kl,M gO!=some (.lst ((e8_).map Op.v))
 nk:kl.Nodup
 mem:∀h,h∈kl↔hs S h≠[]
 cw:∀h∈kl,ca h≠wa
 ci:∀h∈kl,∀h'∈kl,ca h=ca h'->h=h'
 len:jL!<=bB_
def Yq(a ta:qT!)(kl:u!)(ca:co_)(b:qT!):Prop:=b=a\/b=ta\/∃h∈kl,b=ca h
def Vl(a ta:qT!)(M:Mh)(kl:u!)(ca:co_)(M':Mh)(bq:u!)(bt:co_):Prop:=∀b,M b≠none->¬Yq a ta kl ca b->M' b=M b/\¬Yq a ta bq bt b
def Vl.rfl{a ta:qT!}{M:Mh}{kl:u!}{ca:co_}:Vl a ta M kl ca M kl ca:=λb _ ho=>⟨Eq.refl _,ho⟩
def Vl.trans{a ta:qT!}{M M1 M2:Mh}{kl UM ui:u!}{ca UN uj:co_}(Y:Vl a ta M kl ca M1 UM UN)(h2:Vl a ta M1 UM UN M2 ui uj):Vl a ta M kl ca M2 ui uj:=λb hb ho=>by
 obtain⟨e,o⟩:=Y b hb ho;obtain⟨e2,o2⟩:=h2 b Ar! o;exact⟨e2.trans e,o2⟩
def eM{g:Int->D}:∀{kl:u!} {x:Int},kget (kl.map λh=>(D.int h,g h)) (.int x)=if x∈kl then some (g x)else none
 |[],x=>by rfl
 |k::kl,x=>by
  rw[IJ];unfold kget;by_cases e:k=x
  .subst e;simp
  .rw[IF λz=>e oE_,eM];simp[JF e]
section
variable{t:As}{M:Mh}{yy:Int}{a ta wa:qT!}{out:D}{S:List Op}{kl:List Int}{ca:Int->Addr}
def Bc.nob(hA:M_)(hm:(cY!).lookup m=none):Db t.B5 m M bl_:=by show(match M a with|some (.obj C' fs)=>C'=t.B5/\fs.lookup m=none|_=>False);rw[hA.ob];exact⟨rfl,hm⟩
def Bc.nol(hA:M_)(hh:h∉kl):hs S h=[]:=QA λz=>hh ((oF!).mpr z)
def Bc.keepO{M':Mh}(hA:M_)(k:∀b,Yq a ta kl ca b\/b=wa->M' b=M b):Bc t M' yy a ta wa out S kl ca:=by obtain⟨ep,ht⟩:=hA.tk;exact{hA with ob:=(k a oF_).trans hA.ob,tk:=⟨ep,(k ta (.inl eZ_)).trans ht⟩,wt:=(k wa du!).trans hA.wt,cl:=λh hh=>(k _ (.inl (.inr (.inr ⟨h,hh,rfl⟩)))).trans oG!}
def Bc.live(hA:M_)(h:Yq a ta kl ca b\/b=wa):M b≠none:=by
 obtain⟨ep,ht⟩:=hA.tk;rcases h with(h|h|⟨x,hx,h⟩)|h
 .rw[h,hA.ob];exact KL _
 .rw[h,ht];exact KL _
 .rw[h,hA.cl x hx];exact KL _
 .rw[h,hA.wt];exact KL _
def Bc.keep{M':Mh}(hA:M_)(k:∀b,M b≠none->M' b=M b):Bc t M' yy a ta wa out S kl ca:=hA.keepO λb h=>k b (hA.live h)
def nQ(hA:M_):Ph eo_ [o_,ba!] M oH_:=λK hK=>by
 show"!]";refine h_;by_cases c:h∈kl
 .have hl:Qh M [.fn gO!]=some oH_:=by
   show((Nz M (.fn gO!)).map λxs=>D.int f_)=_;simp only[Nz,hA.cl h c,SJ,IK]
  exact cH (uP (iT dS_ j_ j_ ht rfl Ar_) hl) hK
 .have hl:Qh M [gJ_]=some oH_:=by rw[hA.nol c];rfl
  exact cH (uP (iT dS_ j_ j_ ht rfl At!) hl) hK
def wG{o:Op}(hA:M_):Ph (Fp t) jL_ M (.bl (decide (o.n<=e9!))):=λK hK=>by
 refine h_;exact cH (dM oI! Au! rfl) hK
def a4k{o:Op}(hA:M_):Ph (Gg t) jL_ M (.bl Au_):=λK hK=>by
 refine h_;exact cH (dM oI! (dM Au! j_ rfl) dT!) hK
nonrec def lt(S:i_)(h:Int):Int:=((e8_).getLast?.map Op.tm).getD 0
def a7k(h:xs.getLast?=some v):Fj xs (-1)=some v:=by
 have hl:0<f_:=by cases xs with|nil=>cases h|cons a l=>simp
 show"!x";rw[dq!,aj!];show xs[((-1:Int)+f_).toNat]?=_;rw[show((-1:Int)+xs.length).toNat=xs.length - 1 by omega,<-List.getLast?_eq_getElem?];exact h
def nI(hA:M_):Ph (Dq t) [o_,ba!] M (.int (lt S h)):=λK hK=>by
 show"!]";refine h_;have hv:=jO (dM (g:=λ_=>Aw) (ρ:=[q!,oJ!]) (dG oJ_ jM! Av! jM_) (aL (f:=fC I_) rfl) dT!);by_cases c:hs S h=[]
 .rw[c]at hv;refine lT hv (cH j_ ?_);unfold lt at hK;rw[c]at hK;exact hK
 .have hl:=List.length_pos_iff.mpr c;rw[show((oH!:Int)==0)=false from by rw[JY];omega]at hv;refine dO hv ?_;have hk:=(oF!).mpr c;obtain⟨o,ho⟩:∃o,(hs S h).getLast?=some o:=by cases e:(e8_).getLast? with|some o=>exact⟨o,rfl⟩|none=>exact absurd oK! c
  have i1:=(eO ht rfl).trans (by rw[eM,b1_]);have i2:Ce M (.fn gO!) (.int (-1))=some o.v:=by
   simp only[Ce,hA.cl h hk];exact a7k (by rw[List.getLast?_map,ho];rfl)
  have e:lt S h=o.tm:=by unfold lt;rw[ho];rfl
  rw[e]at hK;exact cH (dM (dM (dM dS_ j_ i1) j_ i2) j_ (b3j o)) hK
def a9y{ρ:Ae}{fy:j!}{R:v_}(hy:Aw!)(hR:∀a ta wa M',Bc t M' yy a ta wa .non [] [] (λ_=>a)->ci_->(∀b,Yq a ta [] (λ_=>a) b\/b=wa->M b=none)->R bl_ M'):Dy t.B5 2 eA! Aw_ ρ M R:=by
 unfold Dy Ab Ac;rw[bQ hy];refine⟨rfl,λa ha=>h_⟩;have L:HL M (mup M a (.obj t.B5 [])) [Ax!]:=HL.new (l:=[]) ⟨Ax_,KU,Ax_,fu!⟩ ha;refine jT ?_;rw[bQ (f:=Aa 1) (d:=e9_) rfl];refine fV (fs:=[]) rfl (L.cell Ax! c!) a_ hP1 ?_
 replace L:=L.put (u:=[]) (c:=.obj t.B5 [dS!])
 refine jT λta hta=>?_
 replace L:=L.new (c:=gt!) hta
 refine fV (fs:=[dS!]) rfl (L.cell (a,.obj t.B5 [dS!]) c!) x9! hP2 ?_
 replace L:=L.put (u:=[_]) (c:=.obj t.B5 gN!)
 refine jT ⟨aW_,λwa hwa=>?_⟩
 replace L:=L.new (c:=gJ_) hwa
 refine fV (fs:=gN!) rfl (L.cell (a,.obj t.B5 gN!) c!) x9_ hP3 ?_
 replace L:=L.put (u:=[_,_]) (c:=.obj t.B5 gN_)
 refine mP ?_;rw[bQ (f:=fC .non) (d:=.non) rfl];refine fV (fs:=gN_) rfl (L.cell (a,.obj t.B5 gN_) c!) ya! hP4 ?_
 replace L:=L.put (u:=[_,_]) (c:=.obj t.B5 Ay_)
 refine⟨rfl,hR a ta wa _ ⟨L.cell Az! c!,⟨0,L.cell Az_ c!⟩,L.cell AA! c!,oK_,KU,λh=>by simp[hs],oK_,oK_,IH _⟩ L.kp λb hb=>?_⟩;rcases hb with(h|h|⟨_,h,_⟩)|h
 .rw[h];exact L.fr Az! c!
 .rw[h];exact L.fr Az_ c!
 .cases h
 .rw[h];exact L.fr AA! c!
end
section
variable{t:As}{M:Mh}{ρ:Ae}{yy:Int}{a ta wa:qT!}{out:D}{S:List Op}{kl:List Int}{ca:Int->Addr}
def cE(hp:bb!):Dm M x!=some jA_:=by simp[Dm,hp]
def lJ(hp:nU_):Ln M x!=some (p,xs):=by simp[Ln,hp]
def GX(fa:j!)(ρ:Ae)(d:D)(M:Mh)(R:v_):Prop:=Ed (Ln M d) λ_=>wl fa ρ M λv M2=>Ed (Ln M2 d) λq=>og!<big/\R .non zf!
def a5t(h:fo ρ M λd M1=>GX fa ρ d M1 λ_ M2=>q ρ M2 R):Af (Az (Mo fo gs!)) q ρ M R:=h
def tH(hp:nU_)(hf:f ρ=some v)(hl:f_<big)(k:R .non (mup M p (.lst (xs++[v])))):GX f ρ x! M R:=by refine gC ?_;rw[bQ hf,lJ hp];exact gC ⟨hl,k⟩
def b8i(ho:je!)(Y:ot!)(hp:bb!)(hk:aZ!)(hl:cm_)
  (old:∀q v,M q=none->kget h1 y=some v->K v gP!)(new:∀q,M q=none->kget h1 y=none->K bS_ (mup gP! p (.dct (Bf h1 y bS_) cT_))):Hx fo gs! ep_ ρ M K:=by
 refine ho _ ?_;rw[cE hp];refine gC ?_;rw[bQ Y];refine⟨aW_,dL_⟩;have pq:=cU AE_ hq;show Ed (Dm gP! x!) _;rw[cE ((mup_ne pq).trans hp)];refine gC ?_;rw[hk];refine gC ⟨hl,?_⟩;cases e:kget h1 y with
 |some v=>exact old q v hq e
 |none=>exact new q hq e
def wE(hA:M_)(hS:cY_)(hR:∀M' bq bt,Bc t M' yy a ta wa .non oL_ bq bt->Vl a ta M kl ca M' bq bt->R .non M'):Jp t jL_ M R:=by
 obtain⟨ep,ht⟩:=hA.tk;refine h_;refine a5t ?_;have i0:=oO o;have UO:jL!<64:=KQ hA.len hS;have hlS:(cp!).length<64:=KQ (sS S o.h) hS;have at_:a≠ta:=λz=>by have:=hA.ob;rw[z,ht]at this;rcases this
 have aw:a≠wa:=λz=>by have:=hA.ob;rw[z,hA.wt]at this;rcases this
 have tw:ta≠wa:=λz=>by rw[z,hA.wt]at ht;rcases ht
 have cA:∀h∈kl,ca h≠a:=λh hh z=>by have:=hA.cl h hh;rw[z,hA.ob]at this;rcases this
 have cT:∀h∈kl,ca h≠ta:=λh hh z=>by have:=hA.cl h hh;rw[z,ht]at this;rcases this
 refine b8i dS_ i0 ht rfl e3! (λq v hq e=>?_) (λq hq e=>?_)
 .have aq:=cU oM_ hq;have tq:=cU oN! hq;have wq:=cU oN_ hq;have cq:∀h∈kl,ca h≠q:=λh hh=>cU oO! hq;rw[eM]at e;have c:o.h∈kl:=by
   by_cases c:o.h∈kl
   .exact c
   .rw[IF c]at e;rcases e
  rw[IB c]at e;rcases e;refine tH ((mup_ne (cq _ c)).trans (hA.cl _ c)) rfl e3! ?_;generalize e2:mup gP! (ca o.h) AF_=M2;have m2:∀b,b≠q->b≠ca o.h->M2 b=M b:=λb Y h2=>by rw[<-e2,iC_,eH_]
  have m2c:M2 (ca o.h)=some AF_:=by rw[<-e2];exact mup_same
  refine mP ?_;rw[bQ rfl];refine fV rfl ((m2 a aq (JF (cA _ c))).trans hA.ob) jb! hP5 ?_;refine hR _ kl ca ⟨mup_same,⟨ep,?_⟩,?_,oO_,hA.nk,i9!,hA.cw,hA.ci,?_⟩ λb hb ho=>⟨(AG!).trans (m2 b oP! λz=>ho (.inr (.inr ⟨_,c,z⟩))),ho⟩
  .rw[AG_,m2 ta tq (JF (cT _ c))];exact ht
  .rw[AH!,m2 wa wq (JF (hA.cw _ c))];exact hA.wt
  .rw[mup_ne (cA h hh),eQ,pG];by_cases z:o.h=h
   .rw[IB z,<-z,m2c,JA];rfl
   .rw[IF z,JC,m2 _ (cq h hh) λy=>z (hA.ci _ hh _ c y).symm];exact hA.cl h hh
  .rw[eQ,pG];by_cases z:o.h=h
   .rw[IB z];subst z;simp[c]
   .rw[IF z,JC];exact hA.mem h
  .rw[IR];have:=hA.len;omega
 .have aq:=cU oM_ hq;have tq:=cU oN! hq;have wq:=cU oN_ hq;have cq:∀h∈kl,ca h≠q:=λh hh=>cU oO! hq;rw[eM]at e;have c:o.h∉kl:=by
   by_cases c:o.h∈kl
   .rw[IB c]at e;rcases e
   .exact c
  have pb:Bf gO_ cU! bS_=gO_++AI!:=iW (λz=>by
   rw[JZ]at z;obtain⟨x,hx,ex⟩:=IY.mp z;exact c (by rw[<-D.int.inj ex];exact hx))
  rw[pb];refine tH ((mup_ne (JF tq)).trans mup_same) rfl a_ ?_;generalize e2:mup (mup gP! ta AI_) q (.lst ([]++dJ_))=M2;have m2:∀b,b≠q->b≠ta->M2 b=M b:=λb Y h2=>by rw[<-e2,eH_,iC_,eH_]
  have m2q:M2 q=some (.lst dJ_):=by rw[<-e2];exact mup_same
  have m2t:M2 ta=some AI_:=by rw[<-e2,mup_ne tq];exact mup_same
  refine mP ?_;rw[bQ rfl];refine fV rfl ((m2 a aq at_).trans hA.ob) jb! hP5 ?_;have nc:∀h∈kl,h≠o.h:=λh hh z=>c (z▸hh);have hs0:=hA.nol c;refine hR _ (kl++[o.h]) (λh=>if h=o.h then q else ca h) ⟨mup_same,⟨ep+1,?_⟩,?_,oO_,?_,i9!,oO_,λh hh h' oy ee=>?_,?_⟩ λb hb ho=>⟨(AG!).trans (m2 b oP! λz=>ho (.inr bl!)),ck_⟩
  .rw[AG_,m2t,JA];congr 3
   .apply LK;intro h hh;rw[IF (nc h hh)]
   .show _=[(D.int o.h,D.fn (if o.h=o.h then q else ca o.h))];rw[D!]
  .rw[AH!,m2 wa wq (JF tw)];exact hA.wt
  .show mup M2 a _ jP!=_;by_cases z:h=o.h
   .rw[IB z,mup_ne (JF aq),m2q,z,eQ,pG,D!,hs0];rfl
   .have oy:h∈kl:=(oQ!).resolve_right λy=>z jP_;rw[IF z,mup_ne (cA h oy),m2 _ (cq h oy) (cT h oy),eQ,pG,IF (JF z),JC];exact hA.cl h oy
  .rw[JP];exact⟨hA.nk,zS!,λx hx y hy=>by rw[II.mp hy];exact nc x hx⟩
  .rw[eQ,pG,IM,II];by_cases z:o.h=h
   .rw[IB z];simp[z]
   .rw[IF z,JC,<-hA.mem h];simp[JF z]
  .show jP!≠wa;by_cases z:h=o.h
   .rw[IB z];exact JF wq
   .rw[IF z];exact hA.cw h ((oQ!).resolve_right λy=>z jP_)
  .have g:∀x,x∈kl++[o.h]->x≠o.h->x∈kl:=λx hx z=>(nb!).resolve_right λy=>z jP_;have qz:jP!=(if h'=o.h then q else ca h'):=ee;by_cases z:h=o.h
   .by_cases z':h'=o.h
    .rw[z,z']
    .rw[IB z,IF z']at qz;exact absurd qz.symm (cq h' AJ_)
   .by_cases z':h'=o.h
    .rw[IF z,IB z']at qz;exact absurd qz (cq h (g h hh z))
    .rw[IF z,IF z']at qz;exact hA.ci h (g h hh z) h' AJ_ qz
  .rw[IR,IR];have:=hA.len;simp;omega
  .obtain z|z|⟨h,hh,e⟩:=z
   .exact ho bl!
   .exact ho (.inr bl!)
   .have e:b=jP!:=e;by_cases z:h=o.h
    .rw[IB z]at e;exact cU hb hq e
    .rw[IF z]at e;exact ho (.inr (.inr ⟨h,(oQ!).resolve_right λy=>z jP_,e⟩))
def a3g(h:Pu f ρ M x!)(hp:M p=some bA!):Pu (Bb nl ix (Bo f) bnd ft fe) ρ M bA!:=λK hK=>by
 refine h _ ?_;show(match M p with|some (.lst xs)=>_|_=>False);rw[hp];exact⟨JJ _,hp,hK⟩
def a8o(h:jg_)(k:cQ_):Af (Jb ft q) q2 ρ M R:=by refine nZ_;refine h _ ?_;rw[bw_];exact k
def oA(hA:M_):Ph (Dv t) [o_] M I_:=λK hK=>by
 refine h_;refine fH j_ ?_;refine fH (a3g (dL j_ hA.ob hF3) hA.wt) ?_;refine a8o (gF rfl) ?_;exact cH j_ hK
def a3c{o:Op}{R:v_}(hA:M_)(hS:cY_)(hn:o.n=e9!+1)(hR:∀M' bq bt,Bc t M' yy a ta wa .non oL_ bq bt->Vl a ta M kl ca M' bq bt->R aI! M'):Hr t jL_ M R:=by
 refine h_;show Af s6_ _ oQ_ M _;have hx:Pm s6! oQ_ M true:=by
  have e:Au_=true:=by rw[hn];exact LS _
  have:=jO (dH (ρ:=oQ_) oJ_ Av! (a4k (o:=o) hA));rw[e]at this;exact this
 refine lT hx ?_;refine iF (jN rfl rfl (wE hA hS λM' bq bt cx kp=>?_));exact cH (dM (aL (d:=.int 1) rfl) (gB (aL (f:=Aa 0) (d:=o_) rfl) (oA cx)) (d:=.int 1) rfl) (hR M' bq bt cx kp)
def Hist.next{os:i_}(h:Hist (S++o::os)):o.n=e9!+1:=by
 have:=(h.ch o.h).num (cp!).length o;rw[eQ]at this;have e:hs gw_ o.h=o::hs os o.h:=by unfold hs;rw[KO c!]
 rw[e]at this;exact this (by rw[JT p!];simp)
def EG(t:As):WS:=Tx 2 s8_
def a5j:∀(os:i_) (x1:D) (k:Int) (y:ao_) (M:Mh) (out:D) (S:i_) (kl:u!) (ca:co_) (R:o!),Bc t M yy a ta wa out S kl ca->Hist (S++os)->(S++os).length<64->
  (∀M' bq bt ju y',Bc t M' yy a ta wa ju (S++os) bq bt->Vl a ta M kl ca M' bq bt->(ju=.non\/os=[]/\M'=M/\ju=out/\bq=kl/\bt=ca)->R (.nx [q!,O_,some (.int (k+(bu_:Nat))),y']) M')->
  Gf B! W! (EG t) bv! [q!,O_,some c8!,y] M R
 |[],x1,k,y,M,out,S,kl,ca,R,hA,_,_,hR=>⟨trivial,by
  have:=hR M kl ca out y (by rw[JC];exact hA) .rfl (.inr ⟨rfl,rfl,rfl,rfl,rfl⟩);simpa using this⟩
 |o::os,x1,k,y,M,out,S,kl,ca,R,hA,hH,hl,hR=>by
  refine M!;show Ag 2 (Hr t) dq_ [q!,O_,some c8!,L!] M _;have qe:bB_<64:=by rw[IR]at hl;omega
  refine jN rfl rfl (a3c hA qe hH.next λM' bq bt cx kp=>?_);have e:S++o::os=S++[o]++os:=by simp
  refine a5j os x1 J_ dL! M' .non oL_ bq bt R cx (by rw[<-e];exact hH) AM! λM2 ui uj UP y2 h2 ny hz=>?_;have h3:=hR M2 ui uj UP y2 (by rw[e];exact h2) (kp.trans ny) (.inl (hz.elim id λz=>z.2.2.1));have ek:k+((gw_).length:Nat)=k+1+(bu_:Nat):=by rw[IW];omega
  rw[ek]at h3;exact h3
def a2x(h0:i6!)(Y:ot!)(h2:zL!)(hp:bb!)(hk:aZ!)(hl:cm_)(hn:y∉h1.map c_)(hK:K z (mup M p (.dct (h1++[(y,z)]) cT_))):Hx ch! gs! i5! ρ M K:=by unfold Hx;rw[bQ h0,cE hp];refine gC ?_;rw[bQ Y,cW!,cE hp,hk];refine gC (gC ⟨hl,?_⟩);rw[nL hn,iW hn];exact hK
def b3v(o:Op):Al o.nm I_=some cU!:=by rfl
def HH(t:As):WS:=Af fK!
 (Af sW_
 sX!)
structure Nx(yy:Int)(S:i_)(o:Op):Prop where
 f:Xl o
 y:o.h≠yy
 n:e9!<o.n
 t:lt S o.h<o.tm
def a6u{M0:Mh}(hA:AM_)(h0:M0 p=none):∀(os dn:i_) (x1:D) (y3 y4 y5:ao_) (ep:Nat) (M:Mh) (R:o!),AN!->(∀o∈os,Nx yy S o)->((oR!).map Op.nm).Nodup->(oR!).length<64->M p=some (.dct AN_ ep)->
  (∀M' bp mj yi y5',M' p=some (.dct ((oR!).map λo=>oR_) bp)->AO!->R (.nx [q!,O_,ab!,mj,yi,y5']) M')->
  Gf B! W! (HH t) bv! [q!,O_,ab!,y3,y4,y5] M R
 |[],dn,x1,y3,y4,y5,ep,M,R,fr,_,_,_,hp,hR=>⟨trivial,hR M ep y3 y4 y5 (by rw[JC];exact hp) fr⟩
 |o::os,dn,x1,y3,y4,y5,ep,M,R,fr,hf,nd,hl,hp,hR=>by
  refine M!;have ho:=hf o HV;have cx:=hA.keep fr;have e:dn++o::os=dn++[o]++os:=by simp
  have es:=b1i o;refine fH (aL es) ?_;have Y:Pm sU! oS! M false:=by
   have:=jO (dH (ρ:=oS!) oJ_ (aL (f:=Aa 3) rfl) (wG cx));rw[IG (by have:=ho.n;omega)]at this;exact this
  have h2:Pm sV! oS! M false:=by
   refine jO (dM (aL (b3v o)) (dL j_ cx.ob hF1) ?_);have:(o.h==yy)=false:=JY.mpr ho.y;rw[iN,this]
  refine oE Y (oE h2 ?_);have hnn:o.nm∉(AN_).map c_:=λz=>by
   rw[JZ]at z;rw[JA,JP]at nd;exact nd.2.2 o.nm z o.nm c! rfl
  refine a2x rfl rfl rfl hp rfl (by rw[IK];rw[IR]at hl;unfold big;omega) hnn ?_;have h3:fT sX_ AQ!=some false:=by
   obtain⟨n1,n2⟩:=wV ho.f.dg;have:f2 Gw V! H_ AQ!=some af_:=lC n1 a!;show"#+"
  refine oE (gF h3) ?_;refine a6u hA h0 os (dn++[o]) x1 dL! (some o.nm) dL! cT_ _ R AQ_ (λx hx=>hf x bt_) (by rw[<-e];exact nd) AM! (by rw[mup_same,JA];rfl) λM' bp z3 z4 z5 g1 g2=>?_;exact hR M' bp z3 z4 z5 (by rw[e];exact g1) g2
def a3t{ms:i_}(hA:M_)(hN:AR!)(nn:(gQ_).Nodup)(hl:jQ_)
  (hR:∀M' p ep,M p=none->M' p=some (.dct jR! ep)->ci_->R x! M'):Df t fc! M R:=by
 refine h_;intro p hp;have fr:∀b,M b≠none->mup M p e4! b=M b:=λb hb=>mup_ne oT_;have jd:=hA.keep fr;unfold Af Bw Bo;have UC:Kc dQ_ (.fn wa) oU!=some oU!:=by
  simp only[Kc,jd.wt];rw[IB (by rw[IK];unfold big;simp;omega)];rfl
 refine dM (dL j_ jd.ob hF3) j_ UC _ ?_;exact a6u hA hp ms [] _ none none none 0 _ _ fr hN (by simpa using nn) (by simpa using hl) mup_same λM' bp y3 y4 y5 g1 g2=>cH j_ (hR M' p bp hp g1 g2)
def HK(t:As):WS:=Af sY!
 (Af s0!
 s0_)
def c6y(h0:i6!)(Y:io!)(h2:f ρ=some v)(hp:bb!)(hk:aZ!)(hl:cm_)(k':R Z_ e5_):Bq ch! (wl fi) gy! ρ M R:=by unfold Bq;rw[cW!,bQ h0,bQ Y,gY hp hk hl];exact k'
def a8c{M0:Mh}(hA:AM_)(me:M0 p=some (.dct h1 e0))(h0:M0 q=none):∀(qs:i_) (ml:r!) (ep:Nat) (y3 y4:ao_) (M:Mh) (R:o!),AN!->(∀o∈qs,kget h1 o.nm=some o.v/\Nx yy S o)->M q=some (.dct ml ep)->
  qs.Pairwise (λx y=>x.h=y.h->x.tm<y.tm)->(∀o∈qs,∀v,kget ml cU!=some v->∃m,v=.int m/\m<o.tm)->ml.length+qs.length<1000->
  (∀M' mj yi,AO!->R (.nx [q!,ab!,aY_,mj,yi]) M')->
  Gf B! W! (HK t) (qs.map Op.nm) [q!,ab!,aY_,y3,y4] M R
 |[],ml,ep,y3,y4,M,R,fr,_,_,_,_,_,hR=>⟨trivial,hR M y3 y4 fr⟩
 |o::qs,ml,ep,y3,y4,M,R,fr,hk,hq,pw,ht,hl,hR=>by
  refine M!;have cx:=hA.keep fr;have hp:=(fr p (by rw[me];simp)).trans me;obtain⟨hko,ho⟩:=hk o HV;rw[KR]at pw;dsimp only[_root_.List.length_cons]at hl;have i1:=(eO hp rfl).trans hko;have i2:=b3j o;refine fH (dM (dM j_ j_ i1) j_ i2) ?_;have ix:=b3v o;obtain⟨m,em,hm⟩:∃m:Int,(kget ml (.int o.h)).getD (.int (lt S o.h))=.int m/\m<o.tm:=by
   cases e:kget ml cU! with
   |none=>exact⟨_,rfl,ho.t⟩
   |some v=>
    obtain⟨m,e1,e2⟩:=ht o HV v e;exact⟨m,e1,e2⟩
  have hc:Pm sZ_ [q!,ab!,aY_,gr_,some gz!] M false:=by
   refine jO (dM j_ (iT j_ (aL ix) (dH j_ (aL ix) (nI cx)) hq rfl em) ?_);show some (D.bl (decide (o.tm<=m)))=_;rw[IG a!]
  refine dO hc ?_;refine c6y rfl ix rfl hq rfl bn_ ?_;refine a8c hA me h0 qs _ _ (some o.nm) (some gz!) _ R AQ_ AS_ mup_same pw.2 (λx hx v hv=>?_) (by have:=kput_len ml cU! gz!;omega) hR;by_cases c:o.h=x.h
  .rw[<-c,iL]at hv;rcases hv;exact⟨_,rfl,pw.1 x hx c⟩
  .rw[lQ λz=>c oE_]at hv;exact ht x bt_ v hv
def a7h{g:Op->D}:∀{l:i_},(ff!).Nodup->∀{o:Op},o∈l->kget (l.map λo=>(f o,g o)) (f o)=some (g o)
 |[],_,o,h=>by exact(cR!).elim
 |x::l,nd,o,h=>by
  rw[IJ,IV]at nd;rw[IJ];unfold kget;obtain rfl|h:=HW.mp h
  .rw[D!]
  .rw[IF λz=>nd.1 (by rw[z];exact IU h),a7h nd.2 h]
def Mc(o:Op):Int×Int:=(o.h,o.n)
def Hist.nkeys(h:Hist ms):(ms.map Mc).Nodup:=by have:=h.names;rw[MO,QJ]at this ⊢;refine this.imp λ{x y} uk e=>uk ?_;simp only[Mc,Prod.mk.injEq]at e;show D.tup [.int x.h,.int x.n]=D.tup [.int y.h,.int y.n];rw[e.1,e.2]
def Hist.rise(h:Hist ms)(hx:x∈ms)(hy:y∈ms)(e:x.h=y.h)(hn:x.n<y.n):x.tm<y.tm:=by have iz:x∈hs ms y.h:=dS.mpr ⟨hx,e⟩;have hy':y∈hs ms y.h:=dS.mpr ⟨hy,rfl⟩;obtain⟨i,hi,ei⟩:=LV.mp iz;obtain⟨j,hj,ej⟩:=LV.mp hy';have Y:=(oU_).num i x (by rw[e8!,ei]);have h2:=(oU_).num j y (by rw[IE hj,ej]);have:=OE.mp (oU_).tim i j hi hj a!;rw[ei,ej]at this;exact this
def b4o(h:Ik (Mc x) (Mc y)=true)(e:x.h=y.h):x.n<y.n:=by simp only[Ik,CN,Mc,e,KZ,IZ]at h;exact h
def tF(hA:M_)(hH:fd!)(hN:AR!)(hl:jQ_)(hp:M p=some AT_)
  (hR:AU!):Hi t [o_,.fn p] M R:=by
 refine h_;intro q hq;have qp:=JF (cU AE_ hq);have hp1:mup M q e4! p=some AT_:=(mup_ne (JF qp)).trans hp;have nn:(gQ_).Nodup:=by have:=oV!;rw[JA,JP]at this;exact oV_
 have nk:(ms.map Mc).Nodup:=by have:=hH.nkeys;rw[JA,JP]at this;exact oV_
 unfold Bw Bo;have ul:(jS_).Perm ms:=aV ms;have hsort:Pw AV! [.fn p]=some (.lst ((jS_).map Op.nm)):=by
  show((Dm AV! x!).bind λq=>(Wa gL_).map D.lst)=_;rw[cE hp1];show(Wa ((jR!).map c_)).map D.lst=_;have e1:(jR!).map c_=ms.map Op.nm:=by rw[JZ];rfl
  have e2:(gQ_).map kf2=ms.map Mc:=by rw[JZ];rfl
  rw[e1];unfold Wa;rw[IB ⟨MU.mpr λd hd=>by obtain⟨o,_,rfl⟩:=IY.mp hd;rfl,by rw[e2];exact nk,ub_⟩];show some (D.lst (Hh kf2 gQ_))=_;rw[qU (k:=Mc) (k':=kf2) λo=>rfl]
 refine uP j_ hsort _ ?_;refine a8c hA hp hq jS_ [] 0 none none _ _ (λb hb=>mup_ne oP!) (λo ho=>⟨a7h nn AW!,hN o AW!⟩) mup_same ?_ (λo _ v hv=>by rcases hv) (by rw[ul.length_eq];simp;omega) λM' y3 y4 h=>hR M' h;have db:Mj Mc jS_:=fI nk;have:=List.Pairwise.and_mem.mp db;exact this.imp λ{x y} h e=>hH.rise (HX _ (ul.mem_iff.mp h.1)) (HX _ (ul.mem_iff.mp h.2.1)) e (b4o (x:=x) (y:=y) h.2.2 e)
def a2j:∀{ys:d!},(∀y∈ys,y=D.bl true)->Im ys=some AX!
 |[],_=>rfl
 |y::ys,h=>by
  rw[h y HV];show(Im ys).map (true::·)=_;rw[a2j λx hx=>h x bt_];rfl
def pN(h:cd_):Ad f Ah ρ=some [d]:=by unfold Ad;rw[h];rfl
def vO(h:iR_):f1 g fs ρ=g ds:=by unfold f1;rw[h];rfl
def c1o{ms:i_}(nd:t.nd)(hH:∀o∈ms,Xl o)(hl:jQ_):Cp s2_ jU_=some false:=by
 obtain⟨ys,e,_,hr⟩:=b6x (ρ:=eN!) (bnd:=Ba 0) (ft:=λ_=>some true) (fe:=f1 (Bl t) al!) (λy=>y=D.bl true) fb_ (by
  intro d hd;obtain⟨o,ho,rfl⟩:=IY.mp hd;exact⟨[L!],true,rfl,rfl,λ_=>⟨d6!,c7f nd (hH o ho),rfl⟩⟩)
 have hc:Fz 1 [] (Go s_) F! aA! s2! jU_=some bi_:=by
  show(if(fb_).length<=big then Option.map D.lst (Ga _ _ _ eN! fb_)else none)=_;rw[IB e3!,e];rfl
 have ha:f1 Nc (Ad lP! Ah) jU_=some v!:=by
  have Y:Ad lP! Ah jU_=some [.lst ys]:=by
   exact pN hc
  rw[vO Y];show(Im ys).map ow_=_;rw[a2j hr];show some (D.bl ((AX!).all id))=_;rw[z2_]
 unfold Cp fT;rw[ha];rfl
def Hist.nx(h:fd!)(hy:gR!):∀o∈ms,Nx yy S o:=λo ho=>by
 have hc:=h.ch o.h;rw[eQ]at hc;have hm:=dS.mpr jV!;refine⟨h.op o oW!,hy o ho,?_,?_⟩
 .obtain⟨i,hi,e⟩:=LV.mp hm;have:=hc.num ((cp!).length+i) o (by rw[JT a!,Nat.add_sub_cancel_left,e8!,e]);omega
 .unfold lt;cases e:(cp!).getLast? with
  |none=>show(0:Int)<o.tm;have:=(h.op o oW!).t1;omega
  |some x=>exact(QW.mp hc.tim).2.2 x (QX e) o hm
def pM{ms:i_}(nd:t.nd)(hA:M_)(hH:fd!)(hy:gR!)(hl:jQ_)(hR:AU!):Ef t fc! M R:=by
 refine h_;refine dO (gF (c1o nd (λo ho=>hH.op o oW!) hl)) ?_;refine iF ?_;have hn:∀K:D->Mh->Prop,Df t fc! M K->Ag 2 (Df t) bL! [q!,jU!] M K:=λK h=>jN rfl rfl h;have hN:=hH.nx hy;have nn:(gQ_).Nodup:=by have:=oV!;rw[JA,JP]at this;exact oV_
 refine hn _ (a3t hA hN nn hl λM1 p ep h0 hp fr=>h_);exact tF AY_ hH hN hl hp λM' ox=>hR M' λb hb=>(ox b AZ!).trans dU!
def b8a{ms:i_}{R:v_}(nd:t.nd)(hA:M_)(hH:fd!)(hy:gR!)(hl:(fc_).length<64)(hR:∀M' bq bt ju,Bc t M' yy a ta wa ju fc_ bq bt->Vl a ta M kl ca M' bq bt->(ju=.non\/ms=[]/\ci_/\ju=out/\bq=kl/\bt=ca)->R oX_ M'):Kq t fc! M R:=by
 refine h_;show Af s7! (Af (An 2 aJ_) (Af (Bw er_ B! (EG t)) dn!)) [q!,jU!,none,none] M _;have qe:jK!<64:=by rw[IR]at hl;omega
 unfold Af;refine iF (jN rfl rfl (pM nd hA hH hy qe λM1 fr=>?_));refine aL (f:=fC I_) (d:=aX_) rfl _ ?_;show Bw er_ B! (EG t) AZ_ M1 _;have hi:Go s_ AZ_=some fb_:=yQ rfl;unfold Bw Gh;refine a5j ms _ 0 none M1 out S kl ca _ AY_ hH hl λM' bq bt ju y' cx kp hz=>?_;refine cH (aL (d:=.int oX!) (by show some (D.int (0+oX!))=_;rw[Int.zero_add])) (hR M' bq bt ju cx (λb hb ho=>?_) (hz.elim .inl λ⟨z1,z2,z3⟩=>.inr ⟨z1,by rw[z2];exact fr,z3⟩));have:=kp b AZ! ho;exact⟨this.1.trans dU!,this.2⟩
end
def b9k(p q:α->Bool)(l:R_)(h:∀x∈l,¬(p x=true/\q x=true)):(l.filter p++l.filter q).Perm A0!:=by
 have Y:=List.filter_append_perm p A0!;rw[MY,MY]at Y;have e1:(l.filter λx=>p x&&(p x||q x))=l.filter p:=LZ λx _=>by cases p x<;>simp
 have e2:(l.filter λx=>(!p x)&&(p x||q x))=l.filter q:=LZ λx hx=>by
  cases c:p x<;>cases d:q x<;>simp_all
 rw[e1,e2]at Y;exact Y
def vN:∀{kl:u!},kl.Nodup->(A0_).Perm (S.filter λo=>decide (o.h∈kl))
 |[],_=>by simp
 |k::kl,nd=>by
  rw[IV]at nd;refine((vN nd.2).append_left _).trans ?_;refine(b9k (λo:Op=>decide (o.h=k)) (λo=>decide (o.h∈kl)) S λx _ z=>?_).trans (List.Perm.of_eq (LZ λx _=>by simp[HW]));simp only[IZ]at z;exact nd.1 (z.1▸z.2)
section
variable{t:As}{M:Mh}{ρ:Ae}{yy:Int}{a ta wa:qT!}{out:D}{S:List Op}{kl:List Int}{ca:Int->Addr}
def Bc.perm(hA:M_):(A0_).Perm S:=by refine(vN hA.nk).trans (List.Perm.of_eq (KM.mpr λo ho=>?_));rw[IZ,hA.mem];intro z;have:o∈hs S o.h:=dS.mpr jV!;rw[z]at this;exact(HY this).elim
def FL(t:As):WS:=Xp 1 lH_
def a8h(hA:M_)(c6:ck M)(hS:cY_):∀(ks:u!) (σ:i_) (y:ao_) (R:o!),(∀h∈ks,h∈kl)->co!+64*i9_<100000->
  (∀y',R (.nx [q!,some (.lst ((σ++ks.flatMap (hs S)).map Op.v)),y']) M)->
  Gf b5_ ck (FL t) (ks.map D.int) [q!,ji!,y] M R
 |[],σ,y,R,_,_,hR=>⟨c6,by have:=hR y;simpa using this⟩
 |h::ks,σ,y,R,hk,hl,hR=>by
  refine ns_;show"!]";have hh:=hk h HV;show FL t A2! M _;show Xp 1 lH_ A2! M _;have i1:=(eO ht rfl).trans (by rw[eM,IB hh]);refine dM dS_ j_ i1 _ ?_;rw[lJ oG!];refine gC ?_;have hlS:(e8_).length<64:=KQ (sS S h) hS;dsimp only[_root_.List.length_cons]at hl;refine A2_;rw[<-JA];refine a8h hA c6 hS ks (σ++hs S h) (some oI_) R AS_ mN_ λy'=>?_;have:=hR y';rw[List.flatMap_cons,<-KH]at this;exact this
def gV(hA:M_)(hH:aF!)(hS:cY_):Ph (Cy t) [o_] M o0_:=λK hK=>by
 obtain⟨ep,ht⟩:=hA.tk;refine h_;show Af (Bw lI_ b5_ (FL t)) sO! [q!,some bA!,none] M _;unfold Af Bw Ja;refine dL j_ hA.ob hF2 _ ?_;rw[cE ht];refine gC ?_;have UO:jL!<64:=KQ hA.len hS;have ek:(gO_).map c_=kl.map D.int:=by rw[JZ];rfl
 rw[ek];refine a8h hA ht hS kl [] none _ (λh hh=>hh) be_ λy'=>?_;have hp:=hA.perm;have nd:=(gx_).nodup_iff.mpr hH.keys;have he:f1 Cn ee_ [q!,some (.lst A3_),y']=some o0_:=by
  show Cn [.lst A3_]=_;rw[LN,kL nd A4!,iI hp nd]
 exact cH (aL he) hK
structure OS(t:As)(M:Mh)(a o:qT!)(O:O!)(W:OW):Prop where
 hob:∃yy ta wa,M a=some o1!
 out:Bt t M o O W 1500
def b9j(hA:A5!)(hH:aF!)(hS:cY_)(hr:Tq W0 jV_ W')
  (hR:∀M' o O',OS t M' a o O' W'->Bc t M' yy a ta wa Z! S kl ca->(∀b,M b≠none->b≠a->M' b=M b)->(∀b,M b≠none->¬O' b)->R Z! M'):Cf t [o_] M R:=by
 refine h_;refine lT (jO (dM (dL j_ hA.ob hF4) j_ rfl)) ?_;refine mP ?_;have hp:(aZ_).Perm S:=aV S;have hc:∀K:D->Mh->Prop,Jn t [.lst o0!] M K->Ag 1 (Jn t) lK! [q!] M K:=λK h=>by
  show Ag 1 (Cy t) an! [q!] M _;exact gB j_ (gV hA hH hS) _ dA_
 refine hc _ (a9a ((gx_).nodup_iff.mpr hH.keys) ((gx_).nodup_iff.mpr oV!) A4! (λo ho=>(hH.op o (hp.mem_iff.mp ho)).dg) (by rw[b1h hH.keys];exact hr) λo M1 O' ho hO hw fr=>?_);have fa:=fr a oM_;refine fV rfl (fa.1.trans hA.ob) jb! hP5 ?_;have h2:Bt t (mup M1 a o1!) o O' W' 1500:=hO.keep λc hc=>mup_ne λz=>fa.2 zU_;have k:∀b,M b≠none->b≠a->mup M1 a o1! b=M b:=λb hb hn=>(m5_).trans (dU!).1;show"!]";have yk:={hA with ob:=mup_same,tk:=⟨ep,(k ta oN! λz=>by rw[z,hA.ob]at ht;rcases ht).trans ht⟩,wt:=(k wa oN_ λz=>by have:=hA.wt;rw[z,hA.ob]at this;rcases this).trans hA.wt,cl:=λh hh=>(k _ oO! λz=>by have:=hA.cl h hh;rw[z,hA.ob]at this;rcases this).trans oG!};exact cH (dL j_ mup_same hF4) (hR _ o O' ⟨⟨yy,ta,wa,mup_same⟩,h2⟩ yk k λb hb=>(dU!).2)
variable{o:qT!}{O:Addr->Prop}{W:OW}{x:D}
def qF(h:aO!):Ph (Cf t) [o_] M Z!:=λK hK=>by
 obtain⟨yy,ta,wa,hob⟩:=h.hob;refine h_;refine dO (jO (dM A6! j_ rfl)) ?_;exact cH A6! hK
def OS.nob(h:aO!)(hm:mO_):Db t.B6 m M Z!:=by exact h.out.noOb hm
def cX(h:f ρ M λd M1=>q bn! M1 R):Af or_ q ρ M R:=h
def a5c{f1 f2:j!}(Y:jW!)(h2:o1_)(k:g dR_ M K E):Cs 2 g E m1! ρ M K:=by unfold Cs Ab Ac;rw[bQ Y,cW!];exact bV!
def c4n(h:n<=2000):n<10 ^ 60:=KQ h (IQ (show 2000<10 ^ 4 by decide) (Nat.pow_le_pow_right a_ a_))
def Of(t:As)(M:Mh)(a:qT!)(W:OW)(Q:bB!):Prop:=∀K:D->Mh->Prop,(∀M' o O,OS t M' a o O W->Q M'->K Z! M')->Cf t [o_] M K
def OS.of(h:aO!):Of t M a W (·=M):=λK hK=>qF h _ (hK M o O h rfl)
def b0w(h:dV!)(hk:Q_)(hs:x∉W.its->Zd x)(hR:x∈W.its->∀M' o O,OS t M' a o O W->Q M'->R Z! M')(hE:A6_):Bh t cZ_ M R E:=by
 refine h_;refine cX (vX rfl A7_);have ht:Pm tf_ A8! M' (!decide f7_):=wO (jO (dG j_ (hA.nob oM2) j_ λK hK=>iM hA.out hk hK));by_cases c:x∈W.its
 .rw[IN c]at ht;exact dO ht (cH j_ (hR c M' o O hA hq))
 .rw[IG c]at ht;unfold Af;exact lT ht ⟨⟨⟨x,rfl,hs c⟩,trivial⟩,λ_=>hE c M' hq⟩
end
section
variable{t:As}{M:Mh}{o r f p:qT!}{O:Addr->Prop}{W:OW}{B:Nat}{R:D->Mh->Prop}{pre xs:List D}{x:D}{k:MK}
def vB(h:im!)(hl:f_<5000)(hR:R H! M):Gd t [.fn r] M R:=by
 obtain⟨kf,ef,kp,ep,hf,hp,K,_⟩:=h.dc;have nx:∀{u v},xs=u++v->kget kf (lst .non u)=some ij!:=λ{u v} e=>by
  have nd:=K.nd;rw[e]at nd;rw[K.f,e];exact a4i (mt!).1
 have step:∀(rest done:d!),xs=done++rest->∀R':Fl->Mh->Prop,R' (.nx [f1!,some H!,some .non]) M->
   Fe r6! r7! (rest.length+1) [f1!,some (.lst done),some (rest.headD .non)] M R':=by
  intro rest
  induction rest with
  |nil=>
   intro done e1 R' jb;rw[JC]at e1;rw[e1]at jb;simpa[Fe,Ck,fT,f2,Aa,fC,Du,Jl]using jb
  |cons y rest ih=>
   intro done e1 R' jb;have hy:y∈xs:=by rw[e1];simp
   have y0:y≠.non:=λz=>(u8!).1 (z▸hy);obtain⟨k,ek⟩:=K.hk y hy;have oo:=nx (u:=done++[y]) (v:=rest) A9!;rw[xY]at oo;have hb:done.length<big:=by rw[e1]at hl;simp at hl;unfold big;omega
   have:=ih (done++[y]) A9! R' jb;rw[IW,Fe];simpa[Ck,fT,f2,Aa,fC,Du,sM y0,Af,Vp,Ed,Xy,hb,An,w2,wl,Au,Gx,h.ob,a7t,Ce,hf,ek,oo]using this
 have oo:kget kf .non=some (xs.headD .non):=nx (u:=[]) rfl;refine h_;dsimp only[Lc,Af,Vp];simp[-List.headD_eq_head?_getD,Ed,Wc,Ah,An,w2,wl,Au,Gx,Aa,fC,h.ob,a7t,Ce,hf,oo,Cg,Jb];refine⟨f_+1,step xs [] rfl _ ?_⟩;simpa[Aq,wl,Aa]using hR
nonrec def shn(W:OW)(x:D):List dz_:=(a8_).filter (·.2.2)
def pP(hO:aD_)(w:Ct W)(hx:a0!)(hB:B<4000)(hR:R (.lst ((dV_).map c_)) M):Br t dD! M R:=by
 obtain⟨ad,rfl,hO,hI⟩:=hO;obtain⟨k3,e3,h3,_,q3⟩:=hI.dirV (b:=false);obtain⟨_,h6,k6,e6,rfl,_,q6⟩:=hI.ty .hid trivial;obtain⟨k,hk⟩:=(w.nm x hx).key;obtain⟨hr,lt⟩:=hI.row (b:=false) hx;have lt:=lt;have hr:Io t M _ _ _ mz!:=hr;refine h_;have hx1:∀R',w2 Ce ej_ q_ o3_ M R'=R' (.fn (ad (.row x false))) M:=by
  intro R';simp[w2,wl,Au,Gx,hI.ob,oF3,Ce,h3,hk,(q3 x).1 hx,Ed,Aa]
 show Aq (Bb 1 [0] _ _ _ _) o3_ M _;simp only[Aq,Bb,Bo,Ay,hx1,Ac];refine⟨by simp only[Db,hr.ob,rM.2.2.1,and_self],rfl,?_⟩;refine vB hr (KQ lt a!) ?_;refine⟨by unfold big;exact JG lt a!,?_⟩;refine cM (λd=>!(kget k6 d).isSome) id trivial _ _ bz! ?_
 .show"!J";obtain⟨kq,ou⟩:=(w.sg x hx q hq).key;refine⟨A9_,rfl,jt_,yZ_⟩;simpa[wT,w2,wl,Au,Gx,Aa,Ed,hI.ob,oF6,Jm,h6,ou]using hK
 .have e:((mz!).filter λd=>!(kget k6 d).isSome).map id=(dV_).map c_:=by
   rw[RF,NV];congr 1;refine LZ λq hq=>?_;show(!(Ba!).isSome)=q.2.2;cases c:q.2.2 with
   |false=>rw[(q6 q.1).mpr ⟨x,hx,q,hq,rfl,c⟩];rfl
   |true=>
    cases z:(Ba!).isSome with
    |false=>rfl
    |true=>
     obtain⟨y,hy,q',bf,e1,e2⟩:=(q6 q.1).mp z;cases w.su y hy x hx q' bf q hq e1;have UQ:q'.2.2=false:=e2;rw[sU (b:=q'.2) (w.snd x hx) (by rw[<-e1];exact bf) hq,c]at UQ;exact Bool.noConfusion UQ
  rw[e];exact hR
def a2u(hO:aD_)(w:Ct W)(hx:a0!)(hB:B<4000)(hl:jX_)(hj:o5!)(hR:R v M):Eu t dD! M R:=by
 obtain⟨ad,rfl,_,hI⟩:=id hO;obtain⟨_,h5,k5,e5,rfl,_,q5⟩:=hI.ty .wri trivial;refine h_;show Aq (No _ (Bb 1 [0] sm! _ _ _)) o3_ M _;dsimp only[Aq,No,Bb,Bo];refine dG j_ (hI.noOb cP_) j_ (λK hK=>pP hO w hx hB hK) _ ?_;have ls:(dV_).length<=(a8_).length:=NS _ _;refine ff_;have q5:∀q∈shn W x,kget k5 q.1=some q.2.1:=λq hq=>q5 _ _ ⟨x,hx,q,(o6!).1,rfl,rfl⟩;refine cM gI! (λd=>(kget k5 d).getD .non) trivial _ _ bz! ?_
 .show"!J";obtain⟨kq,ou⟩:=(w.sg x hx q (o6!).1).key;refine⟨A9_,rfl,gI_,o6_⟩;simpa[w2,wl,Au,Gx,Aa,Ed,hI.ob,oF5,Ce,h5,ou,q5 q hq]using hK
 .rw[jE!,JZ,LK (g:=o4!) λq hq=>by show(kget k5 q.1).getD .non=_;rw[q5 q hq];rfl,hj];exact hR
def a2g:∀(l:bO_),(∀q∈l,∃c:Nat,q.2.1=.str Y_)->∃cs:List Nat,l.map o4!=cs.map Ve/\cO!=ab_
 |[],_=>⟨[],rfl,rfl⟩
 |q::l,h=>by
  obtain⟨cs,e1,e2⟩:=a2g l λx hx=>h x bt_
  obtain⟨c,e⟩:=h q HV;exact⟨c::cs,by rw[IJ,IJ,e1,e];rfl,by rw[IW,IW,e2]⟩
def b5c(hw:eQ!)(hx:a0!)(hl:jX_):∃s,Pk (.str "") o4_=some cg_:=by
 obtain⟨cs,e1,e2⟩:=a2g dV_ λq hq=>hw.chr x hx q (o6!).1
 have ls:(dV_).length<=(a8_).length:=NS _ _;rw[e1];refine⟨Txt.join gk_ nl_,?_⟩;show((Np (cs.map Ve)).bind λys=>if(iU_).sum+ad_*(gk_).length<=big then some (D.str (Txt.join gk_ ys))else none)=_;rw[uF];show f8!=_;rw[IB (by rw[a5l,b0j];unfold big;omega)]
end
section
variable{M:Mh}{R:D->Mh->Prop}{w:qT!}{O:Addr->Prop}{W:OW}{x v:D}{k:MK}
def tI(h:ax!)(hx:a0!)(hk:Q_)(hl:jX_)(hj:o5!):Ph Fk [.fn w,x] M v:=λK hK=>by
 refine h_;show Aq (No _ (Bb 1 [] ul! _ _ _)) jZ! M _;unfold Aq No Bb Bo;refine c1q (ρ:=jZ!) h rfl rfl hk hx _ ff_;refine cM (λd=>match d with|.tup [_,_,.bl b]=>b|_=>false) (λd=>match d with|.tup [_,c,_]=>c|_=>.non) trivial _ _ bz! ?_
 .show"!J";exact⟨o7_,rfl,λK hK=>gF (ρ:=o7_) rfl _ hK,λ_ K hK=>aL (ρ:=o7_) rfl _ hK⟩
 .rw[NV,JZ];show Ed (Pk (.str gk_) o4_) _;rw[hj];exact hK
end
structure Wd where
 its:List D
 txt:D->List dz_
 num:D->List D
 ch:D->List D
def Xj(W:OW):Wd:=⟨W.its,W.txt,W.num,chl W.rows⟩
def b8d{W V:OW}(e:Xj W=Xj V):Ls W=Ls V:=by have Y:W.its=V.its:=congrArg Wd.its e;have h2:W.txt=V.txt:=congrArg Wd.txt e;have h3:W.num=V.num:=congrArg Wd.num e;have h4:chl W.rows=chl V.rows:=congrArg Wd.ch e;unfold Ls Kn;rw[Y,h2,h3,h4];congr 1;exact funext λi=>funext λp=>propext (by rw[<-gQ,h4,gQ])
def b7a:chl cL! x=(chl rows x).filter λc=>decide (c≠i):=by unfold chl wo;rw[NV,MY,MY];congr 1;exact LZ λq _=>Bool.and_comm _ _
nonrec def hC(i p s:D)(ch:D->List D)(x:D):List D:=if p=x then Lf i s ((ch x).filter λc=>decide (c≠i))else(ch x).filter λc=>decide (c≠i)
def c5c(h:Qv r i p s r')(nd:(r.map c_).Nodup):chl r'=hC i p s (chl r):=funext λx=>by
 unfold hC;split
 .rename_i c;subst c;rw[h.chl_same nd,b7a]
 .rename_i c;rw[h.chl_ne c,b7a]
def HI(l:d!)(a:D):Prop:=a∈l\/a=root\/a=binn
nonrec def sT:List (Str×(List D->Wd->D->Wd)):=[("put",λr W n=>match r with
 |[a,b]=>⟨W.its++[n],vh!,vh_,hC n (if HI W.its a then a else binn) b W.ch⟩
 |_=>W),("write",λr W n=>match r,n with
 |[a,b,.str s],.tup [.int h,.int m]=>if a∈W.its then{W with txt:=λx=>if x=a then wrT b eO! bu! else W.txt x}else W
 |_,_=>W),("set",λr W _=>match r with
 |[a,.int p,.int v]=>if a∈W.its then{W with num:=λx=>if x=a then(eP!).set p.toNat iW! else W.num x}else W
 |_=>W)]
nonrec def sF(W:Wd)(n d:D):Wd:=match d with
 |.tup (.str k::r)=>match sT.lookup k with
  |some f=>f r W n
  |none=>W
 |_=>W
def c1s{W W1:OW}(h:Uk W n d W1)(nd:(my_).Nodup):Xj W1=sF (Xj W) n d/\(W1.rows.map c_).Nodup:=by
 cases h with
 |put _ _ g=>
  exact⟨(congrArg (Wd.mk _ _ _) (c5c g nd)).trans ar!,g.nd nd⟩
 |wrt _ _ _ e=>subst e;exact Bh_
 |set _ _ _=>exact Bh_
def c1u{os:i_}(h:Tq W os W1):(my_).Nodup->Xj W1=os.foldl (λp o=>sF p o.nm o.d) (Xj W):=by
 induction h with
 |nil=>exact λ_=>rfl
 |cons h _ ih=>exact λnd=>by rw[OV,<-(c1s h nd).1];exact ih (c1s h nd).2
section
variable{t:As}{M M':Mh}{yy:Int}{a ta wa:qT!}{S:List Op}{kl:List Int}{ca:Int->Addr}{W V:OW}
def b1o{os:i_}(Y:Tq W0 os W)(h2:Tq W0 os V):Xj W=Xj V:=(c1u Y KU).trans (c1u h2 KU).symm
end
def yS:∀(xs:u!) (a:Int),a<=xs.foldl max a/\∀x∈xs,x<=xs.foldl max a
 |[],a=>⟨LU _,λx h=>by exact(cR!).elim⟩
 |y::xs,a=>by
  obtain⟨Y,h2⟩:=yS xs (max a y);rw[OV];refine⟨p_,aC_⟩;obtain rfl|hx:=HW.mp hx
  .omega
  .exact h2 x hx
def a7s:∀(xs:u!) (a:Int),xs.foldl max a=a\/xs.foldl max a∈xs
 |[],a=>.inl rfl
 |y::xs,a=>by
  rw[OV,HW];obtain z|z:=a7s xs (max a y)
  .rw[z];omega
  .exact .inr cK!
def Zh:List Int->Int:=Ws 0 none
def b4a:∀{l:u!},l≠[]->Zh l∈l
 |[],h=>absurd rfl h
 |x::xs,_=>HW.mpr (a7s xs x)
def xO:∀{l:u!} {x:Int},x∈l->x<=Zh l
 |y::xs,x,h=>by
  obtain rfl|h:=HW.mp h
  .exact(yS xs x).1
  .exact(yS xs y).2 x h
def Tg(S:i_):Int:=Zh (S.map Op.tm++[0])
section
variable{t:As}{M:Mh}{ρ:Ae}{yy:Int}{a ta wa:qT!}{out:D}{S:List Op}{kl:List Int}{ca:Int->Addr}{W:OW}{x:D}
def a3x(h:o∈S):o.tm<=Tg S:=xO (IP _ (IU h))
def a3w(h0:0<=B)(h:∀x∈S,x.tm<=B):Tg S<=B:=by
 obtain z|z:=IM.mp (b4a (l:=S.map Op.tm++[0]) c!)
 .obtain⟨o,ho,e⟩:=IY.mp z;have:=h o ho;show Zh _<=B;omega
 .have h3:Tg S=0:=II.mp z;omega
def c7u(hh:hs S h≠[]):∃o∈S,o.tm=lt S h:=by
 unfold lt;cases e:(e8_).getLast? with
 |none=>exact absurd oK! hh
 |some o=>exact⟨o,(dS.mp (QX e)).1,rfl⟩
def c7v(hH:aF!)(ho:o∈S):o.tm<=lt S o.h:=by
 have hm:=dS.mpr jV!;unfold lt;cases e:(cp!).getLast? with
 |none=>rw[OF.mp e]at hm;exact(HY hm).elim
 |some x=>
  obtain⟨l,hl⟩:=List.getLast?_eq_some_iff.mp e;have hp:=(hH.ch o.h).tim;rw[hl]at hm hp;obtain z|z:=IM.mp hm
  .exact RZ ((QW.mp hp).2.2 o z x c!)
  .rw[dW_];exact LU _
def a1n(f:α->Int):∀l:List α,Kh Bn_=some ff!
 |[]=>rfl
 |x::l=>by
  show(Kh Bn_).map (f x::·)=_;rw[a1n f l];rfl
def c0a(h:l=[]->k=some 0):Wu k [.lst (l.map D.int)]=some Bp!:=by
 show(Kh (l.map λh=>D.int (id h))).bind _=_;rw[a1n,RF];show(if l=[]then k.map D.int else some Bp!)=_;split
 .rename_i z;rw[h z,z];rfl
 .rfl
def c7p:0<=Tg S:=xO (HX _ iM!)
def xM(hA:M_)(hH:aF!)(hl:cY_):Ph (Ha t) [o_] M (.int (1+Tg S)):=λK hK=>by
 obtain⟨ep,ht⟩:=hA.tk;have hk:∀x∈S,x.h∈kl:=λx hx=>(hA.mem x.h).mpr λy=>by have hm:x∈hs S x.h:=dS.mpr ⟨hx,rfl⟩;rw[y]at hm;exact(HY hm).elim
 have e:Zh pb_=Tg S:=by
  have z:kl.map (lt S)=[]\/∃o∈S,o.tm=Zh pb_:=(Classical.em _).imp_right λkn=>by
   obtain⟨h,hh,e⟩:=IY.mp (b4a kn);rw[<-e];exact c7u ((oF!).mp hh)
  refine Int.le_antisymm ?_ ?_
  .obtain z|⟨o,ho,e⟩:=z
   .rw[z];exact c7p
   .rw[<-e];exact a3x ho
  .refine a3w ?_ λo ho=>Int.le_trans (c7v hH ho) (xO (IU (hk o ho)));obtain z|⟨o,ho,e⟩:=z
   .rw[z];exact LU _
   .have:=(hH.op o ho).t1;omega
 refine h_;have hc:Pu tp_ [q!] M (.lst ((pb_).map D.int)):=λK hK=>by
  unfold Bb Ja;refine dL j_ hA.ob hF2 _ ?_;rw[cE ht];have UO:jL!<64:=KQ hA.len hl;refine gC A2_;refine cM gI! (λd=>match d with|.int h=>.int (lt S h)|_=>.non) ht _ _ bz! ?_
  .rw[JZ]at hd;obtain⟨h,_,rfl⟩:=IY.mp hd;exact⟨[oJ!,q!],rfl,gI_,λ_ K hK=>dH j_ j_ (nI hA) _ hK⟩
  .rw[jE!,JZ,JZ];rw[JZ]at hK;exact hK
 exact cH (dM j_ (uP hc ((c0a λ_=>rfl).trans (by rw[e]))) rfl) hK
def zI{f1 f2:WE}(Y:Bp_)(h2:Pu f2 ρ M y)(k:g dd! M K):Ag 2 g yn_ ρ M K:=by exact Y _ (h2 _ bV!)
def wN(h:jg!)(h2:Pu g ρ M e):Pu (Sk (Ab f (Ab g Ac))) ρ M (.tup [d,e]):=λK hK=>by
 exact h _ (h2 _ ⟨nQ!,hK⟩)
def c0b(hA:M_)(hH:aF!)(hl:bB_<63)
  (hR:∀M' bq bt,Bc t M' yy a ta wa .non (S++[Bq_]) bq bt->Vl a ta M kl ca M' bq bt->R j2_ M'):Fh t [o_,d] M R:=by
 have hT:=xM hA hH a!;refine h_;refine fH (wN Br! (dM (dG j_ jM! Br! jM_) j_ (d:=j2!) (by rw[Int.add_comm];rfl))) ?_;have hv:Pu tr! [q!,some d,some j2_] M (Op.mk yy (1+fg_) (1+Tg S) d).v:=dM j_ (wN (gB j_ hT) j_) rfl;refine zX (zI j_ hv (wE hA a! λM' bq bt cx hK=>?_));exact cH j_ (hR M' bq bt cx hK)
def b7j{f1 f2 f3 f4:j!}(Y:jW!)(h2:o1_)(h3:Bs_)(h4:xi_)(k:g [b,c,d,e] M K E):Cs 4 g E nq_ ρ M K:=by unfold Cs Ab Ac;rw[bQ Y,cW!,bQ h3,bQ h4];exact bV!
def sK(h:Em x):Zd x:=by
 obtain rfl|rfl|⟨a,b,rfl,Y,h2,h3,h4⟩:=h
 .show _<=1000;decide+kernel
 .show _<=1000;decide+kernel
 .exact⟨c4n a!,c4n a!⟩
variable{W:OW}
def AT(S:i_)(yy:Int)(d:D):Op:=Bq_
def a1l:∀{xs:d!} {k:Nat} {h:Int} {x:D},(k:Int)<=h->xs[(h - k).toNat]?=some x->kget ((xs.zipIdx k).map λq=>fv_) oI_=some x
 |[],k,h,x,_,e=>by simp at e
 |y::xs,k,h,x,hk,e=>by
  rw[List.zipIdx_cons,IJ];unfold kget;by_cases c:(k:Int)=h
  .rw[IB (by rw[c])];rw[<-c,Int.sub_self]at e;exact e
  .rw[IF λz=>c oE_];refine a1l a! ?_;rw[show(h - (k:Int)).toNat=(h - yS!).toNat+1 by omega,List.getElem?_cons_succ]at e;exact e
end
section
variable{t:As}{M:Mh}{ρ:Ae}{a:qT!}{W:OW}{x:D}
def BF(W:OW)(x:D):List D:=(dV_).map c_
def kM(h:wF_):fT f ρ=some b:=by unfold fT;rw[h];rfl
def oMs:List.lookup (Str.ofString "signs_of") a9_=none:=by kernel_rfl
def b7c{k:Nat}{f g h:j!}(Y:f ρ=some I_)(h2:g ρ=some I_)(h3:h ρ=some dM_):Cp (fT (Ea Kt Kt f g h)) ρ=some false:=by
 unfold Cp;rw[kM (b:=true)]
 .rfl
 .unfold Ea;rw[Y,h2,h3];show some (D.bl (decide ((0:Int)<=(k:Nat))))=_;rw[IN a!]
def a2w{R:v_}{E:EK}{Q:bB!}(h:dV!)(wi:Ct W)(hx:Em x)(hR:∀M',Q M'->R (.lst j3_) M')(hE:pd_):Gz t [o_,x,aX_] M R E:=by obtain⟨k,hk⟩:=eP hx;refine h_;show Af tz_ tB_ [q!,aF_,e4_,none] M _;refine cX ?_;unfold Ay;refine a5c (b:=o_) (c:=x) rfl rfl (b0w h hk (λ_=>sK hx) (λhi M' o O hA hq=>?_) λc M' hq=>hE M' hq);refine⟨hA.nob oMs,?_⟩;unfold Ab Ac;rw[bQ (f:=Aa 1) (d:=x) rfl];refine⟨rfl,pP hA.out wi hi a_ ?_⟩;exact dO (gF (b7c (k:=(j3_).length) rfl rfl rfl)) (cH (aL (d:=.lst j3_) rfl) (hR M' hq))
end
section
variable{t:As}{M:Mh}{ρ:Ae}{a:qT!}{W:OW}{Q:Mh->Prop}{E:EK}{x y:D}
def b7v{R:v_}(h:dV!)(hk:Q_)(hs:Zd x)(hR:∀M' o,Q M'->R Z! M')(hE:pd_):Ee t cZ_ M R E:=by
 refine h_;show Af lU! tf! [q!,aF_,none] M _;refine cX (vX (a:=o_) rfl A7_);have ht:Pm te! A8! M' (!decide mP!):=wO (jO (dG fh! (hA.nob oM1) a0_ λK hK=>yR hA.out hk hK));by_cases c:Kn W x
 .rw[IN c]at ht;exact dO ht (cH fh! (hR M' o hq))
 .rw[IG c]at ht;unfold Af;exact lT ht ⟨⟨⟨x,rfl,hs⟩,trivial⟩,λ_=>hE M' hq⟩
def a7w{f:WE}{q:WS}{R:o!}(h:v8!):Af (Az f) q ρ M R:=h
def c6x{R:v_}(h:dV!)(hk:Q_)(hs:Zd x)(hR:∀M',Q M'->Fh t [o_,By_] M' R)(hE:pd_):Ql t [o_,x,y] M R E:=by refine h_;refine a7w (a5c (b:=o_) (c:=x) rfl rfl (b7v h hk hs (λM' o hq=>?_) hE));exact zI (x:=o_) (y:=By_) j_ j_ (hR M' hq)
def zH{g:Uj}{f1 f2 f3:j!}{K:v_}(Y:jW!)(h2:o1_)(h3:Bs_)(k:g [b,c,d] M K E):Cs 3 g E nq! ρ M K:=by unfold Cs Ab Ac;rw[bQ Y,cW!,bQ h3];exact bV!
def b9c{i n:Int}{R:v_}(h:dV!)(hk:Q_)(hs:Zd x)(hi:Cb [aG_]=some v!)(hR:x∈W.its->∀M',Q M'->Fh t [o_,Bz_] M' R)(hE:A6_):Lh t BA_ M R E:=by
 refine h_;refine a7w (zH (b:=o_) (c:=x) (d:=aG_) rfl rfl rfl h_);have ht:Cp lV_ BB_=some false:=by
  have e:f1 Cb bH_ BB_=some v!:=hi;unfold Cp fT;rw[e];rfl
 refine dO (gF ht) ?_;refine a5c (b:=o_) (c:=x) rfl rfl (b0w h hk (λ_=>hs) (λhx M' o O _ hq=>?_) hE);exact zI (x:=o_) (y:=Bz_) j_ j_ (hR hx M' hq)
end
def Rn(S:i_)(W:OW):Prop:=Tq W0 jV_ W
structure Hd(t:As)(M:Mh)(yy:Int)(a:qT!)(S:i_)(X:O!):Prop where
 hd:∃ta wa out kl ca,Bc t M yy a ta wa out S kl ca/\(∀b,Yq a ta kl ca b\/b=wa->X b)/\(out=.non\/∃o O W,out=.fn o/\OS t M a o O W/\Rn S W/\∀b,O b->X b)
 hH:Hist S
 hl:bB_<63
 live:∀b,X b->M b≠none
structure Nl(M:Mh)(X:O!)(M':Mh)(X':O!):Prop where
 kp:∀b,M b≠none->¬X b->M' b=M b
 nw:∀b,X' b->X b\/M b=none
section
variable{t:As}{M M1 M2:Mh}{ρ:Ae}{yy:Int}{a:qT!}{S:List Op}{X X1 X2:Addr->Prop}
def Nl.trans(Y:gV!)(h2:Nl M1 X1 M2 X2):Nl M X M2 X2:=by
 refine⟨λb hb hx=>?_,λb hx=>?_⟩
 .have e:=Y.kp b hb hx;exact(h2.kp b Ar! λz=>(Y.nw b z).elim hx hb).trans e
 .obtain z|z:=h2.nw b hx
  .exact Y.nw b z
  .by_cases c:X b
   .exact .inl c
   .by_cases d:M b=none
    .exact .inr d
    .rw[Y.kp b d c]at z;exact absurd z d
def Nl.of(k:pf_):Nl M X M1 X:=⟨λb hb _=>k b hb,cV!⟩
def OS.keepO{O:O!}(h:aO!)(ka:M1 a=M a)(k:∀b,O b->M1 b=M b):OS t M1 a o O W:=by obtain⟨y,p,q,hob⟩:=h.hob;exact⟨⟨y,p,q,ka.trans hob⟩,h.out.keep k⟩
def Hd.keep(h:a1!)(k:∀b,X b->M1 b=M b):Hd t M1 yy a S X:=by obtain⟨ta,wa,out,kl,ca,hA,hx,ho⟩:=h.hd;refine⟨⟨ta,wa,out,kl,ca,hA.keepO λb hb=>k b (hx b hb),hx,ho.imp id ?_⟩,h.hH,h.hl,λb hb=>by rw[k b hb];exact h.live b hb⟩;rintro⟨o,O,W,e,hO,hr,hb⟩;exact⟨o,O,W,e,hO.keepO (k a (hx a oF_)) λb z=>k b (hb b z),hr,hb⟩
def Hd.keepA(h:a1!)(k:pf_):Hd t M1 yy a S X:=h.keep λb hb=>k b (h.live b hb)
def Bc.hd{kl:u!}{ca:co_}(hA:A5!)(hH:aF!)(hl:bB_<63):Hd t M yy a S λb=>Yq a ta kl ca b\/b=wa:=
 ⟨⟨ta,wa,.non,kl,ca,hA,λb h=>h,c6_⟩,hH,hl,λb h=>hA.live h⟩
def Vl.chg{kl bq:u!}{ca bt:co_}(h:Vl a ta M kl ca M1 bq bt)(hx:∀b,Yq a ta kl ca b\/b=wa->X b):Nl M X M1 λb=>Yq a ta bq bt b\/b=wa:=by
 refine⟨λb hb hn=>(h b hb λz=>hn (hx b bl!)).1,bE_⟩;by_cases c:X b
 .exact .inl c
 .by_cases d:M b=none
  .exact .inr d
  .obtain z|z:=hb
   .exact absurd z (h b d λz=>c (hx b bl!)).2
   .exact absurd (hx b cK!) c
def c5b(rows:r!)(i p s:D):∃r,Qv rows i p s r:=by
 by_cases h:s∈chl cL! p
 .obtain⟨u,v,e⟩:=List.append_of_mem (gQ.mp h);exact⟨_,u++[cd!],v,p2!,rfl,.inr nk!⟩
 .exact⟨_,[],wo rows i,rfl,rfl,.inl ⟨h,rfl⟩⟩
def c2v(W:OW){h m:Int}(hd:DG d)(hu:Ey d=none):∃W',Uk W iW_ d W':=by
 cases hd with
 |put Y h2=>
  obtain⟨r,g⟩:=c5b W.rows iW_ _ _;exact⟨_,.put Y h2 g⟩
 |write Y h2 _ _ h3=>exact⟨_,.wrt Y h2 h3 rfl⟩
 |set Y h2 h3 _=>exact⟨_,.set Y h2 h3⟩
 |undo Y=>exact absurd hu BF_
 |redo Y=>exact absurd hu BF_
def b1t:∀(os:i_) (W:OW) (pre:d!),Qt W pre->(∀o∈os,DG o.d/\Ey o.d=none)->(∀o∈os,o.nm∉pre)->(jb_).Nodup->∃W',Tq W os W'/\∃ue,Qt W' ue
 |[],W,pre,hw,_,_,_=>⟨W,.nil,pre,hw⟩
 |o::os,W,pre,hw,hd,hp,nd=>by
  rw[IJ,IV]at nd;have ho:=hd o HV;obtain⟨W1,s1⟩:=c2v W (h:=o.h) (m:=o.n) ho.1 ho.2;have hn:=hp o HV;obtain⟨W',r,g1⟩:=b1t os W1 _ (a2v s1 hw hn) eS_ (λx hx z=>by
   obtain z|z:=IM.mp z
   .exact hp x bt_ z
   .exact nd.1 (by rw[<-show x.nm=o.nm from II.mp z];exact IU hx)) nd.2
  exact⟨W',.cons s1 r,g1⟩
end
def Hist.rn{S:i_}(h:aF!):∃W,Rn S W/\Ct W:=by have hp:(aZ_).Perm S:=aV S;have UR:(jV_).Sublist aZ_:=NI;obtain⟨W,hr,_,hw⟩:=b1t jV_ W0 [] b7p (λo ho=>⟨(h.op o (hp.mem_iff.mp (UR.subset ho))).dg,(KB (ph!).2).1⟩) (λ_ _ z=>by cases z) (((gx_).nodup_iff.mpr h.names).sublist (UR.map _));exact⟨W,hr,hw.inv⟩
def Lk(t:As)(M:Mh)(yy:Int)(a:qT!)(S:i_)(X:O!)(M':Mh):Prop:=∃X',Hd t M' yy a S X'/\Nl M X M' X'
def Md(t:As)(M:Mh)(yy:Int)(a:qT!)(S:i_)(X:O!)(M':Mh):Prop:=∃X' d,Xl pi!/\Hd t M' yy a (S++[AT S yy d]) X'/\Nl M X M' X'
structure Vn(yy:Int)(S:i_):Prop where
 y:yy=0\/yy=7\/yy=15
 t:∀o∈S,o.tm<=900
 l:bB_<60
section
variable{t:As}{M M1:Mh}{ρ:Ae}{yy:Int}{a:qT!}{S:List Op}{X:Addr->Prop}{W:OW}{d x y:D}{R:D->Mh->Prop}{E:EK}
def Hd.of(h:a1!)(hr:Rn S W):Of t M a W (Lk t M yy a S X):=λK hK=>by
 obtain⟨ta,wa,out,kl,ca,hA,hx,ho⟩:=h.hd;have hl:=h.hl;obtain rfl|⟨o,O,W1,rfl,hO,hr1,hb⟩:=ho
 .refine b9j hA h.hH a! hr λM' o O hO cx k n=>hK M' o O hO ⟨λb=>X b\/O b,⟨⟨ta,wa,bp_,kl,ca,cx,λb z=>.inl g3_,.inr ⟨o,O,W,rfl,hO,hr,λb z=>.inr z⟩⟩,h.hH,hl,is!⟩,λb hb hn=>k b hb λz=>hn (by rw[z];exact hx a oF_),λb z=>z.imp id λz=>QA λc=>n b c z⟩;obtain z|z:=z
  .by_cases c:b=a
   .rw[c,cx.ob];exact KL _
   .rw[k b BI! c];exact h.live b z
  .exact hO.out.live z
 .have vq:OS t M a o O W:=⟨hO.hob,by have:=hO.out;unfold Bt at this ⊢;rw[b8d (b1o hr hr1)];exact this⟩;exact qF vq _ (hK M o O vq ⟨X,h,.of λ_ _=>rfl⟩)
def c8p(hF:bC!)(hd:DG d):Xl pi!:=by have Y:=a3w (S:=S) (B:=900) a_ hF.t;have h2:0<=Tg S:=xO (HX _ iM!);have h3:=sS S yy;have h4:=hF.l;exact⟨hF.y,show 1<=1+Tg S by omega,show 1+Tg S<=1000 by omega,show(1:Int)<=1+fg_ by omega,show(1:Int)+fg_<=2000 by omega,hd⟩
def Hd.make(h:a1!)(hF:bC!)(hd:DG d)(hR:BI_):Fh t [o_,d] M R:=by obtain⟨ta,wa,out,kl,ca,hA,hx,ho⟩:=h.hd;have hl:=hF.l;have hf:=c8p hF hd;refine c0b hA h.hH h.hl λM' bq bt cx kp=>hR M' ⟨_,d,hf,cx.hd (h.hH.snoc hf (show(1:Int)+fg_=_ by rw[Int.add_comm]) λx hx _=>?_) (by rw[IR];show bB_+1<63;omega),kp.chg hx⟩;have:=a3x hx;show x.tm<1+Tg S;omega
def Lk.make(h:BJ!)(hF:bC!)(hd:DG d)(hR:BI_):Fh t [o_,d] M1 R:=by obtain⟨X1,Y,c1⟩:=h;exact Y.make hF hd λM' ⟨X2,d2,hf,h2,c2⟩=>hR M' ⟨X2,d2,hf,h2,c1.trans c2⟩
def Vn.nm(hF:bC!):Fd j2_:=by have Y:=hF.y;have h2:=sS S yy;have h3:=hF.l;exact⟨_,_,rfl,p_,p_,p_,p_⟩
def Hd.put(h:a1!)(hF:bC!)(hx:Em x)(hy:Pg y)(hR:∀v M',Fd v->Md t M yy a S X M'->R v M')(hE:pi_):Ql t [o_,x,y] M R E:=by obtain⟨W,hr,wi⟩:=h.hH.rn;obtain⟨k,hk⟩:=eP hx;exact c6x pj! hk (sK hx) (λM1 q=>q.make hF (.put hx hy) λM' m=>hR _ M' hF.nm m) hE
def Hd.place{i n:Int}(h:a1!)(hF:bC!)(hx:Em x)(i0:0<=i)(i3:i<=3)(hn:n.natAbs<10 ^ 60)(hR:j5_)(hE:pi_):Lh t BA_ M R E:=by obtain⟨W,hr,wi⟩:=h.hH.rn;obtain⟨k,hk⟩:=eP hx;exact b9c pj! hk (sK hx) (yX i0 i3) (λ_ M1 q=>q.make hF (.set hx i0 i3 hn) λM' m=>hR _ M' m) λ_ M1 q=>hE M1 q
end
section
variable{t:As}{M M1 M2:Mh}{ρ:Ae}{yy:Int}{a p:qT!}{S:List Op}{X X1 X2:Addr->Prop}{W:OW}{d x y:D}{R:D->Mh->Prop}{E:EK}{tx:Str}
def Nl.fresh(c:gV!)(h:M1 p=none):M p=none\/X p:=by
 by_cases z:M p=none
 .exact .inl z
 .by_cases q:X p
  .exact .inr q
  .rw[c.kp p z q]at h;exact absurd h z
def Nl.cell{v:Cq}(c:gV!)(h:M p=none\/X p):Nl M X (mup M1 p v) X1:=⟨λb hb hn=>(mup_ne λz=>by subst z;exact h.elim hb hn).trans (c.kp b hb hn),c.nw⟩
def c2z{i:Nat}{q:WS}{R:o!}(k:∀p,M p=none->q (ρ.set i (some x!)) (mup M p bA!) R):Af (An i ep_) q ρ M R:=⟨aW_,k⟩
def qW{f:aV!}{b:cf_}{q q2:WS}{R:o!}(h:vf!)(k:Gf b W! q ds ρ M λr M1=>match r with|.nx au=>q2 au M1 R|.rt d=>R ae_ M1):Af (Bw (Gh f) b q) q2 ρ M R:=by unfold Af Bw Gh;rw[h];exact k
def c6d(h:Oe tx=true){f:j!}(hf:BJ_):Cp (fT (f1 Nc BK!)) ρ=some false:=by
 unfold Oe at h;rw[JD,IZ]at h;have hl:c1_<=big:=by unfold big;omega
 have hc:=sZ tx.cps.toList h.2;have hz:BK_<=big:=by simpa[Str.length]using hl
 have hi:Pe f ρ=some BL!:=by
  unfold Pe;rw[hf];rfl
 have uh:Fz 1 [] (Pe f) F! aA! b1! ρ=some (.lst (tx.cps.toList.map λ_=>.bl true)):=by
  unfold Fz;rw[hi];show(if(BL!).length<=big then Option.map D.lst (Ga F! aA! b1! eN! (tx.cps.toList.map λc=>.str Y_))else none)=_;rw[IK,IB hz,hc];rfl
 have ha:f1 Nc BK! ρ=some v!:=by
  rw[vO (pN uh)];show(Im (tx.cps.toList.map λ_=>D.bl true)).map ow_=_;rw[tG];simp
 unfold Cp;rw[kM ha];rfl
def c8z{f:j!}(hf:BJ_)(Y:1<=c1_)(h2:pk!):Ol A_ (f1 Bm nh!) a6! ρ=some [aX_]:=by
 have e:f1 Bm nh! ρ=some (.int j6_):=by
  rw[vO (pN hf)];show(if c1_<=big then some (D.int j6_)else none)=_;rw[IB bn_]
 unfold Ol;rw[e];show(if _ then some (Py 0 16 (szS 0 j6_ 16))else none)=_;rw[aj!];have en:szS 0 j6_ 16=1:=by
  unfold szS;rw[aj!];omega
 rw[en];rfl
def c2x(h:pk!):Px dX_ (some 0) (some 16)=some dX_:=by
 show Xa tx 0 (some 16)=_;unfold Xa;rw[IB ⟨aW_,by unfold big;omega⟩];show(if(0:Int)<=16 then _ else _)=_;rw[IB a_];have hl:BK_<=16:=by simpa[Str.length]using h
 show some (D.str ⟨((tx.cps.toList.drop 0).take 16).toArray⟩)=_;rw[List.drop_zero,MM hl,Array.toArray_toList]
def FY(t:As):WS:=Af tJ!
 (Af tK!
 tL!)
def Hd.write(h:a1!)(hF:bC!)(hx:Em x)(ht:Oe tx=true)(Y:1<=c1_)(h2:pk!)(hR:j5_)(hE:pi_):Om t [o_,x,aX_,.str tx] M R E:=by
 obtain⟨W,hr,wi⟩:=h.hH.rn;refine h_;show Af tC! (Af tD_ (Af tE_ (Af (An 6 ep_) (Af (Bw tF_ fT! (FY t)) (Aq l4!))))) [q!,aF_,e4_,some dX_,none,none,none,none,none] M _;refine cX (zH (b:=o_) (c:=x) (d:=aX_) rfl rfl rfl (a2w pj! wi hx (λM1 q=>?_) hE));refine dO (gF (c6d ht rfl)) ?_;refine kX (d:=.non) rfl ?_;refine c2z λp hp=>?_;obtain⟨X1,g1,c1⟩:=q;have fr:∀b,M1 b≠none->mup M1 p bA! b=M1 b:=λb hb=>mup_ne oT_;have p1:¬X1 p:=λz=>g1.live p z hp;refine qW (c8z rfl Y h2) M!;show FY t pl! (mup M1 p bA!) _;have e:Ci tI_ pl!=some (.tup BN_):=by
  have e1:Qo H_ (Bi bH!) tG_ pl!=some dX_:=c2x h2;unfold Ci Ad;rw[e1];rfl
 refine cX (jN (a:=o_) (b:=.tup BN_) rfl e ((g1.keepA fr).make hF (.write hx X! ht Y h2) λM3 ⟨X3,d3,f3,g3,c3⟩=>?_));have e3:M3 p=some bA!:=(c3.kp p (by rw[mup_same];exact KL _) p1).trans mup_same;have p3:¬X3 p:=λz=>(c3.nw p z).elim p1 λz=>by rw[mup_same]at z;cases z
 refine a5t ?_;rw[bQ (f:=Aa 6) (d:=.fn p) rfl];refine tH (p:=p) (v:=.tup [e9_,j2!]) e3 rfl a_ ?_;refine aL (f:=f2 Bv (Aa 8) tK_) (d:=.tup [e9_,j2!,.int 15]) rfl _ M!;exact cH BQ! (hR _ _ ⟨X3,d3,f3,g3.keep λb hb=>mup_ne λz=>p3 fk!,(c1.trans ((Nl.of fr).trans c3)).cell (c1.fresh hp)⟩)
end
section
variable{t:As}{M M1:Mh}{ρ:Ae}{yy:Int}{a ta wa p:qT!}{out:D}{S:List Op}{kl:List Int}{ca:Int->Addr}{X:Addr->Prop}{W:OW}{d x y:D}{R:D->Mh->Prop}{E:EK}
def jL{ck:bB!}{ft:WT}{fe:WE}{rest:Ae}{α:Type}{v f:α->D}{P:gp!}{R:n3_}(c6:ck M)(xs:R_):(∀x∈xs,∃b,Pm ft j7! M b/\(b=true->P x/\Pu fe j7! M (f x)))->
  (∀ys:List α,(∀y∈ys,y∈xs/\P y)->ad_<=f_->R (ys.map f) M)->On F! ck ft fe (none::rest) (xs.map v) M R:=by
 induction xs generalizing R with
 |nil=>intro _ k;exact⟨c6,k [] pl_ p!⟩
 |cons x xs ih=>
  intro h k;refine⟨c6,gC (x:=some (v x)::rest) ?_⟩;obtain⟨b,hb,hp⟩:=h x HV;refine hb _ ?_;have i1:=λy hy=>h y (HR x hy);cases b with
  |true=>
   obtain⟨Y,h2⟩:=hp rfl;show fe j7! M _;refine h2 _ (ih i1 λys g l=>k (x::ys) (λy hy=>?_) (SA l));obtain rfl|hy:=HW.mp hy
   .exact⟨HV,Y⟩
   .exact pn!
  |false=>exact ih i1 λys g l=>k ys (λy hy=>pn!) (Nat.le_succ_of_le l)
def c8x{o:Op}(h:gp_):∃b,Cp to! [L!]=some b:=by have Y:∃b,f1 Am al! [L!]=some a4!:=⟨_,by rw[vO (pN (f:=Aa 0) (d:=o.v) rfl),b1b h]⟩;obtain⟨b,e⟩:=Y;exact⟨!b,by unfold Cp;rw[kM e];rfl⟩
def a2r(hA:M_)(hH:aF!)(hl:cY_)(hR:∀ys:List Op,(∀y∈ys,y∈S)->ad_<=bB_->R (.lst (ys.map Op.nm)) M):Ko t [o_,e9_] M R:=by
 show"!]";have hk:=sS S yy;refine h_;show Aq to_ [q!,some oD_] M _;unfold Aq Bb Bo;by_cases c:yy∈kl
 .refine iT (d:=.fn (ca yy)) dS_ pp! pq! ht (k:=pr!) rfl Ar_ _ ?_;show(match M (ca yy)with|some (.lst xs)=>_|_=>False);have hc:=hA.cl yy c;rw[hc];refine ff_;refine jL (P:=kc_) (f:=Op.nm) hc (hs S yy) bW_ λys g l=>hR ys (λy hy=>(dS.mp (kb!).1).1) a!;obtain⟨b,e⟩:=c8x (hH.op o (dS.mp ho).1).dg;exact⟨b,gF e,λ_=>⟨trivial,aL (b1i o)⟩⟩
 .refine iT (d:=gJ_) dS_ pp! pq! ht (k:=pr!) rfl At! _ ?_;exact⟨aW_,trivial,hR [] pl_ bw!⟩
def b7l{g:WF}{f1:WE}{x:D}{K:v_}(Y:Bp_)(k:g [x] M K):Ag 1 g nU! ρ M K:=by exact Y _ bV!
def c9g{i:Nat}(h:pu!):fT pt_ ρ=some (decide (l=[])):=by refine kM ?_;have e:f1 Bm (Ad cL_ Ah) ρ=some (.int (ab_:Nat)):=vO (pN h);refine(cN e rfl dT!).trans ?_;congr 2;rw[MJ,LP,IZ,<-OU];omega
def a2z{ft:WT}{x:Str}{q2:WS}{R:o!}(h:yo_)(hE:E C M):Af (Ap ft (Jc C E (wl (fC bX_))) Bj) q2 ρ M R:=lT h hE
def inT{neg:Bool}{ep i:Nat}{x:D}(hq:M q=some xO_)(hk:Q_)(hi:Aa i ρ=some bS_)(h0:Aa 0 ρ=some x):∃b,Pm (wT (w2 (Jm neg) g! kf!)) ρ M b:=⟨_,jO (dM jA! (aL hi) (a7o hq hk))⟩
def c0g{l:d!}(h:l≠[]):∃v∈l,l.getLast?=some v:=by
 cases e:l.getLast? with
 |none=>exact absurd oK! h
 |some v=>exact⟨v,QX e,rfl⟩
def b1c{i:Nat}{R:o!}(h:BJ!)(hF:bC!)(hd:∀n,Fd n->DG (.tup [.str k,n]))(h0:Aa 0 ρ=some bl_)(hi:pu!)(hl:∀x∈l,Fd x)(hR:∀v M',Md t M yy a S X M'->R (.rt v) M')(hE:E t.Nothing M1):
  Af (Ap (Ck (fT pt_)) (Jc t.Nothing E (wl (fC (.str w)))) Bj) (Aq (Ag 2 dt! (Ab g! (Ab (wl (Ci py!)) Ac)))) ρ M1 R:=by
 have ht:=c9g hi;by_cases c:l=[]
 .rw[IN c]at ht;exact a2z (gF ht) hE
 .rw[IG c]at ht;obtain⟨v,hv,ev⟩:=c0g c;have e1:f2 Al cL_ fP_ ρ=some v:=cN hi (y:=.int (-1)) rfl (a7k ev);have e2:Ci py! ρ=some (.tup [.str k,v]):=b5w rfl e1;refine dO (gF ht) ?_;exact jN h0 e2 (h.make hF (hd v (hl v hv)) λM' m=>hR _ M' m)
def Hist.ng(h:aF!){o:Op}(ho:o∈S):Fd o.nm:=by have Y:=h.op o ho;have h2:=Y.hh;exact⟨_,_,rfl,p_,p_,Y.n1,Y.n2⟩
def Hd.undo(h:a1!)(hF:bC!)(hR:j5_)(hE:py_):Qj t [o_] M R E:=by
 show"!E";refine cX (b7l pz_ ?_);show"!D";refine cX ?_;unfold Bb Bo;refine zI aP! (dL j_ jd.ob hF1) (a2r jd hH a! λys g l=>?_);refine ff_;refine jL (P:=kc_) (v:=Op.nm) (f:=Op.nm) trivial ys bW_ λzs g2 _=>?_
 .obtain⟨b,hb⟩:=inT (neg:=true) (i:=1) (ρ:=[gr_,aY_]) (k:=some (.inr [.inl o.h,.inl o.n])) hM1 (x:=o.nm) rfl rfl rfl;exact⟨b,hb,kh_⟩
 .refine b1c (l:=zs.map Op.nm) lk hF (λn hn=>.undo hn) rfl rfl kj_ hR (hE _ lk);obtain⟨o,ho,rfl⟩:=IY.mp hx;exact hH.ng pD!
def Vs(o:Op):D:=match o.d with|.tup [_,n]=>n|_=>.non
def Hd.redo(h:a1!)(hF:bC!)(hR:j5_)(hE:py_):Qk t [o_] M R E:=by
 show"!E";refine fH pz_ ?_;refine cX (b7l (aL (d:=.lst o0!) rfl) ?_);show"!D";refine cX ⟨by rw[IK,dr.length_eq];unfold big;omega,?_⟩;refine jL (P:=λo=>Fd (Vs o)) (v:=Op.v) (f:=Vs) trivial aZ_ bW_ λys g l=>?_
 .have e3:f2 Al w_ az_ [L!]=some o.d:=b3i o;have e0:∀k r,o.d=.tup bR_->f2 Al fE_ A_ [L!]=some ai!:=λk r e=>cN pE_ rfl pF!;obtain⟨k,n,e,_,hn,_⟩|⟨k,r,e,e1,_,_⟩:=nW (pB!).dg
  .refine⟨k=="undo",pG!,λ_=>⟨by unfold Vs;rw[e];exact hn,aL ?_⟩⟩;refine cN pE_ rfl ?_;unfold Vs;rw[e];simp[Al,Fj,Kb]
  .refine⟨k=="undo",pG!,ck_⟩;rw[e1]at z;cases z
 .rw[dr.length_eq]at l;refine cX ff_;refine jL (P:=kc_) (v:=Vs) (f:=Vs) trivial ys bW_ λzs g2 _=>?_
  .obtain⟨n1,n2,e,_⟩:=(g o ho).2;have hk:Cg (Vs o)=some (some (.inr [.inl n1,.inl n2])):=by rw[e];rfl
   obtain⟨b,hb⟩:=inT (neg:=false) (i:=2) (ρ:=kk_) hM1 hk rfl rfl;have h0:f2 Al w_ A_ kk_=some (.int n1):=cN (x:=.tup [.int n1,.int n2]) pE! rfl pF!;have Y:Pm tw! kk_ M1 (n1==yy):=jO (dM jA! (dL aP! jd.ob hF1) dT!);cases c:n1==yy with
   |true=>rw[c]at Y;exact⟨b,λK hK=>Y _ (hb _ hK),kh_⟩
   |false=>rw[c]at Y;exact⟨false,λK hK=>Y _ hK,kh_⟩
  .refine b1c (l:=zs.map Vs) lk hF (λn hn=>.redo hn) rfl rfl kj_ hR (hE _ lk);obtain⟨o,ho,rfl⟩:=IY.mp hx;exact(pD!).2
end
structure Tu(M:Mh)(l:qT!)(xs:d!)(n:Nat):Prop where
 m:M l=some H!
 z:xs≠[]
 l:f_<=n+1
 g:∀x∈xs,x=.str "root"\/Fd x
def Pl(t:As)(M:Mh)(yy:Int)(a l:qT!)(S:i_)(am:O!):Prop:=∃X xs,Hd t M yy a S X/\¬X l/\Tu M l xs bB_/\∀b,am b↔X b\/b=l
def Mk(S:i_)(yy:Int)(S':i_):Prop:=S'=S\/∃d,Xl pi!/\S'=S++[AT S yy d]
section
variable{t:As}{M M1:Mh}{ρ:Ae}{yy:Int}{a l:qT!}{S S1:List Op}{X X1 am:Addr->Prop}{xs:List D}{d x y:D}{E:EK}
def Nl.off(c:gV!)(hl:M l≠none)(hx:¬X l):M1 l=M l/\¬X1 l:=⟨c.kp l hl hx,λz=>(c.nw l z).elim hx hl⟩
def Hd.pl(h:Hd t M1 yy a S1 X1)(hx:¬X1 l)(hi:Tu M1 l xs S1.length)(c:gV!)(hz:∀b,am b↔X b\/b=l):Pl t M1 yy a l S1 pK!/\Nl M am M1 λb=>X1 b\/b=l:=
 ⟨⟨X1,xs,h,hx,hi,fn_⟩,λb hb hn=>c.kp b hb λz=>hn pK_,λb z=>z.elim pL! λz=>.inl km!⟩
def Tu.up{n n':Nat}(h:Tu M l xs n)(e:M1 l=M l)(hn:n<=n'):Tu M1 l xs n':=⟨e.trans h.m,h.z,JG h.l (SA hn),h.g⟩
def b4d{i j:Int}(h:0<j):Er ay! ci!=some ng!:=by show(if decide (0<j)=true then some (D.int (i%j))else none)=_;rw[IB (IN h)]
def c6z{f:j!}{i:Nat}{k:Int}(hx:M l=some H!)(hz:xs≠[])(hi:Aa i ρ=some (.fn l))(hf:pN!):∃x∈xs,Pu (w2 Ce kf! (w2 ml_ gy! (w1 Qh (Ab kf! Ac)))) ρ M x:=by
 have hp:0<f_:=List.length_pos_iff.mpr hz;have m1:0<=k%c4_:=ND _ a!;have m2:k%c4_<c4_:=LQ _ a!;have hl:Qh M [.fn l]=some (.int c4_):=by
  show((Nz M (.fn l)).map λxs=>D.int f_)=_;simp only[Nz,hx,SJ]
 have hj:(k%c4_).toNat<f_:=by omega
 refine⟨xs[(k%c4_).toNat],KG _,dM (aL hi) (dM (aL hf) (uP (aL hi) hl) (b4d a!)) ?_⟩;simp only[Ce,hx];show Fj xs (k%c4_)=_;show"!x";rw[IB m1,IB m2];exact IE hj
def c2y{i:Nat}(h:Aa i ρ=some x)(hx:x=.str "root"\/Fd x):∃y,Pg y/\Xi (fT (f2 Aw cL_ fE!)) bP! cL_ ρ=some y:=by
 obtain rfl|⟨n,m,rfl,hh⟩:=hx
 .refine⟨.non,c6_,?_⟩;unfold Xi;rw[kM (b:=true) (cN h rfl ((jI _ _).trans (by rw[LS])))];rfl
 .refine⟨_,.inr ⟨n,m,rfl,hh⟩,?_⟩;unfold Xi;rw[kM (b:=false) (cN h rfl rfl)];exact h
def b8b{f:j!}{k:Int}(hf:pN!)(h0:0<=k)(h3:k<4):∃tx,Qo mp! (Bi f) Cm ρ=some dX_/\Oe tx=true/\1<=c1_/\c1_<=16:=by
 have e:Qo mp! (Bi f) Cm ρ=Px uB! jO_ none:=by
  unfold Qo Bi;rw[hf];rfl
 rw[e];have c:k=0\/k=1\/k=2\/k=3:=by omega
 obtain rfl|rfl|rfl|rfl:=c
 .exact⟨⟨#[97,98,126,32,122]⟩,cN_,ak_,ak_,ak_⟩
 .exact⟨⟨#[98,126,32,122]⟩,cN_,ak_,ak_,ak_⟩
 .exact⟨⟨#[126,32,122]⟩,cN_,ak_,ak_,ak_⟩
 .exact⟨⟨#[32,122]⟩,cN_,ak_,ak_,ak_⟩
def ifB{f:aV_}{q1 q2:WS}{R:o!}{b:Bool}(h:mA_)(Y:nn!)(h2:cQ_):Ap (Ck f) q1 q2 ρ M R:=by
 cases b with
 |true=>exact lT (gF h) Y
 |false=>exact oE (gF h) h2
def b7k{g:Uj}{f1:j!}{K:v_}(Y:jW!)(k:g [b] M K E):Cs 1 g E ot_ ρ M K:=by unfold Cs Ab Ac;rw[bQ Y];exact bV!
def nG{f:j!}{i j:Int}(h:pR_)(hj:0<j):f2 Er f (fC ci!) ρ=some ng!:=cN h rfl (b4d hj)
def a1y{f:j!}{i j:Int}(h:pR_)(hj:0<j)(h2:j<1073741824):f2 Ev f (fC ci!) ρ=some (.int fB!):=cN h rfl (by
 show(if(decide (0<j)&&decide vI!)=true then some (D.int fB!)else none)=_;rw[IB (by rw[IN hj,IN h2];rfl)])
def b7r{m:Int}{R:v_}(h:fo_)(hF:bC!)(hR:∀v M' S' Z',Mk S yy S'->Pl t M' yy a l S' Z'->Nl M am M' Z'->R v M'):Lj t [o_,dI_,.fn l] M R:=by
 obtain⟨X,xs,hd,hx,hi,hz⟩:=h;have ln:M l≠none:=by rw[hi.m];exact KL _
 have hS:=hF.l;have hl:=hi.l;have lk:∀v M1,Lk t M yy a S X M1->R v M1:=λv M1 ⟨X1,g,c⟩=>by
  show"#2";obtain⟨p,c2⟩:=g.pl n pT! c hz;exact hR v M1 S _ X! p c2
 have md:∀v M1,Md t M yy a S X M1->R v M1:=λv M1 ⟨X1,d,f,g,c⟩=>by
  show"#2";obtain⟨p,c2⟩:=g.pl n pT_ c hz;exact hR v M1 _ _ pU! p c2
 have app:∀v w M1,Fd w->Md t M yy a S X M1->M1 l=some H!/\R v (mup M1 l pU_):=λv w M1 hw ⟨X1,d,f,g,c⟩=>by
  show"#2";have hz':∀b,X1 b->mup M1 l pU_ b=M1 b:=λb hb=>mup_ne λz=>n fk!;refine⟨e.trans hi.m,hR v _ _ pK! pU! ⟨X1,xs++[w],g.keep hz',n,⟨mup_same,S!,by rw[IR,IR];exact Nat.add_le_add_right hl 1,λx hx=>(nb!).elim (hi.g x) λz=>.inr (II.mp z▸hw)⟩,fn_⟩ ⟨λb hb hn=>?_,is!⟩⟩
  .exact(mup_ne λz=>hn km!).trans (c.kp b hb λz=>hn pK_)
  .exact z.elim pL! λz=>.inl km!
 refine h_;show Af uy! _ [q!,g7!,g7_,none,none,none] M _;refine kX pW_ ?_;obtain⟨x,hm,px⟩:=c6z (i:=2) (ρ:=[q!,g7!,g7_,ks!,none,none]) (f:=f2 Ev s_ ml!) hi.m hi.z rfl (a1y (i:=m) rfl a_ a_);have ig:∀x∈xs,Em x:=λx hx=>(hi.g x hx).elim .inl λz=>.inr cK!;refine fH px ?_;show Af (Vq _ I_ _) _ d0_ M _;have vx:∀ρ:Ae,Aa 1 ρ=some eN_->f2 Ev s_ mn! ρ=some (.int (m / 35)):=λρ h=>a1y h a_ a_;have d140:∀ρ:Ae,Aa 1 ρ=some eN_->f2 Ev s_ uC! ρ=some (.int (m / 140)):=λρ h=>a1y h a_ a_;have t1:fT uy_ d0_=some (decide (m%5<2)):=rfl;have t2:∀k:Int,fT (f2 Aw H_ (fC c8!)) d0_=some (m%5==k):=λk=>kM (cN rfl rfl dT!);have t4:fT uD! d0_=some (m / 35%2==0):=kM (cN ku! rfl dT!);refine ifB t1 ?_ ?_
 .obtain⟨s,hs,ps⟩:=c6z (i:=2) (ρ:=d0_) (f:=f2 Ev s_ mn!) hi.m hi.z rfl (vx _ rfl);refine fH ps ?_;show Az _ pY_ M _;obtain⟨y,hy,ey⟩:=c2y (i:=5) (ρ:=pY_) rfl (hi.g s hs);refine iF ?_;unfold Mo;rw[bQ (f:=Aa 2) (d:=.fn l) rfl,lJ hi.m];refine gC (zH (b:=o_) (c:=x) rfl rfl ey (hd.put hF ku_ hy (λw M1 hw k=>?_) λM1 k=>fp!));obtain⟨e,r⟩:=app aI! w M1 hw k;rw[lJ e];exact gC ⟨by show f_<big;unfold big;omega,r⟩
 .refine ifB (t2 2) ?_ ?_
  .obtain⟨tx,e,Y,h2,h3⟩:=b8b (ρ:=d0_) ku! (ND _ a_) (LQ _ a_);exact b7j (b:=o_) (c:=x) (d:=aX_) rfl rfl rfl e (hd.write hF ku_ Y h2 h3 g9_ λM1 k=>fp!)
  .refine ifB (t2 3) ?_ ?_
   .have b1:0<=m / 140%50:=ND _ a_;have b2:m / 140%50<50:=LQ _ a_;have b3:m / 35%4<4:=LQ _ a_;exact b7j (b:=o_) (c:=x) rfl rfl ku! (nG (d140 _ rfl) a_) (hd.place hF ku_ (ND _ a_) a! (c4n a!) g9_ λM1 k=>fp!)
   .refine ifB t4 ?_ ?_
    .exact b7k (b:=o_) rfl (hd.undo hF g9_ λM1 k=>fp!)
    .exact b7k (b:=o_) rfl (hd.redo hF g9_ λM1 k=>fp!)
end
section
variable{U S:List Op}{o x y:Op}
def Hist.ix(h:a2_)(ho:o∈U):∃i:Nat,(hs U o.h)[i]?=some o/\o.n=bz_+1:=by
 obtain⟨i,hi,e⟩:=LV.mp (dS.mpr jV!);have z:(hs U o.h)[i]?=some o:=by rw[e8!,e]
 exact⟨i,z,(h.ch _).num i o z⟩
def Hist.uniq(h:a2_)(hx:x∈U)(hy:y∈U)(e:x.h=y.h)(n:x.n=y.n):x=y:=by
 obtain⟨i,Y,h2⟩:=h.ix hx;obtain⟨j,h3,h4⟩:=h.ix hy;have z:i=j:=by omega
 subst z;rw[e,h3]at Y;exact(JO Y).symm
def Hist.nodup(h:a2_):U.Nodup:=by have:=h.names;rw[MO,QJ]at this;exact this.imp λuk e=>uk (by rw[e])
def Hist.le(h:aF!)(ho:o∈S):o.n<=kw!:=by obtain⟨i,Y,h2⟩:=h.ix ho;have:=(ge!).1;omega
def Hist.has(hU:a2_)(hS:aF!)(sub:fp_)(ho:o∈U):o∈S↔o.n<=kw!:=by refine⟨hS.le,λhn=>?_⟩;have n1:=(hU.op o ho).n1;have z:cp![(kw_).toNat]?=some cp![(kw_).toNat]:=IE a!;have m:=dS.mp (KG (l:=hs S o.h) (n:=(kw_).toNat) a!);have e:=(hS.ch _).num _ _ z;rw[<-hU.uniq (sub _ m.1) ho m.2 a!];exact m.1
def zV{l:i_}{p:Op->Bool}{k:Nat}(h:∀(i:Nat) (o:Op),l[i]?=some o->(p o=true↔i<k)):l.filter p=l.take k/\(l.filter λo=>!p o)=l.drop k:=by
 have e1:∀o∈l.take k,p o=true:=λo ho=>by
  obtain⟨i,hi,e⟩:=LV.mp ho;have:(l.take k)[i]?=some o:=by rw[e8!,e]
  rw[LH]at hi;rw[OO a!]at this;exact(h i o this).mpr a!
 have e2:∀o∈l.drop k,p o=false:=λo ho=>by
  obtain⟨i,hi,e⟩:=LV.mp ho;have:(l.drop k)[i]?=some o:=by rw[e8!,e]
  rw[RK]at this;cases c:p o with
  |false=>rfl
  |true=>have:=(h _ o this).mp c;omega
 show"!{"
 .conv=>lhs;rw[<-NP k l]
  rw[PY,KM.mpr e1,QR.mpr λo ho=>by rw[e2 o ho];simp,JC]
 .conv=>lhs;rw[<-NP k l]
  rw[PY,QR.mpr λo ho=>by rw[e1 o ho];simp,KM.mpr λo ho=>by rw[e2 o ho];rfl,LN]
def Xm.take{l:i_}(h:Xm l)(k:Nat):Xm (l.take k):=⟨λi o e=>by
 have hl:=(oa_).1;rw[LH]at hl;rw[OO a!]at e;exact h.num i o e,h.tim.sublist sG_⟩
def vL{p:Op->Bool}{h:Int}:hs (U.filter p) h=(hs U h).filter p:=by unfold hs;rw[MY,MY];congr 1;funext o;rw[Bool.and_comm]
def Hist.upto(h:a2_)(t:Int->Int):Hist (U.filter λo=>decide (o.n<=t o.h)):=by
 refine⟨oB_,λo ho=>h.op o (ph!).1⟩;rw[vL,(zV (k:=(t k).toNat) λi o e=>?_).1]
 .exact(gM_).take _
 .have n:=(gM_).num i o e;have:=(dS.mp (NB e)).2;rw[IZ,this];omega
def b5k(h:a2_)(k:Int):hs c6! k=hs U k:=by
 have p:(hs c6! k).Perm ky!:=(aV U).filter _;refine iS (kf:=Op.key) ?_ ?_ p
 .exact QT NI (fI h.keys)
 .show(ky!).Pairwise λx y=>Ik (Op.key x) (Op.key y)=true;refine(List.Pairwise.and_mem.mp (gM_).tim).imp λ{x y} uk=>?_;exact nH.mpr (.inl uk.2.2)
nonrec def rst(U S:i_):List Op:=(c6!).filter λo=>!decide (o∈S)
def Hist.fill(hU:a2_)(hS:aF!)(sub:fp_):Hist p6!/\(p6!).Perm U:=by
 have nd:=hU.nodup;have pf:(c6!).Perm U:=aV U;show"!{"
 .refine⟨oB_,λo ho=>?_⟩
  .have sp:=zV (l:=hs U k) (p:=λo=>decide (o∈S)) (k:=(fq!).length) λi o e=>by
    have m:=dS.mp (NB e);have n:=(hU.ch k).num i o e;rw[IZ,hU.has hS sub m.1,m.2];omega
   have e1:hs S k=(ky!).take (fq!).length:=by
    refine QK λi=>?_;obtain c|c:=LM i (fq!).length
    .have a1:fq![i]?=some fq![i]:=IE c;have m:=dS.mp (KG (l:=hs S k) c);have n1:=(hS.ch k).num i _ a1;obtain⟨j,b1,b2⟩:=hU.ix (sub _ m.1);have:j=i:=by omega
     subst this;rw[a1,OO c];rw[m.2]at b1;exact b1.symm
    .rw[JU c,JU (by rw[LH];omega)]
   unfold rst;rw[eQ,vL,b5k hU,sp.2]
   conv=>arg 1;lhs;rw[e1]
   rw[NP];exact hU.ch k
  .obtain z|z:=IM.mp ho
   .exact hU.op o (sub o z)
   .exact hU.op o (pf.mem_iff.mp (JQ.mp z).1)
 .have Y:S.Perm ((c6!).filter λo=>decide (o∈S)):=(OC hS.nodup ((pf.nodup_iff.mpr nd).filter _)).mpr λo=>by
   rw[JQ,IZ];exact⟨λh=>⟨pf.mem_iff.mpr (sub o h),h⟩,λh=>h.2⟩
  exact(Y.append_right _).trans ((List.filter_append_perm _ _).trans pf)
def Hist.join{S2:i_}(hU:a2_)(hS:aF!)(h2:Hist S2)(s1:fp_)(s2:qc!):Hist (S2++rst S S2):=by
 have hV:=hU.upto λh=>max (oH!:Int) ((hs S2 h).length:Nat);have mv:∀o,o∈kz!↔o∈U/\(o∈S\/o∈S2):=λo=>by
  rw[JQ,IZ];refine and_congr_right λho=>?_;rw[hU.has hS s1 ho,hU.has h2 s2 ho];omega
 have g:=(hV.fill h2 λo ho=>(mv o).mpr ⟨s2 o ho,.inr ho⟩).1;have e:rst kz! S2=rst S S2:=by
  have n1:=(aV (kf:=Op.key) kz!);have n2:=aV (kf:=Op.key) S;refine iS (kf:=Op.key) (QT NI (fI hV.keys)) (QT NI (fI hS.keys)) ?_;refine(OC ((n1.nodup_iff.mpr hV.nodup).filter _) ((n2.nodup_iff.mpr hS.nodup).filter _)).mpr λo=>?_;rw[JQ,JQ,n1.mem_iff,n2.mem_iff,mv];refine and_congr_left λhn=>⟨λz=>z.2.resolve_right (by simpa using hn),λz=>⟨s1 o z,.inl z⟩⟩
 rw[e]at g;exact g
def wL{S2:i_}:∀o∈rst S S2,o∈S/\o∉S2:=λo ho=>by
 obtain⟨Y,h2⟩:=JQ.mp ho;exact⟨(aV S).mem_iff.mp Y,xN_⟩
def b8p{S2:i_}{o:Op}(h:o∈S):o∈S2++rst S S2:=by
 by_cases c:o∈S2
 .exact IP _ c
 .exact HX _ (JQ.mpr ⟨(aV S).mem_iff.mpr h,by simpa using c⟩)
def a5m(hU:a2_)(hS:aF!)(sub:fp_):bB_<=cs_:=by have:=(hU.fill hS sub).2.length_eq;rw[IR]at this;omega
def Hist.srt(h:a2_):Hist c6!:=⟨λk=>by rw[b5k h];exact h.ch k,λo ho=>h.op o ((aV U).mem_iff.mp ho)⟩
end
section
variable{t:As}{M M1:Mh}{ρ:Ae}{yy:Int}{a l ta wa:qT!}{out:D}{S S2 U:List Op}{kl:List Int}{ca:Int->Addr}{X am:Addr->Prop}{R:D->Mh->Prop}
def Xl.hb{o:Op}(h:Xl o):0<=o.h/\o.h<16:=by have:=h.hh;omega
def a7r{hv:u!}(hA:M_)(hH:aF!)(hS:cY_)(hl:hv.length=16)
  (hR:∀M',ci_->R (.lst (((aZ_).filter λo=>decide (hv.getD o.h.toNat 0<o.n)).map Op.v)) M'):Gs t [o_,.lst kB!] M R:=by
 refine h_;refine cX ?_;refine⟨by rw[IK,hl];decide,c5_⟩;have fr:∀b,M b≠none->mup M p (.dct qh_ (kB!).length) b=M b:=λb hb=>mup_ne oT_;have jd:=hA.keep fr;unfold Aq Bb Bo;refine gB aP! (gV jd hH hS) _ ?_;have pm:(aZ_).Perm S:=aV S;refine⟨by rw[IK,pm.length_eq];unfold big;omega,?_⟩;refine cM (λd=>match d with|.tup (.int h::.int n::_)=>decide (hv.getD h.toNat 0<n)|_=>false) id trivial _ _ bz! ?_
 .obtain⟨o,ho,rfl⟩:=IY.mp hd;have hb:=(hH.op o (pm.mem_iff.mp ho)).hb;refine⟨[L!,ab!],rfl,jt_,λ_ K hK=>by rw[bQ (f:=Aa 0) (d:=o.v) rfl];exact hK⟩;have hg:(kget qh_ cU!).getD I_=.int qj!:=by
   rw[a1l (k:=0) (x:=.int qj!) hb.1 (by
    rw[show(o.h - cy_).toNat=o.h.toNat by omega,JL,MQ,IE a!];rfl)];rfl
  exact jO (dM oI! (iT BQ! (aL (oO o)) (aL (d:=aX_) rfl) mup_same (k:=some (.inl (.inl o.h))) rfl hg) rfl) K hK
 .rw[RF,NV];exact hR _ fr
def Hd.give(h:a1!)(hR:∀M',ci_->R o0_ M'):Gs t [o_,.lst (ql!).flatten] M R:=by
 obtain⟨ta,wa,out,kl,ca,hA,_,_⟩:=h.hd;have hl:=h.hl;have e:((aZ_).filter λo=>decide ((List.replicate 16 (0:Int)).getD o.h.toNat 0<o.n))=srt S:=KM.mpr λo ho=>by
  have ho:=h.hH.op o ((aV S).mem_iff.mp ho);have hb:=ho.hb;have:=ho.n1;rw[IZ,MQ,NH,aj!];show(0:Int)<_;omega
 refine a7r (hv:=List.replicate 16 0) hA h.hH a! rfl λM' fr=>?_;rw[e];exact hR M' fr
def b0f(hA:M_):Pu tc! [R!,q!] M (.lst (((kD_).map λi=>(((hs S bz_).length:Nat):Int)).map D.int)):=λK hK=>by
 have hi:Fg a6! [R!,q!]=some ((kD_).map λi=>D.int bz_):=kY (n:=16) rfl a_;unfold Bb Gh;rw[hi];refine qn!;refine cM gI! (λd=>match d with|.int i=>.int ((hs S i).length:Nat)|_=>.non) trivial _ _ bz! ?_
 .obtain⟨i,hi,rfl⟩:=IY.mp hd;exact⟨[kE_,q!],rfl,gI_,λ_ K hK=>dG j_ jM! hd! jM_ K hK⟩
 .rw[jE!,JZ];exact hK
def a4j{y2:Int}{X2:O!}(h:a1!)(h2:Hd t M y2 a2 S2 X2)(hU:a2_)(s1:fp_)(s2:qc!)(hR:∀M',ci_->R (.lst ((rst S S2).map Op.v)) M'):Hs t [o_,.fn a2] M R:=by
 obtain⟨ta,wa,out,kl,ca,hA,_,_⟩:=h.hd;obtain⟨ta2,wa2,UP,ui,uj,yk,_,_⟩:=h2.hd;have hl:=h.hl;refine h_;show Aq (Ag 2 dr_ (Ab g! (Ab _ Ac))) [q!,some (.fn a2)] M _;unfold Aq Ag Ab Ac;rw[bQ (f:=Aa 0) (d:=o_) rfl];refine b0f yk _ h_;refine a7r hA h.hH a! c! λM' fr=>?_;have e:((aZ_).filter λo=>decide ((qr!).getD o.h.toNat 0<o.n))=rst S S2:=by
  refine LZ λo ho=>?_;have hm:=(aV S).mem_iff.mp ho;have hb:=(h.hH.op o hm).hb;have g:(qr!).getD o.h.toNat 0=(qc_:Int):=by
   rw[MQ,JL,List.getElem?_range a!];show(((hs S2 ((o.h.toNat:Nat):Int)).length:Nat):Int)=_;rw[show((o.h.toNat:Nat):Int)=o.h by omega]
  rw[g];have:=hU.has h2.hH s2 (s1 o hm);by_cases c:o∈S2
  .rw[IN c,IG (by have:=this.mp c;omega)];rfl
  .rw[IG c,IN (Int.not_le.mp λz=>c (this.mpr z))];rfl
 rw[e];exact hR M' fr
def Hd.take{ms:i_}(nd:t.nd)(h:a1!)(hH:fd!)(hy:gR!)(hl:qu!)(hR:∀M' X',Hd t M' yy a fc_ X'->Nl M X M' X'->R oX_ M'):Kq t fc! M R:=by
 obtain⟨ta,wa,out,kl,ca,hA,hx,_⟩:=id h.hd;refine b8a nd hA hH hy a! λM' bq bt ju cx kp hz=>?_;obtain rfl|⟨rfl,fr,_⟩:=hz
 .exact hR M' _ (cx.hd hH hl) (kp.chg hx)
 .rw[JC]at hR;exact hR M' X (h.keepA fr) (.of fr)
def Pl.take{ms:i_}(nd:t.nd)(h:fo_)(hH:fd!)(hy:gR!)(hl:qu!)(hR:∀M' Z',Pl t M' yy a l fc_ Z'->Nl M am M' Z'->R oX_ M'):Kq t fc! M R:=by obtain⟨X,xs,hd,hx,hi,hz⟩:=h;refine hd.take nd hH hy hl λM' X' jw c=>?_;obtain⟨e,n⟩:=c.off qv! hx;obtain⟨p,c2⟩:=jw.pl n pT_ c hz;exact hR M' _ p c2
def Pl.live(h:fo_):∀b,am b->M b≠none:=λb hb=>by
 obtain⟨X,xs,hd,hx,hi,hz⟩:=h;obtain z|z:=(fo!).mp hb
 .exact hd.live b z
 .rw[z,hi.m];exact KL _
def Pl.keep(h:fo_)(k:∀b,am b->M1 b=M b):Pl t M1 yy a l S am:=by obtain⟨X,xs,hd,hx,hi,hz⟩:=h;exact⟨X,xs,hd.keep λb hb=>k b ((fo!).mpr (.inl hb)),hx,hi.up (k l ((hz l).mpr du!)) p!,hz⟩
def Pl.hd(h:fo_):∃X,Hd t M yy a S X:=by obtain⟨X,xs,hd,_⟩:=h;exact⟨X,hd⟩
end
nonrec def yj(j:Nat):Int:=if j=0 then 0 else if j=1 then 7 else 15
def c6j(j:Nat):yj j=0\/yj j=7\/yj j=15:=by unfold yj;split;exact .inl rfl;split;exact .inr X!;exact .inr du!
def c2o{i j:Nat}(hi:i<3)(hj:j<3)(e:yj i=yj j):i=j:=by unfold yj at e;split at e<;>split at e<;>(try split at e)<;>(try split at e)<;>omega
structure Sy(t:As)(M:Mh)(U:i_)(a l:kH!)(S:qy!)(am:qx_):Prop where
 p:∀j,j<3->Pl t M cw_ (a j) (l j) bE! (am j)
 d:∀i j,i<3->j<3->i≠j->∀b,am i b->¬am j b
 u:Hist U
 n:cs_<50
 t:∀o∈U,o.tm<=(cs_:Nat)
 s:∀j,j<3->∀o∈S j,o∈U
 w:∀j,j<3->∀o∈U,o.h=yj j->o∈S j
section
variable{t:As}{M M1:Mh}{ρ:Ae}{U U1:List Op}{a l:Nat->Addr}{S:Nat->List Op}{am:Nat->Addr->Prop}{i j:Nat}{S1:List Op}{Z1:Addr->Prop}{R:D->Mh->Prop}
def Sy.h(h:aH!)(hj:j<3):Hist bE!:=by obtain⟨X,hd⟩:=(d5_).hd;exact hd.hH
def Sy.few(h:aH!)(hj:j<3):Vn cw_ bE!:=by have l1:=a5m h.u hf! fs!;have l2:=h.n;exact⟨c6j j,λo ho=>by have:=h.t o (h.s j hj o ho);omega,p_⟩
def Sy.keep(h:aH!)(k:pf_):Sy t M1 U a l S am:={h with p:=λj hj=>(d5_).keep λb hb=>k b ((d5_).live b hb)}
def Sy.upd(h:aH!)(hj:j<3)(hp:Pl t M1 cw_ (a j) (l j) S1 Z1)(c:Nl M (am j) M1 Z1)(u:Hist U1)(n:U1.length<50)(ht:∀o∈U1,o.tm<=(U1.length:Nat))(su:∀o∈U,o∈U1)(ow:∀o∈U1,o∈U\/o.h=yj j)(s:∀o∈S1,o∈U1)(w:∀o∈U1,o.h=yj j->o∈S1):
  Sy t M1 U1 a l (λk=>if k=j then S1 else S k) λk=>if k=j then Z1 else am k:=by
 have cu:∀k,k<3->k≠j->(∀b,am k b->M1 b=M b)/\∀b,Z1 b->¬am k b:=λk hk kj=>by
  have lv:=(h.p k hk).live;have dj:=h.d j k hj hk (JF kj);exact⟨λb hb=>c.kp b (lv b hb) λz=>dj b z hb,λb Y h2=>(c.nw b Y).elim (λz=>dj b z h2) (lv b h2)⟩
 refine⟨λk hk=>?_,λi k hi hk ik b=>?_,u,n,ht,λk hk o ho=>?_,λk hk o ho e=>?_⟩
 .by_cases e:k=j
  .rw[IB e,IB e,e];exact hp
  .rw[IF e,IF e];exact(h.p k hk).keep (cu k hk e).1
 .show(if i=j then Z1 else am i) b->¬(if k=j then Z1 else am k) b;by_cases e:i=j
  .rw[IB e,IF λz=>ik qA!];exact(cu k hk λz=>ik qA!).2 b
  .rw[IF e];by_cases f:k=j
   .rw[IB f];exact λz1 z2=>(cu i hi e).2 b z2 z1
   .rw[IF f];exact h.d i k hi hk ik b
 .have ho:o∈qC!:=ho;by_cases e:k=j
  .rw[IB e]at ho;exact s o ho
  .rw[IF e]at ho;exact su o (h.s k hk o ho)
 .show o∈qC!;by_cases f:k=j
  .rw[IB f];exact w o ho (f▸e)
  .rw[IF f];exact h.w k hk o ((ow o ho).resolve_right λz=>f (c2o hk hj (e.symm.trans z))) e
def Sy.make{m:Int}(h:aH!)(hj:j<3)(hn:cs_<49)(hR:∀v M' U' S' Z',U'.length<=cs_+1->Sy t M' U' a l S' Z'->R v M'):Lj t [hg!,dI_,.fn (l j)] M R:=by
 refine b7r d5_ (h.few hj) λv M' S1 Z1 mk hp c=>?_;obtain rfl|⟨d,hf,rfl⟩:=mk
 .exact hR v M' U _ _ a! (h.upd hj hp c h.u h.n h.t g0! kK_ fs! (h.w j hj))
 .have hm:=λo (ho:o∈U) (e:o.h=yj j)=>a3x qF!;have hl:(qF_).length=(hs U cw_).length:=by
   refine List.Perm.length_eq ((OC ((hf!).nodup.filter _) (h.u.nodup.filter _)).mpr λo=>?_);show o∈hs bE! cw_↔o∈hs U cw_;rw[dS,dS];exact and_congr_left λe=>⟨h.s j hj o,λz=>h.w j hj o z e⟩
  have hb:=a3w (S:=S j) (B:=(cs_:Nat)) a! λx hx=>h.t x (h.s j hj x hx);have hu:Hist qG_:=h.u.snoc hf (show(1:Int)+((qF_).length:Nat)=_ by rw[hl,Int.add_comm];rfl) λx hx e=>by
   have:=hm x hx e;show x.tm<1+Tg bE!;omega
  have le:(qG_).length=cs_+1:=by rw[IR];rfl
  refine hR v M' _ _ _ (NO le) (h.upd hj hp c hu a! bW_ (λo ho=>IP _ ho) bW_ bW_ λo ho e=>?_)
  .rw[le];obtain z|z:=IM.mp ho
   .have:=h.t o z;omega
   .rw[dW_];show 1+Tg bE!<=_;omega
  .obtain z|z:=IM.mp ho
   .exact .inl z
   .rw[dW_];exact .inr rfl
  .exact(kM_).elim (λz=>IP _ (h.s j hj o z)) λz=>HX _ z
  .exact(kM_).elim (λz=>IP _ (h.w j hj o z e)) λz=>HX _ z
def b7m{g:WF}{f1:j!}{f2:WE}{K:v_}(Y:nf_)(h:f2 ρ M λd M1=>[x,d].length=2/\g [x,d] M1 K):Ag 2 g (Ab eK_ (Ab f2 Ac)) ρ M K:=by unfold Ag Ab Ac;rw[bQ Y];exact h
def Sy.tell{f0 f1:j!}(nd:t.nd)(h:aH!)(hi:i<3)(hj:j<3)(e0:f0 ρ=some (.fn (a i)))(e1:f1 ρ=some ft_)(hR:∀(n:Nat) M' S' Z',Sy t M' U a l S' Z'->kN_->(∀o∈S i,o∈S' j)->R hz_ M'):
  Ag 2 (Kq t) (Ab eK_ (Ab (Ag 2 (Hs t) (Ab (wl f0) ot_)) Ac)) ρ M R:=by
 obtain⟨X,Y⟩:=(h.p i hi).hd;obtain⟨X2,h2⟩:=(d5_).hd;refine b7m e1 (jN e0 e1 (a4j Y h2 h.u (h.s i hi) fs! λM1 fr=>h_));have g:=h.keep fr;have sub:∀o∈S j++rst (S i) bE!,o∈U:=λo ho=>(kM_).elim (h.s j hj o) λz=>h.s i hi o (wL o z).1;have hH:=h.u.join Y.hH h2.hH (h.s i hi) fs!;have hl:=a5m h.u hH sub;have hn:=h.n;refine(g.p j hj).take nd hH (λo ho e=>(wL o ho).2 (h.w j hj o (h.s i hi o (wL o ho).1) e)) a! λM' Z' hp c=>?_;refine hR _ M' _ _ (g.upd hj hp c h.u hn h.t g0! kK_ sub λo ho e=>IP _ qF!) (λk o ho=>?_) λo ho=>?_
 .show o∈if k=j then _ else S k
  by_cases c:k=j
  .rw[IB c];exact IP _ (c▸ho)
  .rw[IF c];exact ho
 .show o∈if j=j then _ else S j
  rw[D!];exact b8p ho
def Sy.met(nd:t.nd)(h:aH!)(hi:i<3)(hj:j<3)(hR:∀v M' S' Z',Sy t M' U a l S' Z'->kN_->qI_->R v M'):Il t [.fn (a i),hg!] M R:=by refine h_;refine cX (h.tell nd hi hj rfl rfl λn M1 S1 Z1 Y m1 k1=>?_);unfold Aq w2;rw[bQ (f:=Aa 2) (d:=.int (n:Nat)) rfl];refine Y.tell nd hj hi rfl rfl λn2 M2 S2 Z2 h2 m2 k2=>?_;exact hR _ M2 S2 Z2 h2 (λk o ho=>m2 k o (m1 k o ho)) λo ho=>ho.elim (λz=>⟨m2 i o (m1 i o z),m2 j o (k1 o z)⟩) λz=>⟨k2 o (m1 j o z),m2 j o (m1 j o z)⟩
end
section
variable{t:As}{M:Mh}{o r f p:qT!}{O:Addr->Prop}{W:OW}{B:Nat}{R:D->Mh->Prop}{pre xs:List D}{x:D}{k:MK}
def wS{p:D}(h:aD_)(hk:Q_)(hx:jy!)(hR:R p M):Dz t dD! M R:=by obtain⟨ad,rfl,hO,hI⟩:=h;obtain⟨_,e,k1,ep,rfl,_,_,_,q⟩:=hI.ty .par trivial;refine h_;simpa[Fy,Aq,w2,wl,Au,Gx,Ed,Aa,hI.ob,oF1,Ce,e,hk,q x p hx]using hR
def tE(h:aD_)(w:Ct W)(hB:B<4000)(hx:eH!)(hR:R fu_ M):Dk t dD! M R:=by obtain⟨ad,rfl,hO,hI⟩:=h;obtain⟨k2,e2,h2,_,q⟩:=hI.dirV (b:=true);obtain⟨k,hk⟩:=yN w hx;obtain⟨hr,lr⟩:=hI.row (b:=true) hx;refine h_;simp[Fb,Aq,w2,wl,Au,Gx,Ed,Aa,hI.ob,oF2,Ce,h2,hk,(q x).1 hx,Ay,Ac,Db,hr.ob,rM];exact vB hr a! hR
def tR(h:aD_)(w:Ct W)(hx:a0!)(hR:R d8! M):Dt t dD! M R:=by
 obtain⟨ad,rfl,hO,hI⟩:=h;obtain⟨k,hk⟩:=(w.nm x hx).key;obtain⟨k4,e4,h4,e,hq⟩:=hI.numV (x:=x) hx;have hq:M iw!=some d8!:=hq;have hl:(bp!).length<=big:=by rw[w.nl x hx];decide
 refine h_;simpa[Fn,Aq,w1,Ab,Ac,w2,wl,Au,Gx,Ed,Aa,hI.ob,oF4,Ce,h4,hk,e,Ug,Nz,hq,hl]using hR
end
section
variable{M:Mh}{R:D->Mh->Prop}{w:qT!}{O:Addr->Prop}{W:OW}{x v:D}{k:MK}
def zN(h:ax!)(wi:Ct W)(hx:Sd x)(hl:hl!):Ph Fq [.fn w,x] M fu_:=λK hK=>by
 obtain⟨wt,wn,qa,hA⟩:=h;obtain⟨e,hw⟩:=hA.mw;refine h_;show Aq yX! jZ! M _;simp only[Aq,Bb,Bo,ixw (ρ:=jZ!) rfl hw k3r];refine yY_;refine cM (λd=>match d with|.tup [_,p]=>decide (p=x)|_=>false) (λd=>match d with|.tup [i,_]=>i|_=>.non) trivial _ _ bz! ?_
 .show"!J";refine⟨c8_,rfl,λK hK=>gF (ρ:=c8_) (b:=decide (q.2=x)) ?_ _ hK,λ_ K hK=>aL (ρ:=c8_) (f:=f2 Al w_ A_) yM _ hK⟩;have:f2 Aw fD! s_ c8_=some (.bl (decide (q.2=x))):=cN a7i rfl (nS (mQ wi q hq).2.1 hx);show"#+"
 .rw[NV,JZ];exact hK
end
def Ry(W:OW)(P:dI!):Prop:=∀x∈W.its,P x/\∀d∈W.num x,∃i:Int,d=.int i
def b3t{W:OW}{P:dI!}(h:Ry W P)(hn:P n)(hs:Uk W n d W'):Ry W' P:=by
 cases hs with
 |put _ _ _=>
  intro x hx;show P x/\∀d∈vk_,_;by_cases c:x=n
  .rw[IB c,c];exact⟨hn,λd hd=>⟨0,by simpa using hd⟩⟩
  .rw[IF c];have iz:x∈W.its++[n]:=hx;exact h x ((IM.mp iz).resolve_right λz=>c iL!)
 |@set a p v _ _ _=>
  split
  .intro x hx;refine⟨(h x hx).1,?_⟩;show∀d∈(if x=a then(eP!).set p.toNat iW! else W.num x),_;by_cases c:x=a
   .rw[IB c];exact λd hd=>(List.mem_or_eq_of_mem_set hd).elim ((h a (c▸hx)).2 d) λz=>⟨v,z⟩
   .rw[IF c];exact(h x hx).2
  .exact h
 |_=>first|exact h|(split<;>exact h)
def b3u{W:OW}{os:i_}{P:dI!}(hr:Tq W os W'):Ry W P->(∀o∈os,P o.nm)->Ry W' P:=by
 induction hr with
 |nil=>exact λh _=>h
 |cons hs _ ih=>exact λh g=>ih (b3t h (g _ HV) hs) λo ho=>g o (HR _ ho)
section
variable{t:As}{M:Mh}{ρ:Ae}{a w:qT!}{W:OW}{o:qT!}{O Ow:Addr->Prop}{x:D}{k:MK}
def a5k{R:v_}{Q:bB!}(ym:dV!)(hk:Q_)(hR:∀M' o O,OS t M' a o O W->Q M'->R vG! M'):Jt t cZ_ M R:=by refine h_;show Aq ti_ [q!,aF_] M _;unfold Aq Ay;refine vX (a:=o_) rfl (ym _ λM' o O h hQ=>⟨h.nob oM1,?_⟩);exact⟨rfl,yR h.out hk (hR M' o O h hQ)⟩
def qN(h:aO!)(hk:Q_)(hx:a0!):Ph (Cd t) cZ_ M Z!:=λK hK=>by
 refine h_;refine fH qP! ?_;refine dO (wO (jO (b:=true) (dG fh! (h.nob oM2) a0_ λK hK=>iM h.out hk qQ!))) ?_;exact cH fh! hK
def b7u(h:aO!)(hk:Q_)(hx:eH!):Ph (Gq t) cZ_ M Z!:=λK hK=>by
 refine h_;refine fH qP! ?_;refine dO (wO (jO (b:=true) (dG fh! (h.nob oM1) a0_ λK hK=>yR h.out hk qQ!))) ?_;exact cH fh! hK
def a5b(h:aO!)(wi:Ct W)(hk:Q_)(hx:eH!):Ph (Gu t) cZ_ M fu_:=λK hK=>by
 refine h_;exact cH (dG (dH aP! a0_ (b7u h hk hx)) hm_ a0_ λK hK=>tE h.out wi a_ hx hK) hK
def b3d{p:D}(h:aO!)(hk:Q_)(hx:a0!)(hp:jy!):Ph (Li t) cZ_ M p:=λK hK=>by
 refine h_;exact cH (dG qR_ hm_ a0_ λK hK=>wS h.out hk hp hK) hK
def c2u{v:D}(h:aO!)(wi:Ct W)(hk:Q_)(hx:a0!)(hl:jX_)(hj:o5!):Ph (Qm t) cZ_ M v:=λK hK=>by
 refine h_;exact cH (dG qR_ hm_ a0_ λK hK=>a2u h.out wi hx a_ hl hj hK) hK
def b8h{f:aV_}{q2:WS}{R:o!}(h:f ρ=some false)(k:cQ_):Af (Ap (Ck f) Bg Bj) q2 ρ M R:=dO (gF h) k
def b2o{i:Nat}(hi:i<4):Cb [fq_]=some v!:=yX a! a!
def b3s{i:Nat}{v:D}(h:aO!)(wi:Ct W)(hk:Q_)(hx:a0!)(hi:i<4)(hv:bp![i]?=some v):Ph (Jo t) [o_,x,fq_] M v:=λK hK=>by
 refine h_;have hn:Ph (Dj t) [o_,x,fq_] M Z!:=λK hK=>by
  refine h_;show Af th! (Aq lW_) d8_ M _;have hp:Cp lV_ d8_=some false:=by
   have:f1 Cb bH_ d8_=some v!:=(vO (pN (f:=Aa 2) (d:=fq_) rfl)).trans (b2o hi);unfold Cp fT;rw[this];rfl
  have f0:Aa 0 d8_=some bl_:=rfl;have vm:Aa 1 d8_=some x:=rfl;generalize d8_=env at hp f0 vm ⊢;exact b8h hp (cH (dH (aL f0) (aL vm) qS_) hK)
 have iz:Ce M d8! fw!=some v:=by
  show Fj bp! bz_=_;show"!x";rw[aj!,IB (by rw[wi.nl x hx];omega)];simpa using hv
 exact cH (dM (dG (a0l aP! a0_ hd! hn) hm_ a0_ λK hK=>tR h.out wi hx hK) hd! iz) hK
def b0p(wi:Ct W){x:D}:Av fu_=true/\Hk fu_<=40:=by
 have h:∀d∈chl W.rows x,Sd d:=λd hd=>(mQ wi cU_ (gQ.mp hd)).1.sd;show"!{"
 .show Bx kP_=true;exact fU λd hd=>fN (h d hd)
 .show Cw kP_+1<=40;have:=iH (n:=5) λd hd=>mG (h d hd);omega
def FR(ft:WT)(q1 q2:WS)(ρ:Ae)(R:o!)(d:D)(M:Mh):Prop:=match d with
 |.bl b=>(if b then(if true then q1 ρ M R else q2 ρ M R)else ft ρ M λb M1=>if b then q1 ρ M1 R else q2 ρ M1 R)
 |_=>False
def a7p{fa:WE}{ft:WT}{q1 q2:WS}{R:o!}(h:fa ρ M (FR ft q1 q2 ρ R)):Ap (BB (wT fa) ft) q1 q2 ρ M R:=h
def c7d{ft:WT}{q1 q2:WS}{R:o!}(h:jg_)(k:cQ_):FR ft q1 q2 ρ R af_ M:=by show(if false=true then(if true=true then q1 ρ M R else q2 ρ M R)else ft ρ M λb M1=>if b then q1 ρ M1 R else q2 ρ M1 R);refine h _ ?_;rw[bj!];exact k
def FN(g:gB_)(fb:j!)(ρ:Ae)(K:v_)(x:D)(M:Mh):Prop:=wl fb ρ M λy M2=>match g M2 x y with|some d=>K d M2|none=>False
def c6k{g:gB_}{fo:WE}{fb:j!}{K:v_}(h:fo ρ M (FN g fb ρ K)):w2 g fo i5! ρ M K:=h
def b0y{g:gB_}{fb:j!}{K:v_}{x:D}(hb:wJ_)(hg:yl!)(k:K d M):FN g fb ρ K x M:=by unfold FN;rw[bQ hb,hg];exact k
def EY(t:As):WS:=Ap up! ew_ Bj
def a5w{Q:bB!}{R:o!}(ym:dV!)(hQ:∀M',Q M'->Bp M' w Ow W)(wi:Ct W)(hl:hl!)(hk:Q_)(hx:eH!)
  (hR:∀M' o O,OS t M' a o O W->Q M'->R (.nx cy!) M'):EY t cy! M R:=by
 refine a7p (c6k (jN (a:=o_) (b:=x) rfl rfl (a5k ym hk λM' o O h q=>?_)));have hL:=hQ M' q;have h2:Pm uo_ cy! M' false:=by
  refine jO (dM (dH aP! a0_ (a5b h wi hk hx)) (dH d9! a0_ (zN hL wi (b5h wi hx) hl)) ?_);obtain⟨n1,n2⟩:=b0p wi (x:=x);exact lC n1 n2
 refine b0y (y:=d6!) (d:=he_) rfl ?_ (c7d h2 (hR M' o O h q));rw[IN hx];rfl
def a5x(h:aO!)(hL:hp!)(wi:Ct W)(hl:hl!):∀(xs:d!) (y:ao_) (R:o!),(∀x∈xs,Kn W x)->qX_->Gf B! W! (EY t) xs qY! M R
 |[],y,R,_,hR=>⟨trivial,hR y⟩
 |x::xs,y,R,hx,hR=>by
  refine M!;obtain⟨k,hk⟩:=yN wi kT!;refine a5w (Q:=λM'=>M'=M) h.of (λM' e=>by rw[e];exact hL) wi hl hk kT! λM' o' O' h' e=>?_;have e':M'=M:=e;rw[e'];exact a5x h hL wi hl xs fv! R qZ! hR
def b8t{f:WE}(h:jg!):Pu (Nm (Ab f Ac)) ρ M (.lst [d]):=λK hK=>by
 exact h _ ⟨by show 1<=1000;decide,hK⟩
def a8v{p:D}(hx:Sd x)(hp:Sd p):Av kU!=true/\Hk kU!<=40:=by
 have d1:=mG hx;have d2:=mG hp;show"!{"
 .show Bx kU_=true;refine fU λd hd=>?_;rw[II.mp hd];refine fU λd hd=>?_;simp only[HW,HY,OH]at hd;obtain rfl|rfl:=hd
  .exact fN hx
  .exact fN hp
 .have Y:Cw [x,p]<=5:=iH λd hd=>by
   simp only[HW,HY,OH]at hd;obtain rfl|rfl:=hd
   .exact d1
   .exact d2
  have h2:Cw kU_<=6:=iH λd hd=>by
   rw[II.mp hd];show Cw [x,p]+1<=6;omega
  show Cw kU_+1<=40;omega
def a8u{p:D}(hL:hp!)(wi:Ct W)(hl:hl!)(hx:a0!)(hp:jy!):
  Pu us_ cy! M kU!:=λK hK=>by
 obtain⟨wt,wn,qa,hA⟩:=hL;obtain⟨e,hw⟩:=hA.mw;unfold Bb Bo;have i1:Ce M bU_ et_=some (.lst jl_):=(eO (k:=some (.inl (.inr "rows"))) hw rfl).trans k3r;refine dM d9! (aL (d:=.str "rows") rfl) i1 _ ?_;refine ff_;refine cM (λd=>match d with|.tup [i,_]=>decide (i=x)|_=>false) id trivial _ _ bz! ?_
 .show"!J";obtain⟨Y,h2,_⟩:=mQ wi q hq;refine⟨c8_,rfl,jt_,o6_⟩
  .have e1:fT us! c8_=some q3!:=by
    have:f2 Aw a5_ s_ c8_=some (.bl q3!):=by
     show(y0_).bind (λz=>Aw z x)=_;rw[yM];exact nS Y.sd (q4!).sd
    show"#+"
   unfold Ck;rw[e1];exact hK
  .rw[bQ (f:=Aa 0) (d:=Ax q) rfl];exact hK
 .have e2:(((jl_).filter λd=>match d with|.tup [i,_]=>decide (i=x)|_=>false).map id)=q2!:=by
   rw[RF,NV];show(y5_).map Ax=_;rw[c1p wi hp];rfl
  rw[e2];exact hK
def a9s(h:aO!)(wi:Ct W)(hk:Q_)(hx:a0!):
  Pu uu_ cy! M d8!:=λK hK=>by
 have hi:Fg de! cy!=some q5_:=kY (n:=4) rfl a_;unfold Bb Gh;rw[hi];refine qn!;have hl:=wi.nl x hx;refine cM gI! (λd=>match d with|.int i=>(bp!).getD i.toNat .non|_=>.non) trivial _ _ bz! ?_
 .obtain⟨i,hi,rfl⟩:=IY.mp hd;have ez:=PC.mp hi;refine⟨[kE_,q!,aF_],rfl,gI_,o6_⟩;have hv:bp![i]?=some ((bp!).getD i .non):=by
   rw[MQ,IE a!];rfl
  exact a0l aP! a0_ hd! (b3s h wi hk hx ez hv) _ hK
 .have e2:(((q5_).filter λ_=>true).map λd=>match d with|.int i=>(bp!).getD i.toNat .non|_=>.non)=W.num x:=by
   match hh:W.num x,hl with
   |[a,b,c,d],_=>rfl
  rw[e2];exact hK
def a9t{P:dI!}(hn:Ry W P)(hx:a0!):Av d8!=true/\Hk d8!<=40:=by
 have h:=(hn x hx).2;show"!{"
 .show Bx bp!=true;exact fU λd hd=>by obtain⟨i,rfl⟩:=h d hd;rfl
 .show Cw bp!+1<=40;have:=iH (n:=0) (ds:=W.num x) λd hd=>by obtain⟨i,rfl⟩:=h d hd;exact IH _
  omega
def DQ(t:As):WS:=(Af uq_
 (Af ut_
 uv_))
def b8n{pre:d!}{R:o!}(h:aO!)(hL:hp!)(hw:eQ!)(bw:Sb W 1500){P:dI!}(hn:Ry W P)(hx:a0!)(hR:R (.nx cy!) M):DQ t cy! M R:=by
 have wi:=hw.inv;obtain⟨k,hk⟩:=(q4!).key;have l1:=bw.rows;have l2:=bw.txt x;obtain⟨s,hj⟩:=b5c hw hx a!;obtain⟨q,hq,e⟩:=IY.mp ((wi.ri x).mpr hx);obtain⟨q1,p⟩:=q;have e':q1=x:=e;subst e';obtain⟨_,sp,_⟩:=mQ wi _ hq;refine dO ?_ ?_
 .refine jO (dM (dH aP! fx_ (c2u h wi hk hx a! hj)) (dH d9! fx_ (tI hL hx hk a! hj)) ?_);exact lC rfl (by show 0<=40;decide)
 refine dO ?_ ?_
 .refine jO (dM (b8t (wN fx_ (dH aP! fx_ (b3d h hk hx hq)))) (a8u hL wi a! hx hq) ?_);obtain⟨n1,n2⟩:=a8v (wi.nm q1 hx).sd sp;exact lC n1 n2
 refine oE ?_ hR;obtain⟨wt,wn,qa,hA⟩:=id hL;obtain⟨e0,US⟩:=hA.mw;obtain⟨e1,hn1⟩:=hA.mn;obtain⟨hq1,_⟩:=hA.mq hx;have i1:Ce M bU_ mc_=some eZ!:=(eO (k:=some (.inl (.inr "numbers"))) US rfl).trans k3n;have i2:Ce M eZ! q1=some kX!:=(eO hn1 hk).trans (by rw[kK,IB hx]);refine jO (dM (a9s h wi hk hx) (dM (dM d9! (aL (d:=.str "numbers") rfl) i1) fx_ i2) ?_);have:Sz M kX!=.lst (W.num q1):=by simp only[Sz,hq1]
 show Gw (.lst (W.num q1)) (Sz M kX!)=_;rw[this];obtain⟨n1,n2⟩:=a9t hn hx;exact lC n1 n2
def a5v{pre:d!}{ck:bB!}(c6:ck M)(h:aO!)(hL:hp!)(hw:eQ!)(bw:Sb W 1500){P:dI!}(hn:Ry W P):∀(xs:d!) (y:ao_) (R:o!),(∀x∈xs,x∈W.its)->qX_->Gf B! ck (DQ t) xs qY! M R
 |[],y,R,_,hR=>⟨c6,hR y⟩
 |x::xs,y,R,hx,hR=>by
  refine ns_;refine b8n h hL hw bw hn kT! ?_;exact a5v c6 h hL hw bw hn xs fv! R qZ! hR
def a3e:Rq t=Af um!
 (Af (Bw un! B! (EY t))
 (Af (Bw (Ja mi_) B! (DQ t))
 ux!)):=rfl
def Hd.shows{yy:Int}{S ops:i_}{X:O!}{R:v_}(h:a1!)(hO:Hist ops)(hp:S.Perm ops)(hR:∀M',Lk t M yy a S X M'->R v! M'):Jq t [o_,nx_] M R:=by
 have hl:=h.hl;have lo:ops.length<64:=by rw[<-hp.length_eq];omega
 have es:srt S=srt ops:=iI hp h.hH.keys;refine h_;rw[a3e];refine cX (vX (a:=nx_) rfl (b7q hO.keys hO.names lo (λo ho=>(hO.op o ho).dg) λw M1 Ow W US hr hL hw bw fr=>?_));obtain⟨pre,hw⟩:=hw;have wi:=hw.inv;have l1:=bw.rows;have l2:=bw.its;have Y:=h.keepA λb hb=>(dU!).1;have hr':Rn S W:=by unfold Rn;rw[es];exact hr
 have hn:Ry W λx=>x≠.tup kX_:=b3u hr (λx hx=>by cases hx) λo ho z=>by
  have:=(hO.op o ((aV ops).mem_iff.mp (ph!).1)).hh;simp only[Op.nm,D.tup.injEq,QS,D.int.injEq]at z;omega
 have tx:∀{M:Mh},Bp M w Ow W->∃wt e,Ce M bU_ mb!=some eY_/\M wt=some yH_:=λhL=>by
  obtain⟨wt,wn,qa,hA⟩:=hL;obtain⟨e0,h0⟩:=hA.mw;obtain⟨e1,ht⟩:=hA.mt;exact⟨wt,e1,(eO (k:=some (.inl (.inr "texts"))) h0 rfl).trans k3t,ht⟩
 have ek:(cn!).map c_=W.its:=by
  rw[JZ];show W.its.map (λi=>i)=_;rw[List.map_id']
 obtain⟨wt,e1,i1,ht⟩:=tx hL;have kd:Og M1 [.fn wt]=some re!:=by
  show((Dm M1 eY_).map λq=>D.lst gL_)=_;rw[cE ht];show some (D.lst _)=_;rw[ek]
 have ad:Kc M1 (.lst i8!) re!=some (.lst (i8!++W.its)):=by
  show(if[root,binn].length+gH_<=big then _ else none)=_;rw[IB (by simp only[IW,MF];unfold big;omega)]
 unfold Af Bw Bo;refine dM (aL (d:=.lst i8!) rfl) (uP (dM d9! rh! i1) kd) ad _ ?_;refine M!;have js:∀M',Lk t M1 yy a S X M'->Bp M' w Ow W:=λM' ⟨X',_,c⟩=>hL.keep λb hb=>c.kp b (hL.live hb) λz=>(fr b BI!).2 hb;refine a5w (W:=W) (Ow:=Ow) (Y.of hr') js wi a! (k:=some (.inl (.inr "root"))) rfl eZ_ λM2 o O jx q=>?_;have ug:=js M2 q;refine a5x jx ug wi a! (binn::W.its) (some root) _ kj_ λy'=>?_
 .obtain rfl|hx:=HW.mp hx
  .exact .inr du!
  .exact .inl hx
 show Bw (Ja _) B! (DQ t) [q!,gr!,ac!,y'] M2 _;obtain⟨wt2,q8,i2,UT⟩:=tx ug;unfold Bw Ja;refine dM d9! rh! i2 _ ?_;rw[cE UT];refine gC ?_;rw[ek];refine a5v (pre:=pre) UT jx ug hw bw hn W.its y' _ (λx hx=>hx) λy2=>?_;have h99:¬Kn W (.tup kX_):=λz=>by
  obtain z|z|z:=z
  .exact(hn _ z).1 rfl
  .cases z
  .cases z
 refine cH (dM (dH aP! (aL (d:=.tup kX_) rfl) λK hK=>a5k (k:=some (.inr [.inl 9,.inl 9])) jx.of rfl λM' _ _ _ e=>by rw[IG h99,show M'=M2 from e];exact hK) (aL (d:=he_) rfl) (d:=d6!) rfl) (hR M2 ?_);obtain⟨X',g,c⟩:=q;exact⟨X',g,(Nl.of λb hb=>(dU!).1).trans c⟩
end
section
variable{t:As}{M M1:Mh}{ρ:Ae}{U:List Op}{a l:Nat->Addr}{S:Nat->List Op}{am:Nat->Addr->Prop}{i j:Nat}{R:D->Mh->Prop}
def three{P:Nat->Prop}(h0:P 0)(Y:P 1)(h2:P 2):∀j,j<3->P j:=λj hj=>by
 have c:j=0\/j=1\/j=2:=by omega
 obtain rfl|rfl|rfl:=c
 .exact h0
 .exact Y
 .exact h2
nonrec def l3(a:kH!):D:=.lst rl_
def ixh{f g:j!}(hf:f ρ=some (l3 a))(hg:g ρ=some hs_)(hj:j<3):f2 Al f g ρ=some ft_:=cN hf hg (three (P:=λj=>Al (l3 a) hs_=some ft_) rfl rfl rfl j hj)
def c6v:Pu uM! ρ M (.lst (ql!).flatten):=λK hK=>⟨aW_,wo_,hK⟩
def Sy.perm(h:aH!)(hj:j<3)(hf:ht_):(bE!).Perm U:=(OC (hf!).nodup h.u.nodup).mpr λo=>⟨h.s j hj o,hf o⟩
def Sy.shows(h:aH!)(hj:j<3)(hf:ht_)(hR:∀M' Z',Sy t M' U a l S Z'->R v! M'):Jq t [hg!,.lst hu_] M R:=by
 obtain⟨X,xs,hd,hx,hi,hz⟩:=h.p j hj;refine hd.shows h.u.srt ((ro!).trans (aV U).symm) λM' ⟨X',g,c⟩=>?_;obtain⟨e,n⟩:=c.off qv! hx;obtain⟨p,c2⟩:=g.pl n pT! c hz;have es:(λk=>if k=j then S j else S k)=S:=funext λk=>by
  by_cases c:k=j
  .rw[IB c,c]
  .rw[IF c]
 have:=h.upd hj p c2 h.u h.n h.t g0! kK_ fs! (h.w j hj);rw[es]at this;exact hR M' _ this
def Sy.give(h:aH!)(hj:j<3)(hf:ht_){f:j!}(e:f ρ=some ft_)(hR:∀M',Sy t M' U a l S am->R (.lst hu_) M'):Ag 2 dr_ (Ab gy! ii_) ρ M R:=by obtain⟨X,hd⟩:=(d5_).hd;refine b7m e (c6v _ ⟨rfl,hd.give λM' fr=>?_⟩);rw[iI ro! (hf!).keys];exact hR M' (h.keep fr)
def b3g(h:a2_):Ue M (.lst fA!) (.lst fA!)=some af_:=by
 refine lC (show Bx fA!=true from fU λd hd=>?_) ?_
 .obtain⟨o,ho,rfl⟩:=IY.mp hd;exact(rq_).1
 .have:Cw fA!<=5:=iH λd hd=>by
   obtain⟨o,ho,rfl⟩:=IY.mp hd;exact(rq_).2
  show Cw fA!+1<=40;omega
def c8n{g:WF}{f1 f2 f3:j!}{K:v_}(Y:nf_)(h2:f2 ρ=some y)(h3:f3 ρ=some z)(k:g [x,y,z] M K):Ag 3 g nq! ρ M K:=by unfold Ag Ab Ac;rw[bQ Y,cW!,bQ h3];exact bV!
nonrec def lE(ns:u!)(a l:kH!)(y3 y4 y5 y6 y7:ao_):Ae:=[k1_,some (l3 a),some (l3 l),y3,y4,y5,y6,y7]
def FG(t:As):WS:=(Af uI_
 (Af uJ!
 uK_))
def lwl{ns:u!}(nd:t.nd):∀(is:n!) (M:Mh) (U:i_) (S:qy!) (am:qx_) (y3 y4 y5 y6 y7:ao_) (R:o!),Sy t M U a l S am->cs_+is.length<49->(∀M' U' S' Z' mj y6' y7',Sy t M' U' a l S' Z'->R (.nx (lE ns a l mj y4 y5 y6' y7')) M')->
  Gf B! W! (FG t) (is.map λi=>D.int bz_) fB_ M R:=by
 intro is
 induction is with
 |nil=>intro M U S am y3 y4 y5 y6 y7 R h _ hR;exact⟨trivial,hR M U S am y3 y6 y7 h⟩
 |cons i is ih=>
  intro M U S am y3 y4 y5 y6 y7 R h hn hR;rw[IW]at hn;refine M!;show FG t (lE ns a l k3! y4 y5 y6 y7) M _;obtain⟨m,em,m0,_⟩:=b4g ns (k:=1+(i:Nat));refine kX (d:=dI_) (a7v (lS (d:=AA ns) rfl (lS (d:=.int (1+(i:Nat))) rfl rfl)) em) ?_;show Af _ _ (lE ns a l k3! y4 y5 (some eN_) y7) M _;refine kX pW_ ?_;have b1:0<=m%3:=ND _ a_;have b2:m%3<3:=LQ _ a_;obtain⟨j,hj⟩:∃j:Nat,(j:Int)=m%3:=⟨(m%3).toNat,p_⟩;rw[<-hj];show Ap _ _ _ k5! M _;have j3:j<3:=by omega
  have t1:fT uJ_ k5!=some (m / 3%4==0):=kM (cN (nG rv! a_) rfl dT!);refine ifB t1 ?_ ?_
  .obtain⟨k,hk⟩:∃k:Nat,(k:Int)=((j:Nat)+1:Int)%3:=⟨(((j:Nat)+1:Int)%3).toNat,p_⟩;have e2:f2 Er me_ az_ k5!=some dM_:=by rw[hk];exact nG rfl a_
   refine iF (jN k5_ (ixh rfl e2 a!) (h.met nd j3 a! λv M' S' Z' h' _ _=>?_));exact ih M' U S' Z' _ y4 y5 _ _ R h' a! hR
  .refine iF (c8n k5_ rv! k5_ (h.make j3 a! λv M' U' S' Z' hl h'=>?_));exact ih M' U' S' Z' _ y4 y5 _ _ R h' a! hR
def Sy.meet{ns:u!}{K:v_}(nd:t.nd)(h:aH!)(hi:i<3)(hj:j<3)(hR:∀v M' S' Z',Sy t M' U a l S' Z'->kN_->qI_->K v M'):Ag 2 dx! (Ab (wl (f2 Al s_ (fC fw!))) (Ab (wl (f2 Al s_ (fC hs_))) Ac)) fB_ M K:=
 jN (ixh rfl rfl hi) (ixh rfl rfl hj) (h.met nd hi hj hR)
def DR(t:As):WS:=(Af (Az k9!)
 (Az (Ag 2 dx! (Ab rz! (Ab (wl (f2 Al s_ (fC (.int ((2:Nat):Int))))) Ac)))))
def FK(t:As):WS:=uN_
def c7c{ft:WT}{q1 q2:WS}{R:o!}(h:ft ρ M λb M1=>if b then q1 ρ M1 R else q2 ρ M1 R):FR ft q1 q2 ρ R af_ M:=h
def HM(K:eX_)(d:D)(M:Mh):Prop:=match d with
 |.bl b=>K (!b) M
 |_=>False
def c7n{f:WE}{K:eX_}(h:f ρ M (HM K)):Jx (wT f) ρ M K:=h
def yV{ns:u!}{R:o!}(h:aH!)(hj:j<3)(hf:ht_)(hR:∀M' Z',Sy t M' U a l S Z'->R (.nx rC_) M'):FK t rC_ M R:=by refine a7p (c6k (h.give hj hf rfl λM' h'=>b0y rfl (b3g h.u.srt) (c7c (c7n ?_))));refine jN (a:=hg!) (b:=.lst hu_) rfl rfl (h'.shows hj hf λM2 Z2 h2=>?_);exact hR M2 Z2 h2
def b2a:Wo t=(Af uF!
 (Af uG!
 (Af (Bw uH_ B! (FG t))
 (Af (Bw mq_ B! (DR t))
 (Af (Az k9!)
 (Af rE!
 (Af rE_
 mr!))))))):=rfl
nonrec def pk{α:Type}(x y z:α)(j:Nat):α:=if j=0 then x else if j=1 then y else z
def c4k{yy:Int}{fy:j!}{K:v_}(hy:Aw!)(hR:∀a X M',Hd t M' yy a [] X->ci_->(∀b,X b->M b=none)->K bl_ M'):Dy t.B5 2 eA! Aw_ ρ M K:=
 a9y hy λa ta wa M' hA fr n=>hR a _ M' (hA.hd .nil a_) fr n
def dz{X X':O!}{l:qT!}(h:∀b,X b->¬X' b)(Y:¬X l')(h2:¬X' l)(h3:l≠l'):∀b,(X b\/b=l)->¬(X' b\/b=l'):=λb hb fq=>by
 obtain z|z:=hb
 .obtain z'|z':=fq
  .exact h b z z'
  .exact Y (z'▸z)
 .obtain z'|z':=fq
  .exact h2 (z▸z')
  .exact h3 (z.symm.trans z')
def b7o{X0 X1 X2:O!}(h0:Hd t M 0 a0 [] X0)(Y:Hd t M 7 a1 [] X1)(h2:Hd t M 15 a2 [] X2)(d01:∀b,X0 b->¬X1 b)(d02:∀b,X0 b->¬X2 b)(d12:∀b,X1 b->¬X2 b)(n0:M l0=none)(n1:M l1=none)(n2:M l2=none)(um:l0≠l1)(uo:l0≠l2)(q8:l1≠l2):
  Sy t ld! [] rI! (pk l0 l1 l2) (λ_=>[]) (pk (λb=>X0 b\/b=l0) (λb=>X1 b\/b=l1) (λb=>X2 b\/b=l2)):=by
 have no:∀{yy:Int} {a l:qT!} {X:O!},Hd t M yy a [] X->M l=none->¬X l:=λh n z=>h.live _ z n;have kp:∀{yy:Int} {a:qT!} {X:O!},Hd t M yy a [] X->Hd t ld! yy a [] X:=λh=>h.keepA λb hb=>((mup_ne (cU hb n2)).trans (mup_ne (cU hb n1))).trans (mup_ne (cU hb n0));have it:∀{l:qT!},mup rH_ l2 b0_ l=some b0_->Tu ld! l rG_ 0:=λe=>⟨e,List.cons_ne_nil _ _,IH _,λx hx=>.inl (II.mp hx)⟩;have UU:=dz d01 (no h0 n1) (no Y n0) um;have UV:=dz d02 (no h0 n2) (no h2 n0) uo;have UW:=dz d12 (no Y n2) (no h2 n1) q8;refine⟨three ⟨X0,_,kp h0,no h0 n0,it ?_,fn_⟩ ⟨X1,_,kp Y,no Y n1,it ?_,fn_⟩ ⟨X2,_,kp h2,no h2 n2,it ?_,fn_⟩,λi j hi hj ij=>?_,.nil,aW_,λo ho=>(by cases ho),λj _ o ho=>ho,λj _ o ho _=>ho⟩
 .exact(mup_ne uo).trans ((mup_ne um).trans mup_same)
 .exact(mup_ne q8).trans mup_same
 .exact mup_same
 .revert ij
  revert j
  revert i
  refine three (three rL_ (λ_=>UU) λ_=>UV) (three (λ_ b h g=>UU b g h) rL_ λ_=>UW) (three (λ_ b h g=>UV b g h) (λ_ b h g=>UW b g h) λz=>absurd rfl z)
end
section
variable{t:As}{M:Mh}{ρ:Ae}{U:List Op}{a l:Nat->Addr}{S:Nat->List Op}{am:Nat->Addr->Prop}{ns:List Int}{y3 y4 y5 y6 y7:Option D}{R:Fl->Mh->Prop}
def c5g(h:aH!)(hf:∀j,j<3->∀o∈U,o∈S j)(hR:∀M',R (.rt v!) M'):
  Af rE! (Af rE_ mr!) fB_ M R:=by
 refine cX (h.give (j:=0) a_ (hf 0 a_) (ixh rfl rfl a_) λM1 Y=>?_);refine qW (ds:=rl_) rfl M!;refine yV (j:=0) Y a_ (hf 0 a_) λM2 Z2 h2=>M!;refine yV (j:=1) h2 a_ (hf 1 a_) λM3 Z3 h3=>M!;refine yV (j:=2) h3 a_ (hf 2 a_) λM4 Z4 h4=>M!;exact cH (aL (d:=d6!) rfl) (hR M4)
def b4h(nd:t.nd)(h:aH!)(hR:∀M' S' Z' mj,Sy t M' U a l S' Z'->(∀j,j<3->∀o∈U,o∈S' j)->R (.nx (lE ns a l mj y4 y5 y6 y7)) M'):
  Bw mq_ B! (DR t) fB_ M λr M1=>match r with
   |.nx au=>Az k9! au M1 R
   |.rt d=>R ae_ M1:=by
 have l0:0<3:=by decide
 have l1:1<3:=by decide
 have l2:2<3:=by decide
 have hi:Fg al_ fB_=some [aX_,.int 1]:=kY (n:=2) rfl a_;unfold Bw Gh;rw[hi];refine M!;show DR t (lE ns a l (some I_) y4 y5 y6 y7) M _;refine a7w (h.meet nd l0 l1 λ_ M1 S1 Z1 Y m1 k1=>?_);refine iF (Y.meet nd l1 l2 λ_ M2 S2 Z2 h2 m2 k2=>M!);have yn:∀o∈U,o∈S2 1/\o∈S2 2:=λo ho=>by
  obtain z|z|z:=(h.u.op o ho).hh
  .exact k2 o (.inl (k1 o (.inl (h.w 0 l0 o ho z))).2)
  .exact k2 o (.inl (k1 o (.inr (h.w 1 l1 o ho z))).2)
  .exact k2 o (.inr (m1 2 o (h.w 2 l2 o ho z)))
 show DR t (lE ns a l (some aI!) y4 y5 y6 y7) M2 _;refine a7w (h2.meet nd l0 l1 λ_ M3 S3 Z3 h3 m3 k3=>?_);refine iF (h3.meet nd l1 l2 λ_ M4 S4 Z4 h4 m4 k4=>M!);refine iF (h4.meet nd l0 l1 λ_ M5 S5 Z5 h5 m5 k5=>hR M5 S5 Z5 _ h5 (three bW_ bW_ λo ho=>?_))
 .exact m5 0 o (m4 0 o (k3 o (.inr (lj!).1)).1)
 .exact m5 1 o (m4 1 o (m3 1 o (lj!).1))
 .exact m5 2 o (m4 2 o (m3 2 o (lj!).2))
def c3a{q1 q2 q3:WS}(h:q1 ρ M λr M1=>match r with|.nx au=>q2 au M1 (λr2 M2=>match r2 with|.nx cf=>q3 cf M2 R|.rt d=>R ae_ M2)|.rt d=>R ae_ M1):Af q1 (Af q2 q3) ρ M R:=by exact h
def xL{K:v_}(k:∀p,M p=none->K x! (mup M p b0_)):Fw uF_ ρ M K:=⟨aW_,k⟩
def c7w{f g k:WE}{K:v_}(h:f ρ M λx M1=>g ρ M1 λy M2=>k ρ M2 λz M3=>[x,y,z].length<=1000/\K (.lst [x,y,z]) M3):Nm (Ab f (Ab g (Ab k Ac))) ρ M K:=h
def b4v(nd:t.nd):Zi t pj_ M0 (λd _=>d=.bl true):=by
 obtain⟨m,em,m0,_⟩:=b4g ns (k:=0);have b0:0<=m%10:=ND _ a_;have b1:m%10<10:=LQ _ a_;obtain⟨N,hN⟩:∃N:Nat,(N:Int)=m%10:=⟨(m%10).toNat,p_⟩;refine h_;rw[b2a];show Af (An 1 (Nm _)) _ [k1_,none,none,none,none,none,none,none] M0 _;refine cX (c7w ?_);refine c4k (yy:=0) rfl λa0 X0 M1 h0 f0 n0=>?_;refine c4k (yy:=7) rfl λa1 X1 M2 Y f1 n1=>?_;refine c4k (yy:=15) rfl λa2 X2 M3 h2 f2 n2=>rT!;show Af (An 2 (Nm _)) _ [k1_,some (.lst [.fn a0,.fn a1,.fn a2]),none,none,none,none,none,none] M3 _;refine cX (c7w ?_);refine xL λp0 q0=>?_;refine xL λp1 q1=>?_;refine xL λp2 q2=>rT!;have g0:=(rT_).keepA f2;have g1:=Y.keepA f2;have um:p0≠p1:=λz=>by rw[<-z,mup_same]at q1;cases q1
 have r1:M3 p1=none:=(mup_ne (JF um)).symm.trans q1;have q8:p1≠p2:=λz=>by rw[<-z,mup_same]at q2;cases q2
 have yo:=(mup_ne (JF q8)).symm.trans q2;have uo:p0≠p2:=λz=>by rw[<-z,mup_same]at yo;cases yo
 have r2:M3 p2=none:=(mup_ne (JF uo)).symm.trans yo;have sy:=b7o g0 g1 h2 (λb x0 x1=>h0.live b x0 (n1 b x1)) (λb x0 x2=>(rT_).live b x0 (n2 b x2)) (λb x1 x2=>Y.live b x1 (n2 b x2)) q0 r1 r2 um uo q8;generalize mup (mup (mup M3 p0 b0_) p1 b0_) p2 b0_=M4 at sy ⊢;show Af (Bw _ _ _) _ rU! M4 _;have em':Fg (DL.f2 Er (DL.f1 Ks uG_) lc_) rU!=some ((rU_).map λi=>D.int bz_):=kY (by rw[hN];exact nG (a7v (lS (d:=AA ns) rfl (lS (d:=aX_) rfl rfl)) em) a_) a!;refine qW em' (lwl nd rU_ M4 [] _ _ none none none none none _ sy (by rw[NX,MF];omega) λM5 U S am y3 y6 y7 h=>?_);refine c3a (b4h nd h λM6 S6 Z6 mj h6 hf=>c5g h6 hf λM'=>rfl)
end
end K14
namespace K14
open PySem L2 DL
section
def jX(T:e!):Ok P w K mg base 1 "is_whole" z! (Fi):=
 fL T.D2 e_ (λhr _=>(bV (cI (jK (kQ c0l rfl T.R6 rfl T.R5 dD c5z J!) (jK (c5p (kQ b5f rfl T.R6 rfl T.R0 dD c1m J!)) (gE (fQ a6o a6q (bM b7h c5u rfl T.Q8 c6a bf_) (bR c3u c4a aD aD) m_)))))))
end
section
def iA(T:e!):Ok P w K mg base 2 "is_from_one" z! (Di):=
 fL T.D4 e_ (λhr _=>(bV (cI (jK rW_ (gE (fQ c7g c7i J! aD m_))))))
end
section
def jY(T:e!):Ok P w K mg base 2 "is_below" lf! (Gr):=
 fL T.D3 e_ (λhr _=>(bV (cI (jK rW_ (gE (a2d iP iQ a6o a6q aD J! X_))))))
end
section
def hW(T:e!):Ok P w K mg base 3 "is_name" z! (Ek):=
 fL T.D5 e_ (λhr _=>(eH lm_ (bV (cI (jK (bC (jY T) b! rfl (aI aI_ (aI rZ_ aO)) df_) (gE r0!))))))
end
section
def jM(T:e!):Ok P w K mg base 4 "is_sign_name" z! (Dr):=
 fL T.D6 e_ (λhr _=>(eH lm_ (bV (cI (jK r1_ (gE (bC (jY T) b! rfl (aI aI_ (aI ei! aO)) df_)))))))
end
section
def a3o(T:e!):Ok P w K mg base 4 "is_item" z! (Jv):=
 fL T.D7 e_ (λhr _=>(bV (cI (vU r3! (vU r4_ (gE r4_))))))
end
section
def tP(T:e!):Ok P w K mg base 4 "is_sibling" z! (Gc):=
 fL T.D8 e_ (λhr _=>(bV (cI (vU r5! (gE r3!)))))
end
section
def xA(T:e!):Ok P w K mg base 5 "is_behind" z! (Hb):=
 fL T.D9 e_ (λhr _=>(bV (cI (vU r5! (gE (bC (jM T) b! rfl bf_ ar_))))))
end
section
def rL(T:e!):Ok P w K mg base 1 "is_sign" ee! (Ca):=
 fL T.E1 e_ (λhr _=>(bV (cI (jK (a2d iP iQ iP iQ aR J! aR) (gE (fQ uR uT (bM b7e c5t rfl T.S0 c5x bf_) (eK T.T5 rfl) m_))))))
end
section
def a3n(T:e!):Ok P w K mg base 2 "is_text" z! (Ju):=
 fL T.E2 e_ (λhr _=>(eH (nV (zA (vQ (fP (fB (kQ a7m rfl T.R6 rfl T.S9 dD b7n J!))) (pJ (fP (a1z iP iQ iP iQ aD fF! ei!))))) eg_ gS) (bV (cI (bM hF_ zF rfl T.Q9 zJ (aI (qJ (NL:=ee!) (NF:=[]) (ix:=[]) rfl a_ k_ (bS (sc:=Aj Nr) rfl k_) Cj.nil a_ rfl (b6n J!) r8! ad! hG! r8_) aO))))))
end
section
def pS(T:e!):Ok P w K mg base 3 "is_place" z! (Cb):=
 fL T.E3 e_ (λhr _=>(bV (cI (bC (jY T) b! rfl (aI J! (aI r9! aO)) df_))))
end
section
variable{P:xc!}{w:wZ!}{K:zM!}{mg:Str->Option Value}{base:Heap}{t:As}
def gJ{g:bP_}{ps:E_}{k:Nat}(h:Ok P w K mg base k x ps g)(hm:mg x=some aW!)(hp:P_=1)(hk:k<=5):∃fd ps,P_=1/\Eb P w K mg base Ng 5 ag fd ps (Zc K ps.length g)/\Do K fd ps []/\W.keepIn K aW!=true:=by obtain⟨f',fd,Y,h2,h3,h4⟩:=h;rw[hm]at h3;cases h3;exact⟨fd,ps,hp,Y.mono hk,h2,h4⟩
protected def c0q(T:e!):Zp P w K mg base 5 1 (Hu t):=by
 intro ag g e;unfold Hu at e;show"!8"
 .show"!5";exact gJ (a3o T) T.T7 rfl a_
 show"!8"
 .show"!5";exact gJ (tP T) T.T8 rfl a_
 show"!8"
 .show"!5";exact gJ (xA T) T.T9 rfl a_
 show"!8"
 .show"!5";exact gJ (a3n T) T.U0 rfl a_
 show"!8"
 .show"!5";exact gJ (jM T) T.U2 rfl a_
 show"!8"
 .show"!5";exact gJ (iA T) T.U3 rfl a_
 show"!8"
 .show"!5";exact gJ (pS T) T.U4 rfl a_
 show"!8"
 .show"!5";exact gJ (jX T) T.U5 rfl a_
 show"!8"
 .show"!5";exact gJ (hW T) T.U6 rfl a_
 cases e
end
section
def fM(T:e!):Dl P w K mg base 1 t.B5 "have" lG! eo_:=
 cS T.U7 T.K6 e_ (λhr _=>(aE (aW (nF bZ a5a rfl T.R7 dI (aB sb_ aH)))))
end
section
def lY(T:e!):Vj P w K mg base 1 "Hand" t.B5 lF! eA!:=
 xH T.K5 e_ (λhr _=>(aF (fO T.U7 T.W9 k! t_) (aF (fO T.U7 T.X4 k! eW) (aF (fO T.U7 T.X5 k! (jF aH)) se_))))
end
section
def b3q(T:e!):Ok P w K mg base 1 "_law_cell" fT_ (Qn):=
 fL T.P6 e_ (λhr _=>(eH (nV (b6h J!) (bV (cI (aN aJ aM J! (bR eY eZ X_ fF!) n_))) gS) (bV (cI aD))))
end
section
def xG(T:e!):Hl P w K mg base 1 "_law_children" ew! (Fq):=
 bO T.Q3 e_ (λhr _=>(aE (aW (fX (NL:=[bM!]) (NF:=[bj_]) (ix:=[1]) rfl a_ k_ (bS (sc:=Aj La) rfl k_) hI_ a_ rfl (dR b3_) lt_ ad! sg_ sh!))))
end
section
def b3p(T:e!):Hl P w K mg base 1 "_law_hang" uR! (Ni):=
 bO T.Q0 e_ (λhr nd=>(aF (lG (NL:=[bM!]) (NF:=[bj_]) (ix:=[1]) nd rfl h! rfl a_ k_ (bS (sc:=Aj Rg) rfl k_) hI_ a_ rfl (dR b3_) lt_ ad! (λ_ _ _ _ _=>kD (dX (bH cF! a3r aI_ X_ m_))) dj_) (aF hK! (aF (mZ JN (dX (zA (a4s (bH a6o a6q aK_ lu_ m_) (yZ (bH cF! a3r (aN aJ aM (aN aJ aM bg_ aK_ n_) aD n_) am_ m_))))) (aE (aT nd rfl h! (aC (bR aZ dZ aK_ aD))))) (aF (dQ JN rfl (kE (iG rfl T.S7 lu_)) aB_ (cL 6) (aE (cQ (dX (zA (a4s (bH wU xI at! dU m_) (yZ (bH U! bP (aN aJ aM bg_ b4! n_) (eI (aI at! fI!)) m_))))) (aE (aT nd rfl h! (aC (bR aZ dZ b4! aD)))) bL))) (aE (dP y! k! aK! (aC (bR aZ dZ (bR aZ dZ (eJ bg_ eX (eC aK_)) (pK (aI (eI rg!) aO))) (eJ bg_ (eC aK_) eX))))))))))
end
section
def c4c(T:e!):Hl P w K mg base 2 "_law_do" [cH_,bM!] (Uh):=
 bO T.Q1 e_ (λhr nd=>(aF (aT nd rfl a9! cG!) (aF (aT nd rfl a9! (aC (eI (aI hM! (aI hM! aO))))) (aE (cQ bI_ (aF (aT nd rfl h! (c7s (mB dm_ fS bJ! b3_ rfl) (b4i (aC (fQ U! bP b6! aR m_))))) (aF (dP y! b3_ aL_ lr!) (aF (dP y! b3_ aL_ (jF (aB as! (aB as! (aB as! hN!))))) (aE (dC (aK (b3p T) b! rfl (aB k! (aB aL_ (aB (aC (b6r (fB bg_) b6! aR)) (aB bJ! aH)))))))))) (aE (cQ bI_ bJ_ (aE (cQ bI_ bJ_ (aE (cQ lC! (aE (dP y! su! bJ! bJ!)) (aE (cQ lC! (aF (aT nd rfl h! su!) (aF hK! (aF (dQ JN rfl (kE (iG rfl T.S7 (bM bZ dW rfl T.R7 dI (aI aK_ aO)))) aB_ (cL 7) (aE (cQ (dX (bH U! bP (aN aJ aM (aN aJ aM aK_ dn_ n_) aD n_) b6! m_)) (aE (aT nd rfl h! (aC sw_))) bL))) (aF (lG (NL:=[bZ_]) (NF:=[mf_,mg!]) (ix:=[2,3]) nd rfl h! rfl a_ k_ (bS (sc:=Aj Vy) rfl k_) (Cj.cons (j:=2) lD_) a_ rfl (kE (iG rfl T.S7 (bM bZ dW rfl T.R7 dI (aI b6! aO)))) (λ_ _ _ _ _=>aY (show([bZ_,mf_,mg!]:List Str).Nodup by decide+kernel) rfl h!) ad! fN! (λ_ _ _ _ _=>(aC (eI (aI (bR aZ dZ am_ (eI bf_)) (aI (aN aJ aM hM! J! n_) (aI fG aO))))))) (aE (dP y! b3_ bJ! (aC (bR aZ dZ (bR aZ dZ (eJ aK_ eX (eC b4!)) (aA 8)) (eJ aK_ (eC b4!) eX))))))))) (aE (cQ lC! oX bL)))))))))))))))
end
section
def iB(T:e!):Dl P w K mg base 1 t.B6 "has" aA_ fG_:=
 cS T.U8 T.G6 e_ (λhr _=>(aE (aW (mB dm_ fS t_ hR_ rfl))))
end
section
def oQ(T:e!):Ok P w K mg base 1 "time_and_hand" bg! (Cr):=
 fL T.E7 e_ (λhr _=>(bV (cI (eI (aI aI_ ln!)))))
end
section
def jZ(T:e!):Ok P w K mg base 4 "in_order" b2! (Cn):=
 fL T.E8 e_ (λhr _=>(bV (cI (b6p (oQ T) (Ai.in1 (Ai.in1 b!)) rfl rfl T.S8 J!))))
end
section
def lB(T:e!):Vj P w K mg base 1 "Row" t.B7 bG_ (Et t):=
 xH T.E9 e_ (λhr _=>(aF (fO T.U9 T.V8 k! sM!) (aE (fO T.U9 T.V9 k! sM!))))
end
section
def tQ(T:e!):Vj P w K mg base 3 "Outline" t.B6 bG_ (Ge t):=
 xH T.F9 e_ (λhr _=>(aF (fO T.U8 T.W3 k! (nE y! (gP aK! cE! (gP aK! cE! rW)))) (aF (fO T.U8 T.W4 k! (nE y! (gP aK! hS! (gP aK! hS! rW)))) (aF (fO T.U8 T.W5 k! eW) (aF (fO T.U8 T.W6 k! eW) (aF (fO T.U8 T.W7 k! eW) (aE (fO T.U8 T.W8 k! eW))))))))
end
section
def fA(T:e!):Ok P w K mg base 1 "is_undo_or_redo" bg! (Am):=
 fL T.J8 e_ (λhr _=>(bV (cI (vU sP! (gE sP!)))))
end
section
def tO(T:e!):Hl P w K mg base 5 "last_words" b2! (Es):=
 bO T.J9 e_ (λhr nd=>(aF fO_ (aF (dQ JN rfl sP_ aB_ (cL 2) (aE (cQ (dX (fB (bC (fA T) b! rfl fI! ar_))) (aE (dP y! t_ hW! hW!)) bL))) dp_)))
end
section
def oP(T:e!):Hl P w K mg base 6 "undone" b2! (Gp):=
 bO T.K0 e_ (λhr nd=>(aF (aT nd rfl h! (aK (tO T) b! rfl aT_)) (aF fO_ (aF (dQ JN rfl sS_ aB_ bK_ (aF lM! (aE (cQ (a0y (oV (dX (fP (fB (bC (fA T) b! rfl lM_ ar_)))) (lF (dF U! fQ! (b4k y! t_ av! di_) aK! m_)))) (aE (dP y! K! av! fQ_)) bL)))) eq_))))
end
section
def xF(T:e!):Dl P w K mg base 1 t.B7 "holds" aA_ (Hc t):=
 cS T.U9 T.F6 e_ (λhr _=>(aE (aW (c4m (aC (fQ wU xI X_ dU m_)) (b4i (mB dm_ fS t_ er! rfl))))))
end
section
def iK(T:e!):Dl P w K mg base 2 t.B7 "put_behind" uO_ (Ch t):=
 cS T.U9 T.F7 e_ (λhr nd=>(aF (aT nd rfl h! (c2h (iC (cJ (xF T) b! k! fR!)) K! cE!)) (aF (aT nd rfl h! (cC N! bE er! aL_ n_)) (aF (dP y! er! aL_ t_) (aF (dP y! sZ! t_ aL_) (aF (dP y! er! t_ av!) (aE (dP y! sZ! av! t_))))))))
end
section
def rP(T:e!):Dl P w K mg base 3 t.B6 "put" uP! (Hj t):=
 cS T.U8 T.G8 e_ (λhr nd=>(aF (aT nd rfl h! (c2h (iC (cJ (iB T) b! k! fR!)) K! aK!)) (aF (dP y! s1_ t_ av!) (aF (dC (cJ (iK T) b! (cC N! bE hR_ av! n_) s3!)) (aF (dP y! hR_ t_ hS!) (aF (dP y! hY_ t_ hS!) (aE (dP y! s3_ t_ (b9y hN! (aC r9!))))))))))
end
section
def eR(T:e!):Dl P w K mg base 1 t.B6 "has_item" aA_ (Bs t):=
 cS T.U8 T.G7 e_ (λhr _=>(aE (aW (mB dm_ fS t_ hY_ rfl))))
end
section
def oU(T:e!):Dl P w K mg base 3 t.B6 "write" uP_ (Ft t):=
 cS T.U8 T.G9 e_ (λhr nd=>(aF (cQ (rT (iC (cJ (eR T) b! k! fR!))) (aE b9x) bL) (aF (aT nd rfl h! aL_) (aE (dQ JN rfl (kE (b6o rfl T.R4 bg_)) (b2r rfl (mU aB_ (mU aB_ a6g))) (b5o 6 7) (aF (aT nd rfl h! (aC (bR aZ dZ X_ (eI (aI b4! aO))))) (aF (dC (cJ (iK T) b! (cC N! bE hY_ K! n_) (aB h0_ (aB lQ_ aH)))) (aF (dP y! (bF T.U8 T.W7 k!) h0_ (aC dn_)) (aE (aT nd rfl h! h0_))))))))))
end
section
def jP(T:e!):Dl P w K mg base 2 t.B6 "set_number" lv_ (Ds t):=
 cS T.U8 T.H9 e_ (λhr _=>(aE (cQ (iC (cJ (eR T) b! k! av_)) (aE (dP y! s9! K! aL_)) bL)))
end
section
def b9q(T:e!):Hl P w K mg base 4 "play" lE! (Kr t):=
 bO T.K3 e_ (λhr _=>(aE (cQ bI_ (aE (dC (cJ (rP T) b! k! (aB t_ ta_)))) (aE (cQ bI_ bJ_ (aE (cQ bI_ bJ_ (aE (cQ bI_ (aE (dC (cJ (oU T) b! k! (aB t_ tb!)))) (aE (cQ bI_ bJ_ (aE (cQ bI_ (aE (dC (cJ (jP T) b! k! tb!))) bL)))))))))))))
end
section
def a9l(T:e!):Hl P w K mg base 7 "played" b2! (Jn t):=
 bO T.K4 e_ (λhr nd=>(aF (aT nd rfl h! (kG (tQ T) b! rfl)) (aF (aT nd rfl h! (aK (oP T) b! rfl aT_)) (aF (dQ JN rfl sP_ aB_ bK_ (aF lM! (aE (cQ (dF h1! fS av! K! rfl) (aE (dC (aK (b9q T) b! rfl (aB t_ (aB av! (aB h2! aH)))))) bL)))) dp_))))
end
section
def gM(T:e!):Hl P w K mg base 5 "all_taken" au_ (Cy t):=
 bO T.K7 e_ (λhr nd=>(aF lU_ (aF (dQ JN rfl (a3y ek!) aB_ (cL 2) (aE (a9x a_ (cC N! bE ek! K! n_)))) (rV (aE (aW (aC (bC (jZ T) b! rfl h2_ ar_))))))))
end
section
def iR(T:e!):Hl P w K mg base 8 "outline_of" au_ (Cf t):=
 bO T.K8 e_ (λhr _=>(aF (cQ (dF a3j (Fu.m a3s) th_ cE! m_) (aE (fO T.U7 T.X6 k! (aK (a9l T) b! rfl (aB h3! aH)))) bL) (aE (aW th_))))
end
section
def iU(T:e!):Vi P w K mg base 9 "outline_with" mr_ (Ee t):=
 jD T.N7 e_ (λhr hX nd=>(cV tk_ (cV (kB (rT (iC (cJ (iB T) b! K! av_))) (cR (mY hX T.V3 hr.hd rfl T.V1 (b4j tn!))) ds!) (lZ eq_))))
end
section
def uU(T:e!):Hl P w K mg base 1 "accept" bh_ (Jp t):=
 bO T.L9 e_ (λhr _=>(aF (dC (a7a (uZ y! ek! cG! (jF aH) di_) t_)) se_))
end
section
def mW(T:e!):Hl P w K mg base 2 "last_time" b7! (Dq t):=
 bO T.L5 e_ (λhr _=>(aF (cQ (dF U! fQ! (cJ (fM T) b! k! av_) as! m_) tp! bL) (aE (aW (cC N! bE (cC N! bE (cC N! bE ek! t_ n_) (aC lY!) n_) as! n_)))))
end
section
def wY(T:e!):Hl P w K mg base 3 "next_time" au_ (Ha t):=
 bO T.O8 e_ (λhr _=>(aE (aW (lO aZ iJ as! (b9z rfl T.R9 rfl (fX (NL:=[a6_]) (NF:=au_) (ix:=[0]) rfl a_ k_ (bS (sc:=Aj Kx) rfl k_) h4! a_ rfl (a3y ek!) (λ_ _ _ _ _=>aY (show([a6_,z_]:List Str).Nodup by decide+kernel) rfl h!) ad! fN! (λ_ _ _ _ _=>(aK (mW T) b! rfl lY_))))))))
end
section
def mV(T:e!):Hl P w K mg base 4 "make" [z_,"deed"] dt!:=
 bO T.O9 e_ (λhr nd=>(aF (aT nd rfl h! (a4b (aB h4_ (aB (lO aZ iJ (cJ (fM T) b! k! (aB h4_ aH)) as!) aH)))) (aF (dC (aK (uU T) b! rfl (aB k! (aB (lO aZ iJ K! (a4b (aB (aK (wY T) b! rfl aT_) av_))) aH)))) eq_)))
end
section
def b9o(T:e!):Vi P w K mg base 10 "put" lZ_ (Ql t):=
 jD T.P0 e_ (λhr hX _=>(cV (jE (fW hX (iU T) b! rfl b8!)) (lZ (aE (aW (aK fS_ b! rfl (aB k! (aB (aC (eI (aI aR rg!))) aH))))))))
end
section
def dY(T:e!):Vi P w K mg base 9 "outline_with_item" aC! (Bh t):=
 jD T.N8 e_ (λhr hX nd=>(cV tk_ (cV (kB (rT (iC (cJ (eR T) b! K! av_))) (cR (mY hX T.V3 hr.hd rfl T.V1 (b4j (c5e tn!)))) ds!) (lZ eq_))))
end
section
def fF(T:e!):Vi P w K mg base 10 "outline_with_number" b7_ (Dd t):=
 jD T.N9 e_ (λhr hX _=>(cV (kB (dX (fP (fB (bC (pS T) b! rfl fI! ar_)))) l0_ ds!) (cR (c4i tu!))))
end
section
def a9k(T:e!):Vi P w K mg base 11 "place" l0! (Lh t):=
 jD T.P1 e_ (λhr hX _=>(cV (jE (fW hX (fF T) b! rfl l1!)) (lZ (aE (aW (aK fS_ b! rfl (aB k! (aB (aC (eI (aI aR (aI X_ (aI am_ lM_))))) aH))))))))
end
section
def a0r(T:e!):Hl P w K mg base 2 "undoable" b7! (Ko t):=
 bO T.O7 e_ (λhr _=>(aE (aW (fX (NL:=bg!) (NF:=[]) (ix:=[]) rfl a_ k_ (bS (sc:=Aj Mp) rfl k_) Cj.nil a_ rfl (dR sb_) tw_ ad! (λ_ _ _ _ _=>kD (dX (fP (fB (bC (fA T) b! rfl bf_ ar_))))) (λ_ _ _ _ _=>(aC r1!))))))
end
section
def b3l(T:e!):Vi P w K mg base 7 "undo" au_ (Qj t):=
 jD T.P2 e_ (λhr hX nd=>(cV (qD (aT nd rfl a9! (aK (oP T) b! rfl (aB h3! aH)))) (cV (qD (lG (NL:=[T_]) (NF:=[do!]) (ix:=[1]) nd rfl h! rfl a_ k_ (bS (sc:=Aj Ua) rfl k_) hI_ a_ rfl (dR (aK (a0r T) b! rfl (aB k! (aB h4_ aH)))) (λ_ _ _ _ _=>aY (show([T_,do!]:List Str).Nodup by decide+kernel) rfl h!) ad! (λ_ _ _ _ _=>kD (dF h1! fS k! t_ rfl)) dj_)) (cV (kB (dX (bH U! bP tA! aD m_)) tA_ ds!) (lZ (aE (aW (aK fS_ b! rfl (aB k! (aB (aC (eI (aI aR (aI (aN aJ aM am_ lY! n_) aO)))) aH))))))))))
end
section
def b3m(T:e!):Vi P w K mg base 7 "redo" au_ (Qk t):=
 jD T.P3 e_ (λhr hX nd=>(cV (qD (aT nd rfl h! h3!)) (cV (qD (aT nd rfl a9! (aK (oP T) b! rfl av_))) (cV (qD (lG (NL:=bg!) (NF:=[]) (ix:=[]) nd rfl h! rfl a_ k_ tE! Cj.nil a_ rfl l3_ tw_ ad! (λ_ _ _ _ _=>kD (dX (bH U! bP hS_ aR m_))) (λ_ _ _ _ _=>(aC hS_)))) (cV (qD (lG (NL:=[T_]) (NF:=[z_,do!]) (ix:=[0,2]) nd rfl h! rfl a_ k_ tE! (Cj.cons (j:=0) tH_) a_ rfl (kE (gU at!)) (λ_ _ _ _ _=>aY (show([T_,z_,do!]:List Str).Nodup by decide+kernel) rfl h!) ad! (λ_ _ _ _ _=>kD (a0y (oV (dF U! fQ! hJ_ (bF T.U7 T.W9 t_) m_) (lF (dF dm_ fS k! K! rfl))))) dj_)) (cV (kB (dX (bH U! bP lu_ aD m_)) tA_ ds!) (lZ (aE (aW (aK fS_ b! rfl (aB k! (aB (aC (eI (aI aR (aI (aN aJ aM bg_ lY! n_) aO)))) aH))))))))))))
end
section
def lN(T:e!):Dl P w K mg base 1 t.B7 "listed" bG_ (Gd t):=
 cS T.U9 T.F8 e_ (λhr nd=>(aF lU_ (aF (aT nd rfl h! (cC N! bE er! cE! n_)) (aF (mZ JN (dX (bH wU xI am_ dU m_)) (aF (b4c (b0n a_ am_)) (aE (aT nd rfl h! (cC N! bE er! K! n_))))) (rV dp_)))))
end
section
def gG(T:e!):Dl P w K mg base 2 t.B6 "signs_of" b4_ (Br t):=
 cS T.U8 T.J5 e_ (λhr _=>(aE (aW (fX (NL:=[T_]) (NF:=bG_) (ix:=[0]) rfl a_ k_ (bS (sc:=Aj Fx) rfl k_) h4! a_ rfl (dR (a1e (lN T) b! (cC N! bE hY_ t_ n_))) tL_ ad! (λ_ _ _ _ _=>kD (dF h1! fS k! (bF T.U8 T.W8 t_) rfl)) dj_))))
end
section
def wW(T:e!):Vi P w K mg base 10 "signs_at" b7_ (Gz t):=
 jD T.P4 e_ (λhr hX nd=>(cV (b3z nd rfl h! (b9t (gG T) b! tu! av_)) (cV (kB (dX (fP (a1z iP iQ iP iQ aD am_ tM_))) l0_ ds!) (lZ (aE (aW aL_))))))
end
section
def a9j(T:e!):Vi P w K mg base 11 "write" uQ_ (Om t):=
 jD T.P5 e_ (λhr hX nd=>(cV (b3z nd rfl h! (fW hX (wW T) b! rfl l1!)) (cV (kB (dX (fP (fB (bM hF_ zF rfl T.Q9 zJ (aI (qJ (NL:=ee!) (NF:=[]) (ix:=[]) rfl a_ k_ (bS (sc:=Aj Qx) rfl k_) Cj.nil a_ rfl (b6n at!) r8! ad! hG! r8_) aO))))) l0_ ds!) (lZ (aF (aT nd rfl h! (aC (b6r (bH a6p a6r am_ aD m_) (aN aJ aM bg_ (bR rG rR am_ aD) n_) dU))) (aF (aT nd rfl h! (jF aH)) (aF (dQ JN rfl (kE (b0o rfl T.S7 aD tM_ ei!)) aB_ (cL 7) (aF (aT nd rfl h! (aK fS_ b! rfl (aB k! (aB (aC (eI (aI aR (aI X_ (aI aK_ (aI (vT at! (eC dn_) (eC (bR aZ dZ dn_ ei!))) aO)))))) aH)))) (aF (dC (a7a (aC b4!) h0_)) (aE (aT nd rfl h! (aC (bR aZ dZ (aA 8) (eI (aI (bR rG rR ei! aD) aO))))))))) (aE (aW (aC b4!))))))))))
end
section
def b3o(T:e!):Hl P w K mg base 12 "_law_make" uS! (Lj t):=
 bO T.Q6 e_ (λhr nd=>(aF (aT nd rfl h! (aC (bR eY eZ X_ aD))) (aF tW_ (aF (b9w (L:=_) rfl rfl (λ_=>hr.hd) (λ_ _=>b3a) (λ_=>Ao.int) rfl T.V0 T.V5 (XS.vW T.V6 (XS.vW T.V7 XS.b7d)) (λpn f M0 G0 F0 E hX=>(cR (kB (dX (bH a6o a6q at! aD m_)) (cV (qD tW_) (cR (jE (b9u K! (fW hX (b9o T) b! rfl (aB k! (aB av! (aB (aC (b6r (bH U! bP aK_ aR m_) dU aK_)) aH)))))))) (cR (kB t2! (cR (jE (fW hX (a9j T) b! rfl (aB k! (aB av! (aB as! (aB (aC (vT aR (eC ib_) eX)) aH))))))) (cR (kB t2! (cR (jE (fW hX (a9k T) b! rfl (aB k! (aB av! (aB (aC ib_) (aB (aC ib_) aH))))))) (cR (kB (dX (bH U! bP ib_ aD m_)) (cR (jE (fW hX (b3l T) b! rfl aT_))) (cR (jE (fW hX (b3m T) b! rfl aT_))))))))))))) tp!))))
end
section
def a6t(T:e!):Ok P w K mg base 2 "_law_mix" fT_ (Ks):=
 fL T.P7 e_ (λhr nd=>(eH (b6i nd rfl h! (bR eY eZ (bR aZ dZ (bC (b3q T) b! rfl (aI J! h2_) df_) (bR a3i a3l aD (bR aZ dZ X_ aD))) aD)) (eH (b6i nd rfl h! (bR eY eZ (bR a3i a3l am_ aD) aD)) (bV (cI (bR eY eZ (bR aZ dZ (bR a3i a3l (bR gK gL am_ aD) aD) am_) aD))))))
end
section
def pT(T:e!):Hl P w K mg base 1 "_law_ordered" eB! (Ej):=
 bO T.P8 e_ (λhr nd=>(aF lU_ (aF (dQ JN rfl sS_ aB_ (cL 2) (aF (aT nd rfl h! (aC (c1e t9!))) (aF (mZ JN (dX (zA (a4s (bH a6p a6r at! aD m_) (yZ (bH (c3y (Ai.units0 hr)) c4g (eI (aI ua_ (aI ua_ aO))) (eI (aI b6! (aI b6! aO))) m_))))) (aE (aT nd rfl h! (aC ua!)))) (aE (b4c (b0m a_ at! am_)))))) (rV dp_))))
end
section
def a3q(T:e!):Hl P w K mg base 2 "_law_undone" eB! (Jw):=
 bO T.P9 e_ (λhr nd=>(aF fO_ (aF (dQ JN rfl ue! aB_ (cL 2) (aE (cQ (dF dm_ fS hW! id_ rfl) (aE (dP y! t_ hW! (aC (fQ U! bP sQ! aR m_)))) bL))) dp_)))
end
section
def b3n(T:e!):Hl P w K mg base 3 "_law_play" eB! (Nh):=
 bO T.Q2 e_ (λhr nd=>(aF (aT nd rfl h! (nE y! (gP aK! lr! (gP aK! eW (gP aK! eW rW))))) (aF (aT nd rfl h! (aK (a3q T) b! rfl aT_)) (aF (dQ JN rfl ue! aB_ bK_ (aE (cQ (a0y (oV (dF h1! fS (aC (aN aJ aM h1_ aD n_)) id_ rfl) (lF (rT (iC (kH y! K! (aC (eI (aI h1_ (aI h1_ aO)))) fQ_ di_)))))) (aE (dC (aK (c4c T) b! rfl s3!))) bL))) dp_))))
end
section
def rQ(T:e!):Hl P w K mg base 1 "_law_shown_text" ew! (Fk):=
 bO T.Q4 e_ (λhr _=>(aE (aW (a6z (fX (NL:=ul_) (NF:=[]) (ix:=[]) rfl a_ k_ (bS (sc:=Aj Jf) rfl k_) Cj.nil a_ rfl (dR (cC N! bE b3_ t_ n_)) (λ_ _ _ _ _=>aY (show(ul_:List Str).Nodup by decide+kernel) rfl h!) ad! (λ_ _ _ _ _=>kD (dX (fB aI_))) sh!)))))
end
section
def a0s(T:e!):Hl P w K mg base 9 "there" aC! (Jt t):=
 bO T.O0 e_ (λhr _=>(aE (aW (cJ (iB T) b! tk! av_))))
end
section
def kA(T:e!):Dl P w K mg base 1 t.B6 "parent_of" aA_ (Dz t):=
 cS T.U8 T.J0 e_ (λhr _=>(aE (aW (cC N! bE s1_ t_ n_))))
end
section
def gD(T:e!):Hl P w K mg base 9 "outline_with_item" aC! (Cd t):=(dY T).m
end
section
def a9m(T:e!):Hl P w K mg base 10 "parent" aC! (Li t):=
 bO T.O3 e_ (λhr _=>(aE (aW (cJ (kA T) b! uo! av_))))
end
section
def jC(T:e!):Dl P w K mg base 2 t.B6 "children_of" aA_ (Dk t):=
 cS T.U8 T.J4 e_ (λhr _=>(aE (aW (a1e (lN T) b! (cC N! bE hR_ t_ n_)))))
end
section
def qB(T:e!):Hl P w K mg base 9 "outline_with" mr_ (Gq t):=(iU T).m
end
section
def a0t(T:e!):Hl P w K mg base 10 "children" aC! (Gu t):=
 bO T.O4 e_ (λhr _=>(aE (aW (cJ (jC T) b! (aK (qB T) b! rfl b8!) av_))))
end
section
def lX(T:e!):Dl P w K mg base 3 t.B6 "text_of" b4_ (Eu t):=
 cS T.U8 T.J6 e_ (λhr _=>(aE (aW (a6z (fX (NL:=[T_]) (NF:=bG_) (ix:=[0]) rfl a_ k_ (bS (sc:=Aj Gi) rfl k_) h4! a_ rfl (dR (cJ (gG T) b! k! av_)) tL_ ad! fN! (λ_ _ _ _ _=>(cC N! bE (bF T.U8 T.W7 t_) k! n_)))))))
end
section
def b9p(T:e!):Hl P w K mg base 10 "text" aC! (Qm t):=
 bO T.O5 e_ (λhr _=>(aE (aW (cJ (lX T) b! uo! av_))))
end
section
def jQ(T:e!):Dl P w K mg base 1 t.B6 "numbers_of" b4_ (Dt t):=
 cS T.U8 T.J7 e_ (λhr _=>(aE (aW (vA zG c1j rfl T.R8 a8g (aB s9! aH)))))
end
section
def jB(T:e!):Hl P w K mg base 10 "outline_with_number" b7_ (Dj t):=(fF T).m
end
section
def a9n(T:e!):Hl P w K mg base 11 "number" b7_ (Jo t):=
 bO T.O6 e_ (λhr _=>(aE (aW (cC N! bE (cJ (jQ T) b! (aK (jB T) b! rfl l1!) av_) K! n_))))
end
section
def a9o(T:e!):Hl P w K mg base 12 "_law_shows" [cA!,cz_] (Jq t):=
 bO T.Q5 e_ (λhr nd=>(aF (aT nd rfl h! (aK (b3n T) b! rfl av_)) (aF (dQ JN rfl (dR (lO aZ iJ id_ (vA (uC rfl) b6z rfl T.R8 a8g (aB if_ aH)))) uw_ bK_ (aE (cQ (a0y (c2b (dF a9i (Fu.m b3r) (aK (a0s T) b! rfl ey_) fQ_ m_) (b4b (dF cF! rJ (aK (a0t T) b! rfl ey_) (aK (xG T) b! rfl ux_) m_)))) ez! bL))) (aF (dQ JN rfl (a3y if_) uw_ bK_ (aF (cQ (dF cF! rJ (aK (b9p T) b! rfl ey_) (aK (rQ T) b! rfl ux_) m_) ez! bL) (aF (cQ (dF cF! rJ (a4c (aB (a4b (aB aL_ (aB (aK (a9m T) b! rfl ey_) aH))) aH)) (fX (NL:=[bM!]) (NF:=[bj_]) (ix:=[3]) rfl a_ k_ uz_ lD_ a_ rfl (dR if_) lt_ ad! sg_ dj_) m_) ez! bL) (aE (cQ (dF cF! rJ (fX (NL:=[bZ_]) (NF:=[cA!,bj_]) (ix:=[0,3]) rfl a_ k_ uz_ (Cj.cons (j:=0) lD_) a_ rfl uA! (λ_ _ _ _ _=>aY (show([bZ_,cA!,bj_]:List Str).Nodup by decide+kernel) rfl h!) ad! fN! (λ_ _ _ _ _=>(aK (a9n T) b! rfl (aB t_ (aB K! aT_))))) (cC N! bE if_ aL_ n_) m_) ez! bL))))) (aE (aW (mB c3v (Fu.m b3r) (aK (a0s T) b! rfl (aB k! (aB id_ aH))) fQ_ m_)))))))
end
section
def rN(T:e!):Hl P w K mg base 2 "is_next" bh_ (Gg t):=
 bO T.L4 e_ (λhr _=>(aE (aW (mB U! fQ! cG! (lO aZ iJ uC_ as!) m_))))
end
section
def mX(T:e!):Hl P w K mg base 3 "accept_waiting" au_ (Dv t):=
 bO T.M9 e_ (λhr nd=>(aF hK! (aF (lG (NL:=bg!) (NF:=au_) (ix:=[0]) nd rfl h! rfl a_ k_ (bS (sc:=Aj Gy) rfl k_) h4! a_ rfl (dR uD_) (λ_ _ _ _ _=>aY (show([bG!,z_]:List Str).Nodup by decide+kernel) rfl h!) ad! (λ_ _ _ _ _=>kD (iC (aK (rN T) b! rfl lY_))) dj_) (aF (mZ JN (dX (bH a6p a6r tA! aD m_)) oX) dp_))))
end
section
def xE(T:e!):Ok P w K mg base 6 "are_parts" ll! (El t):=
 fL T.E4 e_ (λhr _=>(eH (nV (bH uR uT fF! t9! m_) eg_ gS) (bV (cI (bM hF_ zF rfl T.Q9 zJ (aI (qJ (NL:=uE!) (NF:=[]) (ix:=[]) rfl a_ k_ (bS (sc:=Aj Ky) rfl k_) Cj.nil a_ rfl (c5m rfl T.T1 c5w X_ J!) (λ_ _ _ _ _=>b2r rfl (mU uE_ (mU uE_ a6g))) (c0p 0 1) hG! (λ_ _ _ _ _=>(b6s (j:=0) (n:=1) (c0q T) b! h2_ ar_))) aO))))))
end
section
def a3p(T:e!):Ok P w K mg base 7 "is_deed" z! (Ht t):=
 fL T.E5 e_ (λhr _=>(eH (nV (zA (vQ rZ! (pJ (bH U! bP fF! aD m_)))) eg_ gS) (eH (nV (zA (vQ (fP (fB (kQ a7m rfl T.R6 rfl T.S9 dD b7n aI_))) (pJ (b0l uI! rfl aI_)))) eg_ gS) (eH (nV (fP (fB (bC (xE T) b! rfl (aI (eJ J! (eC aD) eX) (aI (c1d uI! rfl aI_ n_) aO)) df_))) eg_ gS) (bV (cI (vU (fQ uR uT aI_ aR m_) (gE (fQ iP iQ (bR aZ dZ hS_ aI_) ei! m_)))))))))
end
section
def qC(T:e!):Ok P w K mg base 8 "is_operation" z! (Bl t):=
 fL T.E6 e_ (λhr _=>(eH lm_ (bV (cI (jK r1_ (jK r0! (gE (bC (a3p T) b! rfl ln! ar_))))))))
end
section
def wX(T:e!):Hl P w K mg base 2 "was_taken" bh_ (Fp t):=
 bO T.K9 e_ (λhr _=>(aE (aW (mB iP (Fu.m iQ) cG! uC_ m_))))
end
section
def oR(T:e!):Hl P w K mg base 3 "not_yet_taken" dr! (Df t):=
 bO T.L6 e_ (λhr nd=>(aF fO_ (aF (dQ JN rfl (dR (lO aZ iJ uD_ t_)) aB_ bK_ (aF lM! (aF (cQ (iC (aK (wX T) b! rfl ey_)) bJ_ (aE (cQ (dF U! fQ! (aC (aN aJ aM bg_ aD n_)) h4_ m_) bJ_ (aE (aT nd rfl h! (uZ y! K! av! aL_ di_)))))) (aE (cQ (dX (bH cF! a3r aK_ at! m_)) bJ_ bL))))) eq_)))
end
section
def rO(T:e!):Hl P w K mg base 3 "check_times" [z_,hY!] (Hi t):=
 bO T.L7 e_ (λhr nd=>(aF fO_ (aE (dQ JN rfl (dR (nF (uB rfl) b6y rfl T.S8 vZ av_)) aB_ bK_ (aF (aT nd rfl h! (cC N! bE (cC N! bE t_ aL_ n_) as! n_)) (aF (cQ (dF iP (Fu.m iQ) av! (kH y! K! h2! (aK (mW T) b! rfl (aB k! (aB h2! aH))) di_) m_) bJ_ bL) (aE (dP y! K! h2! av!))))))))
end
section
def oS(T:e!):Hl P w K mg base 9 "check_message" dr! (Ef t):=
 bO T.L8 e_ (λhr _=>(aF (cQ (dX (fP (fB (bM hF_ zF rfl T.Q9 zJ (aI (qJ (NL:=z!) (NF:=[]) (ix:=[]) rfl a_ k_ (bS (sc:=Aj Hm) rfl k_) Cj.nil a_ rfl (gU X_) (λ_ _ _ _ _=>aY (show(z!:List Str).Nodup by decide+kernel) rfl h!) ad! hG! (λ_ _ _ _ _=>(bC (qC T) b! rfl bf_ ar_))) aO))))) bJ_ bL) (aE (dC (aK (rO T) b! rfl (aB k! (aB (aK (oR T) b! rfl b8!) aH)))))))
end
section
def xB(T:e!):Hl P w K mg base 6 "give" [z_,"have"] dr_:=
 bO T.N4 e_ (λhr nd=>(aF (aT nd rfl a9! (a9z y! rfl T.R3 rfl T.R4 rfl t_)) (aE (aW (fX (NL:=bg!) (NF:=[lT!]) (ix:=[2]) rfl a_ k_ (bS (sc:=Aj Ub) rfl k_) tH_ a_ rfl (dR h3!) (λ_ _ _ _ _=>aY (show([bG!,lT!]:List Str).Nodup by decide+kernel) rfl h!) ad! (λ_ _ _ _ _=>kD (dF a6p (Fu.m a6r) hJ_ (kH y! t_ hJ_ as! di_) m_)) dj_)))))
end
section
def rK(T:e!):Hl P w K mg base 7 "lacking" b7! (Hs t):=
 bO T.N5 e_ (λhr _=>(aE (aW (aK (xB T) b! rfl (aB k! (aB (fX (NL:=[hK_]) (NF:=[a6_]) (ix:=[1]) rfl a_ k_ (bS (sc:=Aj Nq) rfl k_) hI_ a_ rfl (kE (iG rfl T.S7 rZ_)) (λ_ _ _ _ _=>aY (show([hK_,a6_]:List Str).Nodup by decide+kernel) rfl h!) ad! fN! (λ_ _ _ _ _=>(cJ (fM T) b! t_ aT_))) aH))))))
end
section
def a3m(T:e!):Hl P w K mg base 4 "receive" bh_ (Hr t):=
 bO T.N0 e_ (λhr _=>(aF (cQ (iC (aK (rN T) b! rfl b8!)) (aF (dC (aK (uU T) b! rfl b8!)) (aE (aW (lO aZ iJ as! (aK (mX T) b! rfl aT_))))) bL)
   oX))
end
section
def a6s(T:e!):Hl P w K mg base 10 "take" dr! (Kq t):=
 bO T.N3 e_ (λhr nd=>(aF (dC (aK (oS T) b! rfl b8!)) (aF hK! (aF (dQ JN rfl l3_ aB_ bK_ (aE (c4j nd rfl h! (aK (a3m T) b! rfl ey_)))) eq_))))
end
section
def wZ(T:e!):Hl P w K mg base 11 "met" ["one",a6_] dx!:=
 bO T.N6 e_ (λhr nd=>(aF (aT nd rfl h! (aK (a6s T) b! rfl (aB t_ (aB (aK (rK T) b! rfl b8!) aH)))) (aE (aW (lO aZ iJ K! (aK (a6s T) b! rfl (aB k! (aB (aK (rK T) b! rfl lY_) aH))))))))
end
def Zb(K:zM!):Sp:=λvs H Q E=>∀(P:xc!) (w:wZ!) (t:As),t.nd->Zz P w K 1 (Zi t) vs H Q E
section
variable{P:xc!}{w:wZ!}{K:zM!}{mg:Str->Option Value}{h:Heap}
def c6e(f9:mg "law"=some eu_)(dl:AW K mg "law" Sn [db_])(T:Txt P w K mg il!)(nd:As.nd il!):
  ∃fd:FuncData,(∀(s:xR!) (u:wY!),BindsTo s fd ic! [("_law_script",u)])/\∀base:Heap,K.In base->base.Ns mainGlobals mg->Eb P w K mg base Ng 13 fa fd [db_] (Zb K):=by
 obtain⟨fd,Y,h2⟩:=c0f (ce:=[]) (k:=12) (P:=P) (w:=w) (q:=Wo il!) dl iZ f9 (λbase ag ah A outer s H E hr=>(aF (aT (i:=1) iZ.nd rfl h! (a4c (aB mu_ (aB mu_ (aB mu_ aH)))))
   (aF (aT (i:=2) iZ.nd rfl h! (a4c (aB mv! (aB mv! (aB mv! aH)))))
   (aF (dQ JN rfl (kE (iG rfl T.S7 (bR eY eZ (bC (a6t T) b! rfl (aI J! (aI aD aO)) df_) aD))) u4! bK_ (aF (aT (i:=6) iZ.nd rfl h! (aC (bC (a6t T) b! rfl (aI J! (aI (bR aZ dZ aD at!) aO)) df_)))
   (aF (aT (i:=7) iZ.nd rfl h! (aC (bR eY eZ b4! aD)))
   (aE (cQ (dX (bH U! bP (bR eY eZ u7! aD) aD m_)) (aE (dC (aK (wZ T) b! rfl (aB u7_ (aB (aC (aN aJ aM X_ (bR eY eZ sw_ aD) n_)) aH))))) (aE (dC (aK (b3o T) b! rfl (aB u7_ (aB (aC u7!) (aB (aC (aN aJ aM am_ dn_ n_)) aH)))))))))))
   (aF (dQ JN rfl uA! u4! bK_ (aF mx!
   (aE mx!)))
   (aF mx!
   (aF (aT (i:=4) iZ.nd rfl h! (aK (xB T) b! rfl (aB cG! u9_)))
   (aF (dQ JN rfl l3_ (aY (i:=5) iZ.nd rfl h!) (cL 5) (aE (cQ (a0y (c2b (dF cF! rJ (aK (xB T) b! rfl (aB lQ_ u9_)) av! m_) (b4b (rT (iC (aK (a9o T) b! rfl (aB lQ_ (aB av! aH)))))))) ez! bL)))
   ez!))))))))
 exact⟨fd,Y,λbase i g=>(h2 base i g).imp λvs H Q E z=>z P w _ nd⟩
def b0h{ad:qT!}{k3:Tok}{o0 o1 o2 o3 o4 o5 o6 o7:dw_}{n0 n1 n2 n3 n4 n5 n6 n7 ep:Nat}{s0 s1 s2 s3 s4 s5 s6 s7:mg_}(X:K.In h)(G:eT_)
  (ga:W.nsIn K mainGlobals "PARTS"=some (some iS_))(gl:K.lookup ad=some {cls:=.type "dict",data:=.dict #[⟨PyData.keyHash w.params "put",.str "put" k0,.ref r0⟩,⟨PyData.keyHash w.params "move",.str "move" k1,.ref r1⟩,⟨PyData.keyHash w.params "drop",.str "drop" k2,.ref r2⟩,⟨PyData.keyHash w.params "write",.str "write" k3,.ref r3⟩,⟨PyData.keyHash w.params "cut",.str "cut" k4,.ref r4⟩,⟨PyData.keyHash w.params "set",.str "set" k5,.ref r5⟩,⟨PyData.keyHash w.params "undo",.str "undo" k6,.ref r6⟩,⟨PyData.keyHash w.params "redo",.str "redo" k7,.ref r7⟩] ep})(gs:nh_=false)
  (l0:K.lookup r0=some ⟨cj!,o0,.seq #[.ref B8,.ref B9] n0,s0⟩)
  (l1:K.lookup r1=some ⟨cj!,o1,.seq #[.ref B8,.ref B8,.ref B9] n1,s1⟩)
  (l2:K.lookup r2=some ⟨cj!,o2,.seq #[.ref B8] n2,s2⟩)
  (l3:K.lookup r3=some ⟨cj!,o3,.seq #[.ref B8,.ref C1,.ref C2] n3,s3⟩)
  (l4:K.lookup r4=some ⟨cj!,o4,.seq #[.ref B8,.ref C3,.ref C4] n4,s4⟩)
  (l5:K.lookup r5=some ⟨cj!,o5,.seq #[.ref B8,.ref C5,.ref C6] n5,s5⟩)
  (l6:K.lookup r6=some ⟨cj!,o6,.seq #[.ref C7] n6,s6⟩)
  (l7:K.lookup r7=some ⟨cj!,o7,.seq #[.ref C7] n7,s7⟩)
  :∀X:Cx,X.prog=P->X.w=w->X.K=K->X.mg=mg->Sc X "PARTS" (Dh il!):=λg7 e1 e2 e3 e4=>
 b5p (rows:=[("put",k0,r0),("move",k1,r1),("drop",k2,r2),("write",k3,r3),("cut",k4,r4),("set",k5,r5),("undo",k6,r6),("redo",k7,r7)]) (w:=w) e2 e3 e4 (dJ X G ga) gs gl (show(["put","move","drop","write","cut","set","undo","redo"]:List Str).Nodup by decide+kernel) ⟨rfl,fZ (fs:=[B8,B9]) l0 (by show 2<=1000;decide),rfl,fZ (fs:=[B8,B8,B9]) l1 ir!,rfl,fZ (fs:=[B8]) l2 mA!,rfl,fZ (fs:=[B8,C1,C2]) l3 ir!,rfl,fZ (fs:=[B8,C3,C4]) l4 ir!,rfl,fZ (fs:=[B8,C5,C6]) l5 ir!,rfl,fZ (fs:=[C7]) l6 mA!,rfl,fZ (fs:=[C7]) l7 mA!,trivial⟩
end
end K14
open PySem PySem.W PyProof.Rows
set_option tactic.hygienic true in
set_option maxRecDepth 100000 in
set_option maxHeartbeats 0 in
theorem PySem.Challenge.cw_manyhands_k14_whole_nothing_lost_holds : PySem.Challenge.rw_manyhands_k14_whole_nothing_lost.Holds := by
 w_on;o_law;k_head;(case hw=>w_witness2)
 k_fill
 refine L2.b0x (l:=PySem.Challenge.rw_manyhands_k14_whole_nothing_lost) (n:=63) (k:=13) (x:="_law_script") (CX:=L2.Ng) (sp:=K14.Zb) rfl (by decide) rfl ⟨rfl,by decide,by decide,rfl⟩ (λw h Y=>W.kIn_of Y) ?F (λK H a ns hl _ hS P w t nd=>DL.c0e hS (K14.b4v nd)) (λ_ _ _ _ z=>z)
 case F=>
  intro w mg fa h KX G hmg;refine' K14.c6e hmg ?dl ⟨?D2,?D3,?D4,?D5,?D6,?D7,?D8,?D9,?E1,?E2,?E3,?E4,?E5,?E6,?E7,?E8,?E9,?F6,?F7,?F8,?F9,?G6,?G7,?G8,?G9,?H9,?J0,?J4,?J5,?J6,?J7,?J8,?J9,?K0,?K3,?K4,?K5,?K6,?K7,?K8,?K9,?L4,?L5,?L6,?L7,?L8,?L9,?M9,?N0,?N3,?N4,?N5,?N6,?N7,?N8,?N9,?O0,?O3,?O4,?O5,?O6,?O7,?O8,?O9,?P0,?P1,?P2,?P3,?P4,?P5,?P6,?P7,?P8,?P9,?Q0,?Q1,?Q2,?Q3,?Q4,?Q5,?Q6,?Q7,?Q8,?Q9,?R0,?R3,?R4,?R5,?R6,?R7,?R8,?R9,?S0,?S7,?S8,?S9,?T0,?T1,?T2,?T3,?T4,?T5,?T6,?T7,?T8,?T9,?U0,?U2,?U3,?U4,?U5,?U6,?U7,?U8,?U9,?V0,?V1,?V2,?V3,?V4,?V5,?V6,?V7,?V8,?V9,?W3,?W4,?W5,?W6,?W7,?W8,?W9,?X4,?X5,?X6,?gp⟩ ?nd
  (case E9=>show"!!")
  (case F9=>show"!!")
  (case K5=>(dsimp only;refine' DL.b4e (DL.dJ KX G ?g) ?a ?i ?l ?c ?k ?mm ?kc ?b;(case g=>k_is);(case a=>k_is);(case i=>k_is);(case l=>k_is);(case c=>k_is);(case k=>k_is);(case mm=>k_is);(case kc=>k_is);(case b=>exact λ_ _ _ _ _ _=>DL.iX λ_ _=>rfl)))
  (case D2=>show"!#")
  (case D3=>show"!$")
  (case D4=>show"!#")
  (case D5=>show"!#")
  (case D6=>show"!#")
  (case D7=>show"!#")
  (case D8=>show"!#")
  (case D9=>show"!#")
  (case E1=>show"!#")
  (case E2=>show"!#")
  (case E3=>show"!#")
  (case E4=>show"!$")
  (case E5=>show"!#")
  (case E6=>show"!#")
  (case E7=>show"!#")
  (case E8=>show"!#")
  (case F6=>show"!%")
  (case F7=>(dsimp only;refine' DL.eB ?a ?i ?l ?c ?k ?b;(case a=>k_is);(case i=>k_is);(case l=>k_is);(case c=>k_is);(case k=>k_is);(case b=>exact λ_ _ _ _ _ _=>DL.us3 λ_ _ _=>rfl)))
  (case F8=>(dsimp only;refine' DL.eB ?a ?i ?l ?c ?k ?b;(case a=>k_is);(case i=>k_is);(case l=>k_is);(case c=>k_is);(case k=>k_is);(case b=>exact λ_ _ _ _ _ _=>DL.lK λ_=>rfl)))
  (case G6=>show"!%")
  (case G7=>show"!%")
  (case G8=>show"!&")
  (case G9=>(dsimp only;refine' DL.eB ?a ?i ?l ?c ?k ?b;(case a=>k_is);(case i=>k_is);(case l=>k_is);(case c=>k_is);(case k=>k_is);(case b=>exact λ_ _ _ _ _ _=>DL.us5 λ_ _ _ _ _=>rfl)))
  (case H9=>show"!&")
  (case J0=>show"!%")
  (case J4=>show"!%")
  (case J5=>show"!%")
  (case J6=>show"!%")
  (case J7=>show"!%")
  (case J8=>show"!#")
  (case J9=>show"!#")
  (case K0=>show"!#")
  (case K3=>show"!'")
  (case K4=>show"!#")
  (case K6=>show"!%")
  (case K7=>show"!#")
  (case K8=>show"!#")
  (case K9=>show"!$")
  (case L4=>show"!$")
  (case L5=>show"!$")
  (case L6=>show"!$")
  (case L7=>show"!$")
  (case L8=>show"!$")
  (case L9=>show"!$")
  (case M9=>show"!#")
  (case N0=>show"!$")
  (case N3=>show"!$")
  (case N4=>show"!$")
  (case N5=>show"!$")
  (case N6=>show"!$")
  (case N7=>show"!$")
  (case N8=>show"!$")
  (case N9=>show"!'")
  (case O0=>show"!$")
  (case O3=>show"!$")
  (case O4=>show"!$")
  (case O5=>show"!$")
  (case O6=>show"!'")
  (case O7=>show"!$")
  (case O8=>show"!#")
  (case O9=>show"!$")
  (case P0=>show"!'")
  (case P1=>show"!(")
  (case P2=>show"!#")
  (case P3=>show"!#")
  (case P4=>show"!'")
  (case P5=>show"!(")
  (case P6=>show"!$")
  (case P7=>show"!$")
  (case P8=>show"!#")
  (case P9=>show"!#")
  (case Q0=>show"!(")
  (case Q1=>show"!$")
  (case Q2=>show"!#")
  (case Q3=>show"!$")
  (case Q4=>show"!$")
  (case Q5=>show"!$")
  (case Q6=>show"!'")
  (case Q7=>show"!#")
  (case dl=>(refine' DL.c1a KX G ?a ?l ?c ?k ?b;(case a=>k_is);(case l=>k_is);(case c=>k_is);(case k=>k_is);(case b=>exact λ_ _ _ _ _ _=>DL.lK λ_=>rfl)))
  (case Q8=>show"!)")
  (case Q9=>show"!)")
  (case R0=>show"!)")
  (case R3=>show"!)")
  (case R4=>show"!)")
  (case R5=>show"!)")
  (case R6=>show"!)")
  (case R7=>show"!)")
  (case R8=>show"!)")
  (case R9=>show"!)")
  (case S0=>show"!)")
  (case S7=>show"!)")
  (case S8=>show"!)")
  (case S9=>show"!)")
  (case T0=>show"!)")
  (case T1=>show"!)")
  (case T2=>show"!*")
  (case T3=>show"!*")
  (case T4=>show"!*")
  (case T5=>show"!*")
  (case T6=>show"!*")
  (case T7=>show"!+")
  (case T8=>show"!+")
  (case T9=>show"!+")
  (case U0=>show"!+")
  (case U2=>show"!+")
  (case U3=>show"!+")
  (case U4=>show"!+")
  (case U5=>show"!+")
  (case U6=>show"!+")
  (case U7=>show"!,")
  (case U8=>show"!,")
  (case U9=>show"!,")
  (case V0=>show"!+")
  (case V1=>show"!+")
  (case V2=>show"!+")
  (case V3=>show"!-")
  (case V4=>show"!-")
  (case V5=>(dsimp only;refine' XS.c5v ?ta ?tb ?tc;(case ta=>k_is);(case tb=>k_is);(case tc=>k_is)))
  (case V6=>show"!.")
  (case V7=>show"!.")
  (case V8=>show"!/")
  (case V9=>show"!/")
  (case W3=>show"!/")
  (case W4=>show"!/")
  (case W5=>show"!/")
  (case W6=>show"!/")
  (case W7=>show"!/")
  (case W8=>show"!/")
  (case W9=>show"!/")
  (case X4=>show"!/")
  (case X5=>show"!/")
  (case X6=>show"!/")
  (case gp=>(refine' K14.b0h KX G ?ga ?gl ?gs ?l0 ?l1 ?l2 ?l3 ?l4 ?l5 ?l6 ?l7;(case ga=>k_is);(case gl=>k_is);(case gs=>decide);(case l0=>k_is);(case l1=>k_is);(case l2=>k_is);(case l3=>k_is);(case l4=>k_is);(case l5=>k_is);(case l6=>k_is);(case l7=>k_is)))
  (case nd=>(unfold K14.As.nd;decide))
